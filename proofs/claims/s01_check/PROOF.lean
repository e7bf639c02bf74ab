import PyProof.Rows.All
import Wide.All
import OpenK.AllK
import Wide.FinOn
import PyProof.EqAt
import PyProof.EqKinds
import PyProof.TupleCall
import KE.BitLaws
import Open.SpecLaws
import KE.OsHead
import KE.OsGo
import KE.IntBitsLaws
import PySem.Challenge.RW_numberpictures_s01_check
section
set_option Elab.async false
set_option linter.all false
set_option maxRecDepth 100000
namespace L2
open PySem PySem.Spec PyProof.Rows
abbrev Key := Sum Int Str
def keyIs : Key → Value → Bool
  | .inl k, v => Value.isInt k v
  | .inr x, v => Value.isStrOf x v
def keyH (w : World) : Key → Int
  | .inl k => hashInt k
  | .inr x => hashStr w x
theorem keyIs_shape : ∀ {k : Key} {v : Value}, keyIs k v = true → (∃ i t, k = Sum.inl i ∧ v = Value.int i t) ∨ (∃ x t, k = Sum.inr x ∧ v = Value.str x t)
  | .inl i, v, h => by
    obtain ⟨t, e⟩ := Value.isInt_shape (k := i) (v := v) h
    exact .inl ⟨i, t, rfl, e⟩
  | .inr x, v, h => by
    obtain ⟨t, e⟩ := Value.isStrOf_shape (x := x) (v := v) h
    exact .inr ⟨x, t, rfl, e⟩
theorem keyIs_int (i : Int) (t : Tok) : keyIs (.inl i) (.int i t) = true := by simp [keyIs, Value.isInt]
theorem keyIs_str (x : Str) (t : Tok) : keyIs (.inr x) (.str x t) = true := by simp [keyIs, Value.isStrOf]
theorem key_ll (a b : Int) : decide ((Sum.inl a : Key) = Sum.inl b) = (a == b) := by
  by_cases e : a = b
  · subst e; simp
  · have h : ¬ (Sum.inl a : Key) = Sum.inl b := fun q => e (Sum.inl.inj q)
    rw [decide_eq_false h]
    exact (beq_eq_false_iff_ne.mpr e).symm
theorem key_rr (a b : Str) : decide ((Sum.inr a : Key) = Sum.inr b) = decide (a = b) := by
  by_cases e : a = b
  · subst e; simp
  · have h : ¬ (Sum.inr a : Key) = Sum.inr b := fun q => e (Sum.inr.inj q)
    rw [decide_eq_false h, decide_eq_false e]
theorem key_lr (a : Int) (b : Str) : decide ((Sum.inl a : Key) = Sum.inr b) = false := decide_eq_false (fun q => nomatch q)
theorem key_rl (a : Str) (b : Int) : decide ((Sum.inr a : Key) = Sum.inl b) = false := decide_eq_false (fun q => nomatch q)
def mixKind (prog : Program) (w : World) : PySem.KeyKind prog w Key where
  is := keyIs
  hash := keyH w
  inj := fun v a b ha hb => by
    rcases keyIs_shape ha with ⟨i, t, rfl, rfl⟩ | ⟨x, t, rfl, rfl⟩
    · rcases keyIs_shape hb with ⟨j, u, rfl, e⟩ | ⟨y, u, rfl, e⟩
      · injection e with e1 _; rw [e1]
      · exact nomatch e
    · rcases keyIs_shape hb with ⟨j, u, rfl, e⟩ | ⟨y, u, rfl, e⟩
      · exact nomatch e
      · injection e with e1 _; rw [e1]
  byValue := fun k v h => by
    rcases keyIs_shape h with ⟨i, t, rfl, rfl⟩ | ⟨x, t, rfl, rfl⟩ <;> rfl
  pyHash := fun hv h => by
    rcases keyIs_shape hv with ⟨i, t, rfl, rfl⟩ | ⟨x, t, rfl, rfl⟩
    · exact wpAny_pyHash_int h
    · exact wpAny_pyHash_str h
  eqBool := fun hu hv h => by
    rcases keyIs_shape hu with ⟨i, t, rfl, rfl⟩ | ⟨x, t, rfl, rfl⟩
    · rcases keyIs_shape hv with ⟨j, u, rfl, rfl⟩ | ⟨y, u, rfl, rfl⟩
      · rw [key_ll] at h; exact wpAny_eqBool_int h
      · rw [key_lr] at h; exact SeqAt.EqAt.int_str i t y u _ _ _ _ h
    · rcases keyIs_shape hv with ⟨j, u, rfl, rfl⟩ | ⟨y, u, rfl, rfl⟩
      · rw [key_rl] at h; exact SeqAt.EqAt.str_int x t j u _ _ _ _ h
      · rw [key_rr] at h; exact wpAny_eqBool_str h
  «strs» := fun k x t v h => by
    rcases keyIs_shape h with ⟨i, u, rfl, e⟩ | ⟨y, u, rfl, e⟩
    · exact nomatch e
    · injection e with e1 _
      subst e1
      cases v <;> rfl
theorem mixKind_int (prog : Program) (w : World) (i : Int) (t : Tok) : (mixKind prog w).is (.inl i) (.int i t) = true := keyIs_int i t
theorem mixKind_str (prog : Program) (w : World) (x : Str) (t : Tok) : (mixKind prog w).is (.inr x) (.str x t) = true := keyIs_str x t
end L2
namespace L2
open PySem PySem.Spec PyProof.Rows
inductive V where
  | non | bl (b : Bool) | int (i : Int) | str (x : Str) | byt (b : Array UInt8) | flt (b : UInt64) | ref (a : Addr) | ty (n : String)
  deriving DecidableEq
def RelV : V → Value → Prop
  | .non, u => u = Value.none
  | .bl b, u => u = Value.bool b
  | .int i, u => ∃ t, u = Value.int i t
  | .str x, u => ∃ t, u = Value.str x t
  | .byt b, u => ∃ t, u = Value.bytes b t
  | .flt b, u => ∃ t, u = Value.float b t
  | .ref a, u => u = Value.ref a
  | .ty n, u => u = Value.type n
abbrev Vals : List V → List Value → Prop := Paired RelV
theorem Vals.length {xs : List V} {us : List Value} (r : Vals xs us) : xs.length = us.length := Paired.length r
theorem Vals.get : ∀ {xs : List V} {us : List Value} {i : Nat} {x : V}, Vals xs us → xs[i]? = some x → ∃ u, us[i]? = some u ∧ RelV x u
  | _, _, _, _, .nil, e => by simp at e
  | _, _, 0, _, .cons r _, e => by simp at e; subst e; exact ⟨_, rfl, r⟩
  | _, _, i + 1, x, .cons _ t, e => by
    obtain ⟨u, h1, h2⟩ := Vals.get (i := i) (x := x) t (by simpa using e)
    exact ⟨u, by simpa using h1, h2⟩
theorem Vals.append : ∀ {xs ys : List V} {us ws : List Value}, Vals xs us → Vals ys ws → Vals (xs ++ ys) (us ++ ws)
  | _, _, _, _, .nil, s => s
  | _, _, _, _, .cons r t, s => .cons r (Vals.append t s)
theorem Vals.take : ∀ {xs : List V} {us : List Value} (n : Nat), Vals xs us → Vals (xs.take n) (us.take n)
  | _, _, 0, _ => .nil
  | _, _, _ + 1, .nil => .nil
  | _, _, n + 1, .cons r t => .cons r (Vals.take n t)
theorem Vals.drop : ∀ {xs : List V} {us : List Value} (n : Nat), Vals xs us → Vals (xs.drop n) (us.drop n)
  | _, _, 0, r => r
  | _, _, _ + 1, .nil => .nil
  | _, _, n + 1, .cons _ t => Vals.drop n t
def RelO : Option V → Option Value → Prop
  | some v, some u => RelV v u
  | none, none => True
  | _, _ => False
def KV {κ : Type} : List (κ × V) → List (κ × Value) → Prop := Paired fun (p : κ × V) (q : κ × Value) => p.1 = q.1 ∧ RelV p.2 q.2
def kV : Key → V
  | .inl i => .int i
  | .inr x => .str x
inductive HO where
  /-- a list -/
  | lst (xs : List V)
  /-- a tuple (never changes) -/
  | tup (xs : List V)
  /-- a dict whose keys are ints and texts; one whose keys are tuples of ints and texts (the empty one is both) -/
  | dK (kvs : List (Key × V)) | dT (kvs : List (List Key × V))
  /-- a set of ints: its members, its size -/
  | set (S : Int → Bool) (n : Nat)
  /-- an instance of the class at C, its dict at dx, its attributes -/
  | ins (C dx : Addr) (fs : List (Str × V))
  /-- the dict of the instance at x -/
  | own (x : Addr)
  /-- the dict of an exception -/
  | xd (fs : List (Str × V))
  /-- a bound method, f of x -/
  | met (f x : Addr)
  /-- a range object lo, lo + 1, .. below hi -/
  | rng (lo hi : Int)
  /-- a thing that is known to the object (the script; a dict while a loop walks it): read, never written while it is so -/
  | frz (o : Obj) (u : HO)
  /-- a code object's table -/
  | tbl (ps : Array Value)
  /-- any other thing, by what is true of its one object (a def of one's own: SetO a S n := HO.ext fun h => ..) -/
  | ext (φ : Heap → Prop)
abbrev Hp := Addr → Option HO
def upd (H : Hp) (a : Addr) (o : HO) : Hp := fun b => if b = a then some o else H b
theorem upd_same {H : Hp} {a : Addr} {o : HO} : upd H a o a = some o := by unfold upd; rw [if_pos rfl]
theorem upd_ne {H : Hp} {a b : Addr} {o : HO} (h : b ≠ a) : upd H a o b = H b := by unfold upd; rw [if_neg h]
theorem upd_upd {H : Hp} {a : Addr} {o u : HO} : upd (upd H a o) a u = upd H a u := by
  funext b; unfold upd; split <;> rfl
theorem ne_of {H : Hp} {a b : Addr} {o u : HO} (h : H a = some o) (h' : H b = some u) (d : o ≠ u) : a ≠ b := by
  intro e; subst e; rw [h] at h'; exact d (Option.some.inj h')
theorem ne_of_none {H : Hp} {a b : Addr} {o : HO} (h : H a = some o) (h' : H b = none) : a ≠ b := by
  intro e; subst e; rw [h] at h'; cases h'
section
variable (P : Program) (w : World)
def ObjOk (H : Hp) (h : Heap) (a : Addr) : HO → Prop
  | .lst xs => xs.length ≤ sizeLine ∧ ∃ (its : List Value) (n : Nat), Vals xs its ∧ h.get? a = some { cls := .type "list", data := .seq its.toArray n }
  | .tup xs => xs.length ≤ sizeLine ∧ ∃ its : List Value, Vals xs its ∧ IsTup h a its.toArray
  | .dK kvs => kvs.length ≤ sizeLine ∧ (a == sysModules) = false ∧ ∃ vs, KV kvs vs ∧ h.DictOf (mixKind P w) a vs
  | .dT kvs => kvs.length ≤ sizeLine ∧ (a == sysModules) = false ∧ ∃ xs : List (List Key × Addr × Value),
      Paired (fun (p : List Key × V) (q : List Key × Addr × Value) => p.1 = q.1 ∧ H q.2.1 = some (.tup (p.1.map kV)) ∧ RelV p.2 q.2.2) kvs xs ∧
      ∃ o es ep, h.get? a = some o ∧ o.ExactDict ∧ o.data = .dict es ep ∧ es.toList = xs.map (entryOfKey (tupleKind (mixKind P w))) ∧ (xs.map (·.1)).Nodup
  | .set S n => h.SetOf (intKind P w) a S n
  | .ins C dx fs => H dx = some (.own a) ∧ fs.length ≤ 1000 ∧ dx ≠ a ∧ h.get? a = some (PySem.W.instObj C dx) ∧
      ∃ mA, h.Ns1 dx mA ∧ (∀ f, RelO (fs.lookup f) (mA f)) ∧ PySem.Within mA (fs.map (·.1))
  | .own _ => ∃ o, h.get? a = some o
  | .xd fs => ∃ mA, h.Ns1 a mA ∧ ∀ f, RelO (fs.lookup f) (mA f)
  | .rng lo hi => ∃ t u v, h.get? a = some { cls := .type "range", data := .fields #[.int lo t, .int hi u, .int 1 v] }
  | .frz o u => h.get? a = some o ∧ ObjOk H h a u
  | .tbl ps => h.get? a = some { cls := .none, data := .fields ps }
  | .met f x => h.get? a = some (PySem.W.methodObj (.ref f) (.ref x))
  | .ext φ => φ h ∧ (∃ o, h.get? a = some o) ∧ ∀ h1 h2 : Heap, φ h1 → (∀ o, h1.get? a = some o → h2.get? a = some o) → φ h2
def HOk (H : Hp) (h : Heap) : Prop := ∀ a o, H a = some o → ObjOk P w H h a o
end
section
variable {P : Program} {w : World} {H H' : Hp} {h h' : Heap} {a : Addr} {o : HO}
theorem ObjOk.lt (x : ObjOk P w H h a o) : a < h.objs.size := by
  cases o with
  | lst xs => obtain ⟨_, _, _, _, e⟩ := x; exact Heap.lt_size e
  | tup xs => obtain ⟨_, _, _, p⟩ := x; exact p.lt
  | dK kvs => obtain ⟨_, _, _, _, o, _, _, e, _⟩ := x; exact Heap.lt_size e
  | dT kvs => obtain ⟨_, _, _, _, o, _, _, e, _⟩ := x; exact Heap.lt_size e
  | set S n => obtain ⟨o, _, _, _, e, _⟩ := x; exact Heap.lt_size e
  | ins C dx fs => obtain ⟨_, _, _, e, _⟩ := x; exact Heap.lt_size e
  | own y => obtain ⟨_, e⟩ := x; exact Heap.lt_size e
  | xd fs => obtain ⟨_, ⟨_, _, _, e, _⟩, _⟩ := x; exact Heap.lt_size e
  | rng lo hi => obtain ⟨_, _, _, e⟩ := x; exact Heap.lt_size e
  | frz ob u => obtain ⟨e, _⟩ := x; exact Heap.lt_size e
  | tbl ps => exact Heap.lt_size (show h.get? a = some _ from x)
  | met f y => exact Heap.lt_size (show h.get? a = some _ from x)
  | ext φ => obtain ⟨_, ⟨_, e⟩, _⟩ := x; exact Heap.lt_size e
theorem Paired.mapP {α β : Type} {F G : α → β → Prop} : ∀ {l₁ : List α} {l₂ : List β}, Paired F l₁ l₂ → (∀ a b, F a b → G a b) → Paired G l₁ l₂
  | _, _, .nil, _ => .nil
  | _, _, .cons r t, f => .cons (f _ _ r) (Paired.mapP t f)
theorem ObjOk.stay (x : ObjOk P w H h a o) (k : ∀ b u, (b = a ∨ H b = some (.own a)) → h.get? b = some u → h'.get? b = some u)
    (ho : ∀ b, H b = some (.own a) → H' b = some (.own a)) (ht : ∀ b xs, H b = some (.tup xs) → H' b = some (.tup xs)) : ObjOk P w H' h' a o := by
  induction o with
  | lst xs => obtain ⟨z, its, n, r, e⟩ := x; exact ⟨z, its, n, r, k _ _ (.inl rfl) e⟩
  | tup xs => obtain ⟨z, its, r, ob, e, c⟩ := x; exact ⟨z, its, r, ob, k _ _ (.inl rfl) e, c⟩
  | dK kvs => obtain ⟨z, y, vs, r, ob, es, ep, e, c⟩ := x; exact ⟨z, y, vs, r, ob, es, ep, k _ _ (.inl rfl) e, c⟩
  | dT kvs =>
    obtain ⟨z, y, xs, r, ob, es, ep, e, c⟩ := x
    exact ⟨z, y, xs, Paired.mapP r fun p q z => ⟨z.1, ht _ _ z.2.1, z.2.2⟩, ob, es, ep, k _ _ (.inl rfl) e, c⟩
  | set S n => obtain ⟨ob, es, ep, t, e, c⟩ := x; exact ⟨ob, es, ep, t, k _ _ (.inl rfl) e, c⟩
  | ins C dx fs =>
    obtain ⟨d, z, ne, e, mA, ⟨od, es, ep, e2, c⟩, r⟩ := x
    exact ⟨ho _ d, z, ne, k _ _ (.inl rfl) e, mA, ⟨od, es, ep, k _ _ (.inr d) e2, c⟩, r⟩
  | own y => obtain ⟨ob, e⟩ := x; exact ⟨ob, k _ _ (.inl rfl) e⟩
  | xd fs => obtain ⟨mA, ⟨od, es, ep, e, c⟩, r⟩ := x; exact ⟨mA, ⟨od, es, ep, k _ _ (.inl rfl) e, c⟩, r⟩
  | rng lo hi => obtain ⟨t, u, v, e⟩ := x; exact ⟨t, u, v, k _ _ (.inl rfl) e⟩
  | frz ob u ih => obtain ⟨e, q⟩ := x; exact ⟨k _ _ (.inl rfl) e, ih q⟩
  | tbl ps =>
    have e : h.get? a = some { cls := .none, data := .fields ps } := x
    show h'.get? a = some { cls := .none, data := .fields ps }
    exact k a _ (.inl rfl) e
  | met f y =>
    have e : h.get? a = some (PySem.W.methodObj (.ref f) (.ref y)) := x
    show h'.get? a = some (PySem.W.methodObj (.ref f) (.ref y))
    exact k a _ (.inl rfl) e
  | ext φ => obtain ⟨p, ⟨o, e⟩, st⟩ := x; exact ⟨st _ _ p fun o q => k _ _ (.inl rfl) q, ⟨o, k _ _ (.inl rfl) e⟩, st⟩
theorem HOk.lt (x : HOk P w H h) (e : H a = some o) : a < h.objs.size := (x a o e).lt
theorem HOk.fresh (x : HOk P w H h) (e : h.objs.size ≤ a) : H a = none := by
  cases q : H a with
  | none => rfl
  | some u => exact absurd (Nat.lt_of_lt_of_le (x.lt q) e) (Nat.lt_irrefl _)
theorem HOk.kept (x : HOk P w H h) (k : ∀ b u, h.get? b = some u → h'.get? b = some u) : HOk P w H h' := fun a o e =>
  (x a o e).stay (fun b u _ q => k b u q) (fun _ q => q) fun _ _ q => q
theorem HOk.laid (x : HOk P w H h) (k : ∀ b u, h.get? b = some u → h'.get? b = some u) (hp : h.objs.size ≤ a) (new : ObjOk P w (upd H a o) h' a o) : HOk P w (upd H a o) h' := fun b u e => by
  have hn := x.fresh hp
  by_cases hb : b = a
  · subst hb; rw [upd_same] at e; cases e; exact new
  · rw [upd_ne hb] at e
    exact (x b u e).stay (fun c v _ q => k c v q) (fun c q => by rw [upd_ne (ne_of_none q hn)]; exact q) fun c xs q => by rw [upd_ne (ne_of_none q hn)]; exact q
end
def Rd (H : Hp) (a : Addr) (u : HO) : Prop := H a = some u ∨ ∃ o, H a = some (.frz o u)
theorem Rd.ok {P : Program} {w : World} {H : Hp} {h : Heap} {a : Addr} {u : HO} (r : Rd H a u) (x : HOk P w H h) : ObjOk P w H h a u := by
  rcases r with r | ⟨o, r⟩
  · exact x a u r
  · obtain ⟨_, q⟩ := x a _ r
    exact q
def Mut : Option HO → Prop
  | some (.lst _) => True
  | some (.dK _) => True
  | some (.dT _) => True
  | some (.set _ _) => True
  | some (.ins _ _ _) => True
  | some (.ext _) => True
  | _ => False
section
variable {P : Program} {w : World} {H : Hp} {h h' : Heap} {x e : Addr} {o' : HO}
theorem HOk.write (ok : HOk P w H h) (mu : Mut (H x)) (he : e = x ∨ H e = some (.own x)) (k : ∀ b u, b ≠ e → h.get? b = some u → h'.get? b = some u) (heo : ∃ u, h'.get? e = some u)
    (new : ObjOk P w (upd H x o') h' x o') : HOk P w (upd H x o') h' := fun b u q => by
  have nown : ∀ c y, H c = some (.own y) → c ≠ x := fun c y r z => by subst z; rw [r] at mu; exact mu
  have ntup : ∀ c xs, H c = some (.tup xs) → c ≠ x := fun c xs r z => by subst z; rw [r] at mu; exact mu
  by_cases hb : b = x
  · subst hb; rw [upd_same] at q; cases q; exact new
  · rw [upd_ne hb] at q
    by_cases hbe : b = e
    · have q' : H b = some (.own x) := by
        rcases he with z | z
        · exact absurd (hbe.trans z) hb
        · rw [hbe]; exact z
      rw [q] at q'; cases q'
      obtain ⟨v, hv⟩ := heo
      exact ⟨v, by rw [hbe]; exact hv⟩
    · refine (ok b u q).stay (fun c v hc r => k c v ?_ r) (fun c r => by rw [upd_ne (nown c b r)]; exact r) fun c xs r => by rw [upd_ne (ntup c xs r)]; exact r
      rcases hc with rfl | hc
      · exact hbe
      · rintro rfl
        rcases he with z | z
        · exact nown c b hc z
        · rw [hc] at z; cases z; exact hb rfl
end
structure Un (fs ex : List Addr) (H H' : Hp) (h h' : Heap) : Prop where
  keep : ∀ b o, h.get? b = some o → H b = none → b ∉ fs → b ∉ ex → h'.get? b = some o
  slot : ∀ b o, h.get? b = some o → H b = none → b ∈ fs → b ∉ ex → ∃ sl, h'.get? b = some { o with slots := sl }
  free : ∀ b o, h.get? b = some o → H b = none → b ∉ ex → H' b = none
  there : ∀ b o, h.get? b = some o → b ∉ ex → ∃ o', h'.get? b = some o'
  tups : ∀ b xs, H b = some (.tup xs) → H' b = some (.tup xs)
  frzs : ∀ b o u, H b = some (.frz o u) → H' b = some (.frz o u)
  tbls : ∀ b ps, H b = some (.tbl ps) → ∃ more, H' b = some (.tbl (ps ++ more))
section
variable {fs fs' ex ex' : List Addr} {H H1 H2 : Hp} {h h1 h2 h' : Heap} {a x e : Addr} {o : HO}
theorem Un.any (u : Un fs ex H H1 h h1) {b : Addr} {ob : Obj} (q : h.get? b = some ob) (n : H b = none) (hx : b ∉ ex) : ∃ sl, h1.get? b = some { ob with slots := sl } := by
  by_cases hb : b ∈ fs
  · exact u.slot b ob q n hb hx
  · exact ⟨ob.slots, u.keep b ob q n hb hx⟩
theorem Un.kept (k : ∀ b u, h.get? b = some u → h'.get? b = some u) : Un fs ex H H h h' :=
  ⟨fun b ob q _ _ _ => k b ob q, fun b ob q _ _ _ => ⟨ob.slots, k b ob q⟩, fun _ _ _ n _ => n, fun b ob q _ => ⟨ob, k b ob q⟩, fun _ _ q => q, fun _ _ _ q => q, fun _ ps q => ⟨#[], by rw [q]; simp⟩⟩
theorem Un.refl : Un fs ex H H h h := Un.kept fun _ _ q => q
theorem Un.laid (k : ∀ b u, h.get? b = some u → h'.get? b = some u) (hp : h.objs.size ≤ a) (hn : H a = none) : Un fs ex H (upd H a o) h h' where
  keep := fun b u q _ _ _ => k b u q
  slot := fun b u q _ _ _ => ⟨u.slots, k b u q⟩
  free := fun b u q n _ => by rw [upd_ne (Nat.ne_of_lt (Nat.lt_of_lt_of_le (Heap.lt_size q) hp))]; exact n
  there := fun b u q _ => ⟨u, k b u q⟩
  tups := fun b xs q => by rw [upd_ne (ne_of_none q hn)]; exact q
  frzs := fun b u xs q => by rw [upd_ne (ne_of_none q hn)]; exact q
  tbls := fun b ps q => ⟨#[], by rw [upd_ne (ne_of_none q hn), q]; simp⟩
theorem Un.write (mu : Mut (H x)) (he : e = x ∨ H e = some (.own x)) (k : ∀ b u, b ≠ e → h.get? b = some u → h'.get? b = some u) (heo : ∃ u, h'.get? e = some u) : Un fs ex H (upd H x o) h h' := by
  have hx : ∀ b, H b = none → b ≠ x := fun b n z => by subst z; rw [n] at mu; exact mu
  have hb : ∀ b, H b = none → b ≠ e := fun b n z => by
    subst z
    rcases he with r | r
    · exact hx b n r
    · rw [n] at r; cases r
  have hm : ∀ b u, H b = some u → ¬ Mut (some u) → b ≠ x := fun b u q nm z => by subst z; rw [q] at mu; exact nm mu
  refine ⟨fun b u q n _ _ => k b u (hb b n) q, fun b u q n _ _ => ⟨u.slots, k b u (hb b n) q⟩, fun b u q n _ => by rw [upd_ne (hx b n)]; exact n, fun b u q _ => ?_,
    fun b xs q => by rw [upd_ne (hm b _ q fun z => z)]; exact q, fun b u xs q => by rw [upd_ne (hm b _ q fun z => z)]; exact q, fun b ps q => ⟨#[], by rw [upd_ne (hm b _ q fun z => z), q]; simp⟩⟩
  by_cases hbe : b = e
  · subst hbe; exact heo
  · exact ⟨u, k b u hbe q⟩
end
def trk (h : Heap) (H : Hp) : List Addr := (List.range h.objs.size).filter fun a => (H a).isSome
def hidT (h : Heap) (H : Hp) : Heap := PySem.W.hideAll h (trk h H)
theorem hidT_size (h : Heap) (H : Hp) : (hidT h H).objs.size = h.objs.size := PySem.W.hideAll_size _ _
theorem hidT_get {h : Heap} {H : Hp} {b : Addr} {o : Obj} (e : h.get? b = some o) (n : H b = none) : (hidT h H).get? b = some o :=
  PySem.W.hideAll_get _ e fun hm => by
    have q : (H b).isSome = true := (List.mem_filter.mp hm).2
    rw [n] at q; simp at q
theorem of_hidT {h : Heap} {H : Hp} {b : Addr} {o : Obj} (e : (hidT h H).get? b = some o) : h.get? b = some o ∧ H b = none := by
  have e' : h.get? b = some o := PySem.W.of_hideAll (trk h H) e
  refine ⟨e', ?_⟩
  cases q : H b with
  | none => rfl
  | some x =>
    have hm : b ∈ trk h H := List.mem_filter.mpr ⟨List.mem_range.mpr (Heap.lt_size e'), by simp [q]⟩
    have z : (hidT h H).get? b = none := PySem.W.hideAll_none (trk h H) hm
    rw [z] at e; cases e
def allNews (g h : Heap) (L : Addr) : List (Addr × Obj) := (List.range h.objs.size).filterMap fun a => if a = L ∨ (g.get? a).isSome = true then none else (h.get? a).map fun o => (a, o)
def rest (g h : Heap) (L d : Addr) : List (Addr × Obj) := (allNews g h L).filter fun p => decide (p.1 ≠ d)
end L2
namespace L2
open PySem PySem.Spec PyProof.Rows
structure Mod (K : PySem.W.Frag) (mg : Str → Option Value) (base : Heap) : Prop where
  kin : K.In base
  glob : base.Ns mainGlobals mg
  blt : ∃ mb, base.Ns builtinsNs mb ∧ ∀ x : Str, x ≠ "__name__" → mb x = bootBuiltins x
  nolimit : base.NoLimit
structure Cx where
  prog : Program
  w : World
  K : PySem.W.Frag
  mg : Str → Option Value
  base : Heap
  A : Around
  N : List Str
  s_0 : Shared
  H_0 : Hp
  env : Env
  outer : List Env
  stack : List Env
  ex : List Addr
  fn : Str → Bool
  calm : Bool
  pn : List (Addr × Obj)
  xe : Value → Shared → Prop
def frs (l : List Env) : List Addr := l.filterMap (·.frame)
abbrev Cx.fs (X : Cx) : List Addr := frs X.outer
def Vis (sc : Scope) (x : Str) : Prop := sc.names.lookup x = some .local ∨ sc.names.lookup x = some .cell ∨ sc.names.lookup x = some .free
def Loc (sc : Scope) (x : Str) : Prop := sc.names.lookup x = some .local ∨ sc.names.lookup x = some .cell
def Look (env : Env) (h : Heap) (m : Str → Option Value) (x : Str) (u : Value) : Prop :=
  (env.kindOf x = some .local ∧ m x = some u) ∨ ((env.kindOf x = some .cell ∨ env.kindOf x = some .free) ∧ ∃ c, env.cells.lookup x = some c ∧ h.IsCell c (some u))
structure Cx.Ok (X : Cx) : Prop where
  mod : Mod X.K X.mg X.base
  kind : X.env.scope.kind = .function
  glob : X.env.globals = mainGlobals
  blt : X.env.builtins = builtinsNs
  above : X.s_0.heap.objs.size ≤ X.env.locals
  inj : ∀ x y c, X.env.cells.lookup x = some c → X.env.cells.lookup y = some c → x = y
  has : ∀ x, (X.env.kindOf x = some .cell ∨ X.env.kindOf x = some .free) → ∃ c, X.env.cells.lookup x = some c
  cab : ∀ x c, X.fn x = true → X.env.cells.lookup x = some c → X.s_0.heap.objs.size ≤ c
  hd : X.calm = true → X.A.handled = none
  frames : X.A.frames = some X.stack
  stk : X.stack = X.outer ∨ (X.stack = X.env :: X.outer ∧ X.env.frame = some X.env.locals)
  exf : ∀ b ∈ X.ex, b ≠ X.env.locals ∧ ∀ x c, X.env.cells.lookup x = some c → c ≠ b
  bs : ∀ b o, X.base.get? b = some o → X.s_0.heap.get? b = some o ∧ X.H_0 b = none
  bsz : X.base.objs.size ≤ X.s_0.heap.objs.size
  noex : ∀ b o, X.base.get? b = some o → b ∉ X.ex
  exfs : ∀ b ∈ X.ex, b ∉ X.fs
  funs : X.s_0.heap.FunFrames X.base X.outer
  frf : ∀ b ∈ X.fs, X.H_0 b = none
structure Inv (X : Cx) (pins : List (Addr × Obj)) (σ : List (Option V)) (H : Hp) (s : Shared) : Prop where
  ok : X.Ok
  os : s.os = X.s_0.os
  bare : AllBare s.gens
  base : Un X.fs X.ex X.H_0 H X.s_0.heap s.heap
  loc : ∃ m, s.heap.Ns X.env.locals m ∧ ∀ (i : Nat) (x : Str) (v : V), X.N[i]? = some x → σ[i]? = some (some v) → Vis X.env.scope x → ∃ u, RelV v u ∧ Look X.env s.heap m x u
  cell : ∀ x c, X.env.cells.lookup x = some c → ∃ v, s.heap.IsCell c v
  free : H X.env.locals = none
  freeC : ∀ x c, X.env.cells.lookup x = some c → H c = none
  pin : ∀ p ∈ X.pn ++ pins, s.heap.get? p.1 = some p.2 ∧ H p.1 = none ∧ p.1 ≠ X.env.locals ∧ p.1 ∉ X.fs ∧ ∀ v, p.2.data ≠ .cell v
  hok : HOk X.prog X.w H s.heap
  len : σ.length = X.N.length
section
variable {X : Cx} {pins : List (Addr × Obj)} {σ : List (Option V)} {H H' : Hp} {s : Shared} {h' : Heap}
theorem Cx.Ok.nofr (ok : X.Ok) {b : Addr} {o : Obj} (e : X.base.get? b = some o) : b ∉ X.fs := fun hb => by
  have := (ok.funs.mem hb).1
  rw [e] at this; cases this
theorem Inv.bs (I : Inv X pins σ H s) : ∀ b o, X.base.get? b = some o → s.heap.get? b = some o ∧ H b = none := fun b o e =>
  ⟨I.base.keep b o (I.ok.bs b o e).1 (I.ok.bs b o e).2 (I.ok.nofr e) (I.ok.noex b o e), I.base.free b o (I.ok.bs b o e).1 (I.ok.bs b o e).2 (I.ok.noex b o e)⟩
theorem Inv.bk (I : Inv X pins σ H s) : ∀ b o, X.base.get? b = some o → s.heap.get? b = some o := fun b o e => (I.bs b o e).1
theorem Inv.mod (I : Inv X pins σ H s) : Mod X.K X.mg X.base := I.ok.mod
theorem Inv.kIn (I : Inv X pins σ H s) : X.K.In s.heap := I.ok.mod.kin.keeps I.bk
theorem Inv.lt (I : Inv X pins σ H s) : X.env.locals < s.heap.objs.size := let ⟨_, hn, _⟩ := I.loc; hn.lt
theorem Inv.sz (I : Inv X pins σ H s) : X.s_0.heap.objs.size ≤ s.heap.objs.size := Nat.le_trans I.ok.above (Nat.le_of_lt I.lt)
theorem Inv.nofs (I : Inv X pins σ H s) {a : Addr} (h : s.heap.objs.size ≤ a) : a ∉ X.fs := fun hb => by
  obtain ⟨_, o, ho, _⟩ := I.ok.funs.mem hb
  exact absurd (Nat.lt_of_lt_of_le (Heap.lt_size ho) (Nat.le_trans I.sz h)) (Nat.lt_irrefl _)
theorem Inv.cne (I : Inv X pins σ H s) : ∀ x c, X.env.cells.lookup x = some c → c ≠ X.env.locals := fun x c e z => by
  obtain ⟨v, o, ho, hd⟩ := I.cell x c e
  obtain ⟨m, ⟨o', es, ep, ho', hd', _⟩, _⟩ := I.loc
  rw [z, ho'] at ho; cases ho; rw [hd'] at hd; cases hd
theorem Inv.funs (I : Inv X pins σ H s) : s.heap.FunFrames X.base X.outer := by
  have all : ∀ (l : List Env), (∀ b ∈ frs l, b ∈ X.fs) → X.s_0.heap.FunFrames X.base l → s.heap.FunFrames X.base l := by
    intro l
    induction l with
    | nil => intro _ _; trivial
    | cons env r ih =>
      intro hs hl
      obtain ⟨hk, ⟨L, o, hf, hn, ho, hd⟩, hr⟩ := hl
      have hL : L ∈ X.fs := hs L (by unfold frs; rw [List.filterMap_cons, hf]; exact List.mem_cons_self)
      obtain ⟨sl, e⟩ := I.base.slot L o ho (I.ok.frf L hL) hL fun z => I.ok.exfs L z hL
      exact ⟨hk, ⟨L, _, hf, hn, e, hd⟩, ih (fun b hb => hs b (by unfold frs; rw [List.filterMap_cons, hf]; exact List.mem_cons_of_mem _ hb)) hr⟩
  exact all X.outer (fun _ hb => hb) I.ok.funs
theorem Inv.stack (I : Inv X pins σ H s) : s.heap.FunFrames X.base X.stack := by
  rcases I.ok.stk with e | ⟨e, hf⟩
  · rw [e]; exact I.funs
  · rw [e]
    obtain ⟨m, hn, _⟩ := I.loc
    refine .cons (by rw [I.ok.kind]; decide) hf hn ?_ I.funs
    exact Heap.get?_none_of_le (Nat.le_trans I.ok.bsz I.ok.above)
theorem Inv.stkSub (I : Inv X pins σ H s) : ∀ b ∈ frs X.stack, b ∈ X.env.locals :: X.fs := fun b hb => by
  rcases I.ok.stk with e | ⟨e, hf⟩
  · rw [e] at hb; exact List.mem_cons_of_mem _ hb
  · rw [e] at hb
    unfold frs at hb
    rw [List.filterMap_cons, hf] at hb
    exact hb
theorem Inv.stkFree (I : Inv X pins σ H s) : ∀ b ∈ frs X.stack, H b = none := fun b hb => by
  rcases List.mem_cons.mp (I.stkSub b hb) with e | hb
  · rw [e]; exact I.free
  · obtain ⟨_, o, ho, _⟩ := I.ok.funs.mem hb
    exact I.base.free b o ho (I.ok.frf b hb) fun z => I.ok.exfs b z hb
theorem Inv.step {g' : Array GenState} {t' : Nat} {d' : Drawn} {ch : List Addr} (I : Inv X pins σ H s)
    (hch : ∀ b ∈ ch, (b ∈ X.ex ∨ X.s_0.heap.objs.size ≤ b) ∧ b ≠ X.env.locals ∧ (∀ x c, X.env.cells.lookup x = some c → c ≠ b) ∧ ∀ p ∈ X.pn ++ pins, p.1 ≠ b)
    (keep : ∀ b o, b ≠ X.env.locals → b ∉ X.fs → b ∉ ch → s.heap.get? b = some o → H b = none → h'.get? b = some o)
    (slot : ∀ b o, b ≠ X.env.locals → b ∈ X.fs → b ∉ ch → s.heap.get? b = some o → H b = none → ∃ sl, h'.get? b = some { o with slots := sl }) (free : ∀ b o, b ∉ ch → s.heap.get? b = some o → H b = none → H' b = none)
    (there : ∀ b o, b ∉ ch → s.heap.get? b = some o → ∃ o', h'.get? b = some o')
    (tups : ∀ b xs, H b = some (.tup xs) → H' b = some (.tup xs)) (frzs : ∀ b o u, H b = some (.frz o u) → H' b = some (.frz o u)) (tbls : ∀ b ps, H b = some (.tbl ps) → ∃ more, H' b = some (.tbl (ps ++ more)))
    (ns : ∀ m, s.heap.Ns X.env.locals m → h'.Ns X.env.locals m) (hok : HOk X.prog X.w H' h') (hg : AllBare g') :
    Inv X pins σ H' { s with heap := h', gens := g', drawn := d', toks := t' } := by
  have neL : ∀ b o, X.s_0.heap.get? b = some o → b ≠ X.env.locals := fun b o e => Nat.ne_of_lt (Nat.lt_of_lt_of_le (Heap.lt_size e) I.ok.above)
  have neC : ∀ b o, X.s_0.heap.get? b = some o → b ∉ X.ex → b ∉ ch := fun b o e hx hb => by
    rcases (hch b hb).1 with z | z
    · exact hx z
    · exact absurd (Nat.lt_of_lt_of_le (Heap.lt_size e) z) (Nat.lt_irrefl _)
  have cellK : ∀ x c, X.env.cells.lookup x = some c → ∀ v, s.heap.IsCell c v → h'.IsCell c v := fun x c e v ⟨o, ho, hd⟩ => by
    have nch : c ∉ ch := fun z => (hch c z).2.2.1 x c e rfl
    by_cases hc : c ∈ X.fs
    · obtain ⟨sl, q⟩ := slot c o (I.cne x c e) hc nch ho (I.freeC x c e)
      exact ⟨_, q, hd⟩
    · exact ⟨o, keep c o (I.cne x c e) hc nch ho (I.freeC x c e), hd⟩
  refine ⟨I.ok, I.os, hg, ⟨fun b o e n hb hx => ?_, fun b o e n hb hx => ?_, fun b o e n hx => ?_, fun b o e hx => ?_, fun b xs e => tups b xs (I.base.tups b xs e), fun b o xs e => frzs b o xs (I.base.frzs b o xs e), fun b ps e => ?_⟩, ?_, fun x c e => ?_, ?_, fun x c e => ?_, fun p hp => ?_, hok, I.len⟩
  · exact keep b o (neL b o e) hb (neC b o e hx) (I.base.keep b o e n hb hx) (I.base.free b o e n hx)
  · obtain ⟨sl, e1⟩ := I.base.slot b o e n hb hx
    obtain ⟨sl', e2⟩ := slot b _ (neL b o e) hb (neC b o e hx) e1 (I.base.free b o e n hx)
    exact ⟨sl', e2⟩
  · obtain ⟨o', e1⟩ := I.base.there b o e hx
    exact free b o' (neC b o e hx) e1 (I.base.free b o e n hx)
  · obtain ⟨o', e1⟩ := I.base.there b o e hx
    exact there b o' (neC b o e hx) e1
  · obtain ⟨m1, e1⟩ := I.base.tbls b ps e
    obtain ⟨m2, e2⟩ := tbls b _ e1
    exact ⟨m1 ++ m2, by rw [e2, Array.append_assoc]⟩
  · obtain ⟨m, hn, hl⟩ := I.loc
    refine ⟨m, ns m hn, fun i x v e1 e2 e3 => ?_⟩
    obtain ⟨u, r, l⟩ := hl i x v e1 e2 e3
    refine ⟨u, r, ?_⟩
    rcases l with l | ⟨k, c, e, z⟩
    · exact .inl l
    · exact .inr ⟨k, c, e, cellK x c e _ z⟩
  · obtain ⟨v, z⟩ := I.cell x c e
    exact ⟨v, cellK x c e v z⟩
  · obtain ⟨m, ⟨o, _, _, ho, _⟩, _⟩ := I.loc
    exact free _ o (fun z => (hch _ z).2.1 rfl) ho I.free
  · obtain ⟨v, o, ho, hd⟩ := I.cell x c e
    exact free c o (fun z => (hch c z).2.2.1 x c e rfl) ho (I.freeC x c e)
  · obtain ⟨e, n, ne, nf, d⟩ := I.pin p hp
    have nch : p.1 ∉ ch := fun z => (hch p.1 z).2.2.2 p hp rfl
    exact ⟨keep p.1 p.2 ne nf nch e n, free p.1 p.2 nch e n, ne, nf, d⟩
theorem Inv.un {t' : Nat} (I : Inv X pins σ H s) (u : Un X.fs [] H H' s.heap h') (hok : HOk X.prog X.w H' h') : Inv X pins σ H' { s with heap := h', toks := t' } := by
  obtain ⟨m, ⟨o, es, ep, ho, r⟩, _⟩ := id I.loc
  obtain ⟨sl, hL⟩ := u.any ho I.free (by simp)
  exact I.step (g' := s.gens) (d' := s.drawn) (ch := []) (fun _ z => nomatch z) (fun b o _ hb _ e n => u.keep b o e n hb (by simp)) (fun b o _ hb _ e n => u.slot b o e n hb (by simp)) (fun b o _ e n => u.free b o e n (by simp)) (fun b o _ e => u.there b o e (by simp)) u.tups u.frzs u.tbls (fun m' hm => by
    obtain ⟨o', es', ep', ho', r'⟩ := hm
    rw [ho] at ho'; cases ho'
    exact ⟨_, es', ep', hL, r'⟩) hok I.bare
theorem Inv.call {g' : Array GenState} {t' : Nat} {d' : Drawn} {ch : List Addr} (I : Inv X pins σ H s) (u : Un (frs X.stack) ch H H' s.heap h') (hok : HOk X.prog X.w H' h') (hg : AllBare g')
    (hch : ∀ b ∈ ch, (b ∈ X.ex ∨ X.s_0.heap.objs.size ≤ b) ∧ b ≠ X.env.locals ∧ (∀ x c, X.env.cells.lookup x = some c → c ≠ b) ∧ ∀ p ∈ X.pn ++ pins, p.1 ≠ b) :
    Inv X pins σ H' { s with heap := h', gens := g', drawn := d', toks := t' } := by
  obtain ⟨m, ⟨o, es, ep, ho, r⟩, _⟩ := id I.loc
  obtain ⟨sl, hL⟩ := u.any ho I.free fun z => (hch _ z).2.1 rfl
  exact I.step (ch := ch) hch (fun b o hL hb hc e n => u.keep b o e n (fun z => (List.mem_cons.mp (I.stkSub b z)).elim hL hb) hc) (fun b o _ _ hc e n => u.any e n hc) (fun b o hc e n => u.free b o e n hc) (fun b o hc e => u.there b o e hc) u.tups u.frzs u.tbls (fun m' hm => by
    obtain ⟨o', es', ep', ho', r'⟩ := hm
    rw [ho] at ho'; cases ho'
    exact ⟨_, es', ep', hL, r'⟩) hok hg
theorem Inv.turned {t' : Nat} {it : Addr} (I : Inv X pins σ H s) (k : ∀ b o, b ≠ it → s.heap.get? b = some o → h'.get? b = some o) (hn : H it = none) (hL : it ≠ X.env.locals)
    (h1 : it ∈ X.ex ∨ X.s_0.heap.objs.size ≤ it) (h2 : ∀ x c, X.env.cells.lookup x = some c → c ≠ it) (h3 : ∀ p ∈ X.pn ++ pins, p.1 ≠ it) : Inv X pins σ H { s with heap := h', toks := t' } := by
  have nit : ∀ b u, H b = some u → b ≠ it := fun b u e z => by rw [z, hn] at e; cases e
  refine I.step (g' := s.gens) (d' := s.drawn) (ch := [it]) (fun b hb => ?_) (fun b o _ _ hc e _ => k b o (fun z => hc (by simp [z])) e) (fun b o _ _ hc e _ => ⟨o.slots, k b o (fun z => hc (by simp [z])) e⟩) (fun _ _ _ _ n => n)
    (fun b o hc e => ⟨o, k b o (fun z => hc (by simp [z])) e⟩) (fun _ _ e => e) (fun _ _ _ e => e) (fun b ps e => ⟨#[], by rw [e]; simp⟩) (fun m hm => ?_) (fun b u e => ?_) I.bare
  · have e : b = it := by simpa using hb
    subst e
    exact ⟨h1, hL, h2, h3⟩
  · obtain ⟨o, es, ep, ho, r⟩ := hm
    exact ⟨o, es, ep, k _ o (Ne.symm hL) ho, r⟩
  · refine (I.hok b u e).stay (fun c v hc q => k c v ?_ q) (fun _ q => q) fun _ _ q => q
    rcases hc with z | z
    · rw [z]; exact nit b u e
    · exact nit c _ z
theorem Inv.tok (I : Inv X pins σ H s) (t : Nat) : Inv X pins σ H { s with toks := t } := I.un (h' := s.heap) (t' := t) Un.refl I.hok
theorem Inv.kept {t' : Nat} (I : Inv X pins σ H s) (k : ∀ b u, s.heap.get? b = some u → h'.get? b = some u) : Inv X pins σ H { s with heap := h', toks := t' } := I.un (Un.kept k) (I.hok.kept k)
theorem Inv.laid {a : Addr} {o : HO} {t' : Nat} (I : Inv X pins σ H s) (k : ∀ b u, s.heap.get? b = some u → h'.get? b = some u) (hp : s.heap.objs.size ≤ a) (new : ObjOk X.prog X.w (upd H a o) h' a o) :
    Inv X pins σ (upd H a o) { s with heap := h', toks := t' } := I.un (Un.laid k hp (I.hok.fresh hp)) (I.hok.laid k hp new)
theorem Inv.write {x e : Addr} {o : HO} {t' : Nat} (I : Inv X pins σ H s) (mu : Mut (H x)) (he : e = x ∨ H e = some (.own x)) (k : ∀ b u, b ≠ e → s.heap.get? b = some u → h'.get? b = some u) (heo : ∃ u, h'.get? e = some u)
    (new : ObjOk X.prog X.w (upd H x o) h' x o) : Inv X pins σ (upd H x o) { s with heap := h', toks := t' } := I.un (Un.write mu he k heo) (I.hok.write mu he k heo new)
theorem Inv.weak {σ' : List (Option V)} (I : Inv X pins σ H s) (hl : σ'.length = σ.length) (w : ∀ (i : Nat) v, σ'[i]? = some (some v) → σ[i]? = some (some v)) : Inv X pins σ' H s :=
  ⟨I.ok, I.os, I.bare, I.base, let ⟨m, hn, hl'⟩ := I.loc; ⟨m, hn, fun i x v e1 e2 e3 => hl' i x v e1 (w i v e2) e3⟩, I.cell, I.free, I.freeC, I.pin, I.hok, hl.trans I.len⟩
theorem Inv.pins_of {pins' : List (Addr × Obj)} (I : Inv X pins σ H s) (h : ∀ p ∈ pins', s.heap.get? p.1 = some p.2 ∧ H p.1 = none ∧ p.1 ≠ X.env.locals ∧ p.1 ∉ X.fs ∧ ∀ v, p.2.data ≠ .cell v) : Inv X pins' σ H s :=
  ⟨I.ok, I.os, I.bare, I.base, I.loc, I.cell, I.free, I.freeC, fun p hp => (List.mem_append.mp hp).elim (fun z => I.pin p (List.mem_append_left _ z)) (h p), I.hok, I.len⟩
theorem nodup_ix {N : List Str} (hN : N.Nodup) {i j : Nat} {x : Str} (a : N[i]? = some x) (b : N[j]? = some x) : i = j := by
  obtain ⟨h1, e1⟩ := List.getElem?_eq_some_iff.mp a
  obtain ⟨h2, e2⟩ := List.getElem?_eq_some_iff.mp b
  exact (List.getElem_inj hN).mp (e1.trans e2.symm)
theorem store_ok2 {M : Model} {A : Around} {E : Value → Shared → Prop} {i : Nat} {x : Str} {v : V} {u : Value} {Q : Unit → Shared → Prop} (I : Inv X pins σ H s) (hN : X.N.Nodup) (hi : X.N[i]? = some x) (hx : Loc X.env.scope x) (r : RelV v u)
    (h : ∀ s', Inv X pins (σ.set i (some v)) H s' → (∃ a, Heap.SameBut a s.heap s'.heap ∧ (a = X.env.locals ∨ X.env.cells.lookup x = some a)) → Q () s') (hf : X.fn x = true ∨ X.env.scope.names.lookup x = some .local := by first | exact .inl rfl | exact .inr rfl | assumption) : wpAny M A (storeName X.env x u) Q E s := by
  obtain ⟨m, hn, hl⟩ := id I.loc
  have hcls : (X.env.scope.kind == .class || (X.env.scope.kind == .module && X.env.locals != X.env.globals)) = false := by rw [I.ok.kind]; rfl
  have hiσ : i < σ.length := by rw [I.len]; exact (List.getElem?_eq_some_iff.mp hi).1
  have cne := I.cne
  have tracked : ∀ {a : Addr} {h' : Heap}, (∃ o, s.heap.get? a = some o ∧ H a = none) → Heap.SameBut a s.heap h' → HOk X.prog X.w H h' := fun {a h'} ha hs b ob e => by
    obtain ⟨_, _, hfree⟩ := ha
    refine (I.hok b ob e).stay (fun c w' hc q => (hs.2 c ?_).trans q) (fun _ q => q) fun _ _ q => q
    rintro rfl
    rcases hc with rfl | hc
    · rw [hfree] at e; cases e
    · rw [hfree] at hc; cases hc
  rcases hx with hk | hk
  · refine wpAny_storeName_local hk hn (fun h' hn' hs => ?_) hcls
    obtain ⟨oL, _, _, hoL, _⟩ := id hn
    refine h _ ⟨I.ok, I.os, I.bare, ⟨fun b o e n hb hx => ?_, fun b o e n hb hx => ?_, I.base.free, fun b o e hx => ?_, I.base.tups, I.base.frzs, I.base.tbls⟩, ⟨_, hn', fun j y v' e1 e2 e3 => ?_⟩, fun y c e => ?_, I.free, I.freeC, fun p hp => ?_, tracked ⟨oL, hoL, I.free⟩ hs, by simpa using I.len⟩ ⟨_, hs, .inl rfl⟩
    · exact (hs.2 b (Nat.ne_of_lt (Nat.lt_of_lt_of_le (Heap.lt_size e) I.ok.above))).trans (I.base.keep b o e n hb hx)
    · obtain ⟨sl, e1⟩ := I.base.slot b o e n hb hx
      exact ⟨sl, (hs.2 b (Nat.ne_of_lt (Nat.lt_of_lt_of_le (Heap.lt_size e) I.ok.above))).trans e1⟩
    · obtain ⟨o', e1⟩ := I.base.there b o e hx
      exact ⟨o', (hs.2 b (Nat.ne_of_lt (Nat.lt_of_lt_of_le (Heap.lt_size e) I.ok.above))).trans e1⟩
    · by_cases hj : j = i
      · subst hj
        rw [hi] at e1; cases e1
        rw [List.getElem?_set_self hiσ] at e2
        cases e2
        exact ⟨u, r, .inl ⟨hk, by simp⟩⟩
      · rw [List.getElem?_set_ne (Ne.symm hj)] at e2
        obtain ⟨u', r', q⟩ := hl j y v' e1 e2 e3
        refine ⟨u', r', ?_⟩
        rcases q with ⟨k, e⟩ | ⟨k, c, e, z⟩
        · refine .inl ⟨k, ?_⟩
          have : y ≠ x := fun e => hj (nodup_ix hN e1 (e ▸ hi))
          simp [this, e]
        · exact .inr ⟨k, c, e, z.sameBut hs (cne y c e)⟩
    · obtain ⟨w', z⟩ := I.cell y c e
      exact ⟨w', z.sameBut hs (cne y c e)⟩
    · obtain ⟨e, n, ne, nf, d⟩ := I.pin p hp
      exact ⟨(hs.2 p.1 ne).trans e, n, ne, nf, d⟩
  · have hfn : X.fn x = true := by
      rcases hf with z | z
      · exact z
      · rw [z] at hk; cases hk
    obtain ⟨c, hc⟩ := I.ok.has x (.inl hk)
    obtain ⟨w', z⟩ := I.cell x c hc
    refine wpAny_storeName_cell I.ok.kind hk hc z (fun h' hc' hs => ?_)
    obtain ⟨oc, hoc, hocd⟩ := id z
    refine h { s with heap := h' } ⟨I.ok, I.os, I.bare, ⟨fun b o e n hb hx => ?_, fun b o e n hb hx => ?_, I.base.free, fun b o e hx => ?_, I.base.tups, I.base.frzs, I.base.tbls⟩, ⟨m, hn.sameBut hs (Ne.symm (cne x c hc)), fun j y v' e1 e2 e3 => ?_⟩, fun y c' e => ?_, I.free, I.freeC, fun p hp => ?_, tracked ⟨oc, hoc, I.freeC x c hc⟩ hs, by simpa using I.len⟩ ⟨c, hs, .inr hc⟩
    · exact (hs.2 b (Nat.ne_of_lt (Nat.lt_of_lt_of_le (Heap.lt_size e) (I.ok.cab x c hfn hc)))).trans (I.base.keep b o e n hb hx)
    · obtain ⟨sl, e1⟩ := I.base.slot b o e n hb hx
      exact ⟨sl, (hs.2 b (Nat.ne_of_lt (Nat.lt_of_lt_of_le (Heap.lt_size e) (I.ok.cab x c hfn hc)))).trans e1⟩
    · obtain ⟨o', e1⟩ := I.base.there b o e hx
      exact ⟨o', (hs.2 b (Nat.ne_of_lt (Nat.lt_of_lt_of_le (Heap.lt_size e) (I.ok.cab x c hfn hc)))).trans e1⟩
    · by_cases hj : j = i
      · subst hj
        rw [hi] at e1; cases e1
        rw [List.getElem?_set_self hiσ] at e2
        cases e2
        exact ⟨u, r, .inr ⟨.inl hk, c, hc, hc'⟩⟩
      · rw [List.getElem?_set_ne (Ne.symm hj)] at e2
        obtain ⟨u', r', q⟩ := hl j y v' e1 e2 e3
        refine ⟨u', r', ?_⟩
        rcases q with q | ⟨k, c', e, z'⟩
        · exact .inl q
        · refine .inr ⟨k, c', e, z'.sameBut hs ?_⟩
          rintro rfl
          exact hj (nodup_ix hN e1 (I.ok.inj _ _ _ e hc ▸ hi))
    · by_cases hcc : c' = c
      · subst hcc; exact ⟨_, hc'⟩
      · obtain ⟨w2, z2⟩ := I.cell y c' e
        exact ⟨w2, z2.sameBut hs hcc⟩
    · obtain ⟨e, n, ne, nf, d⟩ := I.pin p hp
      refine ⟨(hs.2 p.1 ?_).trans e, n, ne, nf, d⟩
      intro q
      rw [q, hoc] at e
      have q' : oc = p.2 := Option.some.inj e
      exact d w' (by rw [← q']; exact hocd)
theorem store_ok {M : Model} {A : Around} {E : Value → Shared → Prop} {i : Nat} {x : Str} {v : V} {u : Value} {Q : Unit → Shared → Prop} (I : Inv X pins σ H s) (hN : X.N.Nodup) (hi : X.N[i]? = some x) (hx : Loc X.env.scope x) (r : RelV v u)
    (h : ∀ s', Inv X pins (σ.set i (some v)) H s' → Q () s') (hf : X.fn x = true ∨ X.env.scope.names.lookup x = some .local := by first | exact .inl rfl | exact .inr rfl | assumption) : wpAny M A (storeName X.env x u) Q E s :=
  store_ok2 I hN hi hx r (fun s' I' _ => h s' I') hf
theorem Inv.call' {s' : Shared} {ch : List Addr} (I : Inv X pins σ H s) (ho : s'.os = s.os) (u : Un (frs X.stack) ch H H' s.heap s'.heap) (hok : HOk X.prog X.w H' s'.heap) (hg : AllBare s'.gens)
    (hch : ∀ b ∈ ch, (b ∈ X.ex ∨ X.s_0.heap.objs.size ≤ b) ∧ b ≠ X.env.locals ∧ (∀ x c, X.env.cells.lookup x = some c → c ≠ b) ∧ ∀ p ∈ X.pn ++ pins, p.1 ≠ b) : Inv X pins σ H' s' := by
  obtain ⟨h', g', d', t', o'⟩ := s'
  have e : o' = s.os := ho
  subst e
  exact I.call (g' := g') (t' := t') (d' := d') u hok hg hch
end
abbrev XK := Value → Option Addr → Hp → Prop
abbrev St := List (Option V)
abbrev VK := V → Hp → Prop
abbrev TE := St → Hp → VK → Prop
abbrev TT := St → Hp → (Bool → Hp → Prop) → Prop
abbrev TA := St → Hp → (List V → Hp → Prop) → Prop
structure Ends where
  nx : St → Hp → Prop
  rt : VK
  bk : St → Hp → Prop := fun _ _ => False
  ct : St → Hp → Prop := fun _ _ => False
abbrev TS := Ends → St → Hp → Prop
def EP (X : Cx) (pins : List (Addr × Obj)) (σ : St) (Q : VK) (u : Value) (s' : Shared) : Prop := ∃ v H', Inv X pins σ H' s' ∧ RelV v u ∧ Q v H'
def TP (X : Cx) (pins : List (Addr × Obj)) (σ : St) (Q : Bool → Hp → Prop) (b : Bool) (s' : Shared) : Prop := ∃ H', Inv X pins σ H' s' ∧ Q b H'
def AP (X : Cx) (pins : List (Addr × Obj)) (σ : St) (Q : List V → Hp → Prop) (us : List Value) (s' : Shared) : Prop := ∃ vs H', Inv X pins σ H' s' ∧ Vals vs us ∧ Q vs H'
def SP (X : Cx) (pins : List (Addr × Obj)) (D : Ends) (f : Flow) (s' : Shared) : Prop :=
  match f with
  | .next => ∃ σ' H', Inv X pins σ' H' s' ∧ D.nx σ' H'
  | .brk => ∃ σ' H', Inv X pins σ' H' s' ∧ D.bk σ' H'
  | .cont => ∃ σ' H', Inv X pins σ' H' s' ∧ D.ct σ' H'
  | .ret u => ∃ v σ' H', Inv X pins σ' H' s' ∧ RelV v u ∧ D.rt v H'
def PE (X : Cx) (e : Expr) (t : TE) : Prop :=
  ∀ (pins : List (Addr × Obj)) (s : Shared) (σ : St) (H : Hp) (Q : VK), Inv X pins σ H s → t σ H Q → wpAny (model X.prog X.w) X.A (eval e X.env) (EP X pins σ Q) X.xe s
def PT (X : Cx) (e : Expr) (t : TT) : Prop :=
  ∀ (pins : List (Addr × Obj)) (s : Shared) (σ : St) (H : Hp) (Q : Bool → Hp → Prop), Inv X pins σ H s → t σ H Q → wpAny (model X.prog X.w) X.A (isTrue e X.env (eval e X.env)) (TP X pins σ Q) X.xe s
def PW (X : Cx) (e : Expr) (t : TT) : Prop :=
  ∀ (whole : Sem Value) (pins : List (Addr × Obj)) (s : Shared) (σ : St) (H : Hp) (Q : Bool → Hp → Prop), Inv X pins σ H s → t σ H Q → wpAny (model X.prog X.w) X.A (isTrue e X.env whole) (TP X pins σ Q) X.xe s
theorem PW.pt {X : Cx} {e : Expr} {t : TT} (h : PW X e t) : PT X e t := h _
def PA (X : Cx) (es : List Expr) (t : TA) : Prop :=
  ∀ (pos : Pos) (pins : List (Addr × Obj)) (s : Shared) (σ : St) (H : Hp) (Q : List V → Hp → Prop), Inv X pins σ H s → t σ H Q → wpAny (model X.prog X.w) X.A (spliced (backTo pos (starEach es X.env))) (AP X pins σ Q) X.xe s
def PS (X : Cx) (st : Stmt) (t : TS) : Prop :=
  ∀ (pins : List (Addr × Obj)) (s : Shared) (σ : St) (H : Hp) (D : Ends), Inv X pins σ H s → t D σ H → wpAny (model X.prog X.w) X.A (exec st X.env) (SP X pins D) X.xe s
def PSs (X : Cx) (st : List Stmt) (t : TS) : Prop :=
  ∀ (pins : List (Addr × Obj)) (s : Shared) (σ : St) (H : Hp) (D : Ends), Inv X pins σ H s → t D σ H → wpAny (model X.prog X.w) X.A (execs st X.env) (SP X pins D) X.xe s
theorem thn {α : Type} {t : Sem α} {Q Q' : α → Shared → Prop} {M : Model} {A : Around} {E : Value → Shared → Prop} {s : Shared} (h : wpAny M A t Q E s) (hQ : ∀ a s, Q a s → Q' a s) : wpAny M A t Q' E s := wpAny_mono h hQ fun _ _ x => x
end L2
namespace L2
open PySem PySem.Spec PyProof.Rows
section
variable {X : Cx}
def tVar (i : Nat) : TE := fun σ H Q => ∃ v, σ[i]? = some (some v) ∧ Q v H
def tC (v : V) : TE := fun _ H Q => Q v H
theorem pe_var {i : Nat} {x : Str} {pos : Pos} (hN : X.N[i]? = some x) (hv : Vis X.env.scope x) (hd : (x == ("__debug__" : Str)) = false := by decide) (hcd : (x == ("__classdict__" : Str)) = false := by decide) : PE X (.Name x pos) (tVar i) := by
  intro pins s σ H Q I h
  obtain ⟨v, e, h⟩ := h
  obtain ⟨m, hn, hl⟩ := I.loc
  obtain ⟨u, r, l⟩ := hl i x v hN e hv
  have fin : EP X pins σ Q u s := ⟨v, H, I, r, h⟩
  rcases l with ⟨hk, hm⟩ | ⟨hk, c, hc, hcell⟩
  · exact wpAny_Name (wpAny_loadName_local I.ok.kind hk hn hm fin) hd
  · rcases hk with hk | hk
    · exact wpAny_Name (wpAny_loadName_cell I.ok.kind hk hc hcell fin) hd
    · exact wpAny_Name (wpAny_loadName_free I.ok.kind hk hc hcell fin hcd) hd
theorem pe_int {i j pos} : PE X (.Constant (.int i) j pos) (tC (.int i)) := fun _ _ _ H _ I h => wpAny_Constant_int ⟨.int i, H, I.tok _, ⟨_, rfl⟩, h⟩
theorem pe_bl {b j pos} : PE X (.Constant (.bool b) j pos) (tC (.bl b)) := fun _ _ _ H _ I h => Constant_bool ⟨.bl b, H, I, rfl, h⟩
theorem pe_non {j pos} : PE X (.Constant .none j pos) (tC .non) := fun _ _ _ H _ I h => Constant_none ⟨.non, H, I, rfl, h⟩
theorem pe_str {x j pos} : PE X (.Constant (.str x) j pos) (tC (.str x)) := fun _ _ _ H _ I h => Calls.Constant_str ⟨.str x, H, I.tok _, ⟨_, rfl⟩, h⟩
def Gl (X : Cx) (x : Str) : Prop := X.env.kindOf x = some .globalImplicit
theorem ld_glob {E : Value → Shared → Prop} {pins : List (Addr × Obj)} {s : Shared} {σ : St} {H : Hp} {x : Str} {u : Value} {pos : Pos} {Q : Value → Shared → Prop} (I : Inv X pins σ H s) (hg : Gl X x) (hm : X.mg x = some u) (h : Q u s)
    (hd : (x == ("__debug__" : Str)) = false := by decide) : wpAny (model X.prog X.w) X.A (eval (.Name x pos) X.env) Q E s :=
  Calls.Name_function_global I.ok.kind hg (Calls.loadGlobal_global (by rw [I.ok.glob]; exact I.mod.glob.keeps I.bk) hm h) hd
theorem ld_blt {E : Value → Shared → Prop} {pins : List (Addr × Obj)} {s : Shared} {σ : St} {H : Hp} {x : Str} {u : Value} {pos : Pos} {Q : Value → Shared → Prop} (I : Inv X pins σ H s) (hg : Gl X x) (hm : X.mg x = none) (hv : bootBuiltins x = some u) (h : Q u s)
    (hn : x ≠ "__name__" := by decide) (hd : (x == ("__debug__" : Str)) = false := by decide) : wpAny (model X.prog X.w) X.A (eval (.Name x pos) X.env) Q E s := by
  obtain ⟨mb, h1, h2⟩ := I.mod.blt
  exact Calls.Name_function_global I.ok.kind hg (Calls.loadGlobal_builtin (by rw [I.ok.glob]; exact I.mod.glob.keeps I.bk) hm (by rw [I.ok.blt]; exact h1.keeps I.bk) ((h2 x hn).trans hv) h) hd
theorem pe_glob {x : Str} {v : V} {u : Value} {pos : Pos} (hg : Gl X x) (hm : X.mg x = some u) (r : RelV v u) (hd : (x == ("__debug__" : Str)) = false := by decide) : PE X (.Name x pos) (tC v) :=
  fun _ _ _ H _ I h => ld_glob I hg hm ⟨v, H, I, r, h⟩ hd
def t2I (ta tb : TE) (k : Int → Int → Hp → Prop) : St → Hp → Prop := fun σ H => ta σ H fun x H1 => tb σ H1 fun y H2 => ∃ i j, x = .int i ∧ y = .int j ∧ k i j H2
def tAdd (ta tb : TE) : TE := fun σ H Q => t2I ta tb (fun i j H2 => Q (.int (i + j)) H2) σ H
def tSub (ta tb : TE) : TE := fun σ H Q => t2I ta tb (fun i j H2 => Q (.int (i - j)) H2) σ H
def tMul (ta tb : TE) : TE := fun σ H Q => t2I ta tb (fun i j H2 => (-(2 ^ 64) < i ∧ i < 2 ^ 64) ∧ Q (.int (i * j)) H2) σ H
variable {a b : Expr} {ta tb : TE} {pos : Pos}
def PC (X : Cx) (op : CmpOp) (a b : Expr) (t : TE) : Prop :=
  ∀ (pins : List (Addr × Obj)) (s : Shared) (σ : St) (H : Hp) (Q : VK), Inv X pins σ H s → t σ H Q →
    wpAny (model X.prog X.w) X.A (eval a X.env) (fun v s₁ => wpAny (model X.prog X.w) X.A (eval b X.env) (fun u s₂ => wpAny (model X.prog X.w) X.A (compareOp op v u) (EP X pins σ Q) X.xe s₂) X.xe s₁) X.xe s
def tCmp (p : Int → Int → Bool) (ta tb : TE) : TE := fun σ H Q => t2I ta tb (fun i j H2 => Q (.bl (p i j)) H2) σ H
abbrev tLt : TE → TE → TE := tCmp fun i j => decide (i < j)
abbrev tLe : TE → TE → TE := tCmp fun i j => decide (i ≤ j)
abbrev tGt : TE → TE → TE := tCmp fun i j => decide (j < i)
abbrev tGe : TE → TE → TE := tCmp fun i j => decide (j ≤ i)
abbrev tEqI : TE → TE → TE := tCmp fun i j => decide (i = j)
abbrev tNeI : TE → TE → TE := tCmp fun i j => !decide (i = j)
def tIsN (ta : TE) : TE := fun σ H Q => ta σ H fun x H1 => Q (.bl (decide (x = .non))) H1
def tNotN (ta : TE) : TE := fun σ H Q => ta σ H fun x H1 => Q (.bl (!decide (x = .non))) H1
def tB (t : TE) : TT := fun σ H Q => t σ H fun x H1 => ∃ c, x = .bl c ∧ Q c H1
theorem pt_cmp {op : CmpOp} {t : TE} (h : PC X op a b t) (h1 : behindInMarks op b = false := by first | exact nobehind _ (by decide) (by decide) | rfl) : PT X (.Compare a [op] [b] pos) (tB t) := by
  intro pins s σ H Q I hw
  refine wpAny_isTrue_Compare1 (thn (h pins s σ H _ I hw) fun v s1 h1 => thn h1 fun u s2 h2 => thn h2 fun c s3 ⟨x, H1, I1, r1, q1⟩ => ?_) h1
  obtain ⟨d, rfl, q⟩ := q1
  cases r1
  exact wpAny_truthy_bool ⟨H1, I1, q⟩
theorem pt_val {e : Expr} {t : TE} (h : PE X e t) (he : ∀ whole, isTrue e X.env whole = (do let v ← whole; standAt e.pos; holding [v] (truthy v)) := by intro _; rfl) : PT X e (tB t) := by
  intro pins s σ H Q I hw
  refine isTrue_plain (thn (h pins s σ H _ I hw) fun v s1 ⟨x, H1, I1, r1, q1⟩ => ?_) (he _)
  obtain ⟨d, rfl, q⟩ := q1
  cases r1
  exact wpAny_truthy_bool ⟨H1, I1, q⟩
variable {tA tB' : TT} {rest : List Expr}
def tAnd (t u : TT) : TT := fun σ H Q => t σ H fun c H1 => if c = true then u σ H1 Q else Q false H1
def tOr (t u : TT) : TT := fun σ H Q => t σ H fun c H1 => if c = true then Q true H1 else u σ H1 Q
def tNot (t : TT) : TT := fun σ H Q => t σ H fun c H1 => Q (!c) H1
theorem pw_and1 (ha : PT X a tA) : PW X (.BoolOp .And [a] pos) tA := by
  intro wh pins s σ H Q I h
  refine isTrue_and (thn (ha pins s σ H Q I h) fun c s1 e => ?_)
  cases c with
  | true => exact isTrue_and_nil e
  | false => exact e
theorem pw_or1 (ha : PT X a tA) : PW X (.BoolOp .Or [a] pos) tA := by
  intro wh pins s σ H Q I h
  refine isTrue_or (thn (ha pins s σ H Q I h) fun c s1 e => ?_)
  cases c with
  | false => exact isTrue_or_nil e
  | true => exact e
theorem pw_and (ha : PT X a tA) (hb : PW X (.BoolOp .And (b :: rest) pos) tB') : PW X (.BoolOp .And (a :: b :: rest) pos) (tAnd tA tB') := by
  intro wh pins s σ H Q I h
  refine isTrue_and (thn (ha pins s σ H _ I h) fun c s1 ⟨H1, I1, q1⟩ => ?_)
  cases c with
  | true => exact hb wh pins s1 σ H1 Q I1 q1
  | false => exact ⟨H1, I1, q1⟩
theorem pw_or (ha : PT X a tA) (hb : PW X (.BoolOp .Or (b :: rest) pos) tB') : PW X (.BoolOp .Or (a :: b :: rest) pos) (tOr tA tB') := by
  intro wh pins s σ H Q I h
  refine isTrue_or (thn (ha pins s σ H _ I h) fun c s1 ⟨H1, I1, q1⟩ => ?_)
  cases c with
  | true => exact ⟨H1, I1, q1⟩
  | false => exact hb wh pins s1 σ H1 Q I1 q1
theorem pt_not (ha : PT X a tA) : PT X (.UnaryOp .Not a pos) (tNot tA) := by
  intro pins s σ H Q I h
  exact isTrue_not (ha pins s σ H (fun c H1 => Q (!c) H1) I h)
def tAndV (ta tb : TE) : TE := fun σ H Q => ta σ H fun x H1 => ∃ c, x = .bl c ∧ if c = true then tb σ H1 Q else Q (.bl false) H1
def tOrV (ta tb : TE) : TE := fun σ H Q => ta σ H fun x H1 => ∃ c, x = .bl c ∧ if c = true then Q (.bl true) H1 else tb σ H1 Q
def tNotV (ta : TE) : TE := fun σ H Q => ta σ H fun x H1 => ∃ c, x = .bl c ∧ Q (.bl (!c)) H1
theorem pe_one {op} {t : TE} (h : PE X a t) : PE X (.BoolOp op [a] pos) t := fun pins s σ H Q I hw => BoolOp_one (h pins s σ H Q I hw)
theorem pe_and (ha : PE X a ta) (hb : PE X (.BoolOp .And (b :: rest) pos) tb) : PE X (.BoolOp .And (a :: b :: rest) pos) (tAndV ta tb) := by
  intro pins s σ H Q I h
  refine BoolOp_and (thn (ha pins s σ H _ I h) fun v s1 ⟨x, H1, I1, r1, q1⟩ => ?_)
  obtain ⟨c, rfl, q1⟩ := q1
  cases r1
  refine wpAny_truthy_bool ?_
  cases c with
  | true => exact hb pins s1 σ H1 Q I1 q1
  | false => exact ⟨.bl false, H1, I1, rfl, q1⟩
theorem pe_or (ha : PE X a ta) (hb : PE X (.BoolOp .Or (b :: rest) pos) tb) : PE X (.BoolOp .Or (a :: b :: rest) pos) (tOrV ta tb) := by
  intro pins s σ H Q I h
  refine BoolOp_or (thn (ha pins s σ H _ I h) fun v s1 ⟨x, H1, I1, r1, q1⟩ => ?_)
  obtain ⟨c, rfl, q1⟩ := q1
  cases r1
  refine wpAny_truthy_bool ?_
  cases c with
  | false => exact hb pins s1 σ H1 Q I1 q1
  | true => exact ⟨.bl true, H1, I1, rfl, q1⟩
theorem pe_not (ha : PE X a ta) : PE X (.UnaryOp .Not a pos) (tNotV ta) := by
  intro pins s σ H Q I h
  refine UnaryOp_ (thn (ha pins s σ H _ I h) fun v s1 ⟨x, H1, I1, r1, q1⟩ => ?_)
  obtain ⟨c, rfl, q1⟩ := q1
  cases r1
  exact not_of (wpAny_truthy_bool ⟨.bl (!c), H1, I1, rfl, q1⟩)
def tIf (t : TT) (ta tb : TE) : TE := fun σ H Q => t σ H fun c H1 => if c = true then ta σ H1 Q else tb σ H1 Q
theorem pe_ifExp {c : Expr} (hc : PT X c tA) (ha : PE X a ta) (hb : PE X b tb) : PE X (.IfExp c a b pos) (tIf tA ta tb) := by
  intro pins s σ H Q I h
  refine wpAny_IfExp (thn (hc pins s σ H _ I h) fun d s1 ⟨H1, I1, q1⟩ => ?_)
  cases d with
  | true => exact ha pins s1 σ H1 Q I1 q1
  | false => exact hb pins s1 σ H1 Q I1 q1
end
end L2
namespace L2
open PySem PySem.Spec PyProof.Rows
def SqL (K : PySem.W.Frag) (H : Hp) (a : Addr) (xs : List V) : Prop :=
  Rd H a (.lst xs) ∨
    ∃ (o : Obj) (its : Array Value) (n : Nat), K.lookup a = some o ∧ o.cls = .type "list" ∧ o.dict = none ∧ o.data = .seq its n ∧ its.size ≤ sizeLine ∧ Vals xs its.toList
def SqT (K : PySem.W.Frag) (H : Hp) (a : Addr) (xs : List V) : Prop :=
  Rd H a (.tup xs) ∨
    ∃ (o : Obj) (its : Array Value) (n : Nat), K.lookup a = some o ∧ o.cls = .type "tuple" ∧ o.data = .seq its n ∧ its.size ≤ sizeLine ∧ Vals xs its.toList
def absV : Value → Option V
  | .none => some .non
  | .bool b => some (.bl b)
  | .int i _ => some (.int i)
  | .str x _ => some (.str x)
  | .bytes b _ => some (.byt b)
  | .float b _ => some (.flt b)
  | .ref a => some (.ref a)
  | .type n => some (.ty n)
  | _ => none
theorem RelV.abs {x : V} {u : Value} (r : RelV x u) : absV u = some x := by
  cases x with
  | non => cases r; rfl
  | bl _ => cases r; rfl
  | int _ => obtain ⟨t, rfl⟩ := r; rfl
  | str _ => obtain ⟨t, rfl⟩ := r; rfl
  | byt _ => obtain ⟨t, rfl⟩ := r; rfl
  | flt _ => obtain ⟨t, rfl⟩ := r; rfl
  | ref _ => cases r; rfl
  | ty _ => cases r; rfl
theorem RelV.inj {x y : V} {u : Value} (r : RelV x u) (q : RelV y u) : x = y := Option.some.inj (r.abs.symm.trans q.abs)
theorem Vals.inj : ∀ {xs ys : List V} {us : List Value}, Vals xs us → Vals ys us → xs = ys
  | _, _, _, .nil, .nil => rfl
  | _, _, _, .cons r t, .cons r' t' => by rw [r.inj r', Vals.inj t t']
section
variable {X : Cx} {pins : List (Addr × Obj)} {σ : St} {H : Hp} {s : Shared} {a : Addr} {xs ys : List V}
theorem SqL.of {K : PySem.W.Frag} (h : H a = some (.lst xs)) : SqL K H a xs := .inl (.inl h)
theorem SqT.of {K : PySem.W.Frag} (h : H a = some (.tup xs)) : SqT K H a xs := .inl (.inl h)
theorem Inv.list (I : Inv X pins σ H s) (h : SqL X.K H a xs) : ∃ its : List Value, Vals xs its ∧ PlainL s.heap a its.toArray ∧ xs.length ≤ sizeLine := by
  rcases h with h | ⟨o, its, n, hk, hc, hd, hs, hz, r⟩
  · obtain ⟨z, its, n, r, e⟩ := h.ok I.hok
    exact ⟨its, r, ⟨_, n, e, rfl, rfl, rfl⟩, z⟩
  · refine ⟨its.toList, r, ⟨o, n, I.kIn a o hk, hc, hd, by simpa using hs⟩, ?_⟩
    have e := r.length
    simp only [Array.length_toList] at e
    omega
theorem Inv.tuple (I : Inv X pins σ H s) (h : SqT X.K H a xs) : ∃ its : List Value, Vals xs its ∧ IsTup s.heap a its.toArray ∧ xs.length ≤ sizeLine := by
  rcases h with h | ⟨o, its, n, hk, hc, hs, hz, r⟩
  · obtain ⟨z, its, r, p⟩ := h.ok I.hok
    exact ⟨its, r, p, z⟩
  · refine ⟨its.toList, r, ⟨o, I.kIn a o hk, hc, n, by simpa using hs⟩, ?_⟩
    have e := r.length
    simp only [Array.length_toList] at e
    omega
theorem Inv.list_inj (I : Inv X pins σ H s) (h : SqL X.K H a xs) (h' : SqL X.K H a ys) : xs = ys := by
  obtain ⟨its, r, ⟨o, n, e, _, _, d⟩, _⟩ := I.list h
  obtain ⟨its', r', ⟨o', n', e', _, _, d'⟩, _⟩ := I.list h'
  rw [e] at e'; cases e'
  rw [d] at d'
  injection d' with d1 _
  have : its = its' := by simpa using congrArg Array.toList d1
  subst this
  exact r.inj r'
theorem Inv.tuple_inj (I : Inv X pins σ H s) (h : SqT X.K H a xs) (h' : SqT X.K H a ys) : xs = ys := by
  obtain ⟨its, r, ⟨o, e, _, n, d⟩, _⟩ := I.tuple h
  obtain ⟨its', r', ⟨o', e', _, n', d'⟩, _⟩ := I.tuple h'
  rw [e] at e'; cases e'
  rw [d] at d'
  injection d' with d1 _
  have : its = its' := by simpa using congrArg Array.toList d1
  subst this
  exact r.inj r'
end
abbrev Cx.wish (X : Cx) (E : Value → Shared → Prop) : Cx := { X with xe := E }
abbrev Cx.nox (X : Cx) : Cx := X.wish fun _ _ => False
theorem Cx.Ok.wish {X : Cx} (ok : X.Ok) (E : Value → Shared → Prop) : (X.wish E).Ok :=
  ⟨ok.mod, ok.kind, ok.glob, ok.blt, ok.above, ok.inj, ok.has, ok.cab, ok.hd, ok.frames, ok.stk, ok.exf, ok.bs, ok.bsz, ok.noex, ok.exfs, ok.funs, ok.frf⟩
theorem Cx.Ok.unwish {X : Cx} {E : Value → Shared → Prop} (ok : (X.wish E).Ok) : X.Ok :=
  ⟨ok.mod, ok.kind, ok.glob, ok.blt, ok.above, ok.inj, ok.has, ok.cab, ok.hd, ok.frames, ok.stk, ok.exf, ok.bs, ok.bsz, ok.noex, ok.exfs, ok.funs, ok.frf⟩
section
variable {X : Cx} {pins : List (Addr × Obj)} {σ : St} {H : Hp} {s : Shared} {E : Value → Shared → Prop}
theorem Inv.wish (I : Inv X pins σ H s) (E : Value → Shared → Prop) : Inv (X.wish E) pins σ H s := ⟨I.ok.wish E, I.os, I.bare, I.base, I.loc, I.cell, I.free, I.freeC, I.pin, I.hok, I.len⟩
theorem Inv.unwish (I : Inv (X.wish E) pins σ H s) : Inv X pins σ H s := ⟨I.ok.unwish, I.os, I.bare, I.base, I.loc, I.cell, I.free, I.freeC, I.pin, I.hok, I.len⟩
theorem SP.unwish {D : Ends} {f : Flow} {s' : Shared} (h : SP (X.wish E) pins D f s') : SP X pins D f s' := by
  cases f with
  | next => obtain ⟨σ', H', I, q⟩ := h; exact ⟨σ', H', I.unwish, q⟩
  | brk => obtain ⟨σ', H', I, q⟩ := h; exact ⟨σ', H', I.unwish, q⟩
  | cont => obtain ⟨σ', H', I, q⟩ := h; exact ⟨σ', H', I.unwish, q⟩
  | ret u => obtain ⟨v, σ', H', I, r, q⟩ := h; exact ⟨v, σ', H', I.unwish, r, q⟩
theorem PSs.nox {st : List Stmt} {t : TS} (h : PSs X.nox st t) : PSs X st t := fun pins s σ H D I hw =>
  wpAny_mono (h pins s σ H D (I.wish _) hw) (fun _ _ q => q.unwish) fun _ _ z => False.elim z
end
section
variable {X : Cx} {st : Stmt} {rest : List Stmt} {t u : TS} {e : Expr} {te : TE} {pos : Pos}
def tNext : TS := fun D σ H => D.nx σ H
def tSeq (t u : TS) : TS := fun D σ H => t { D with nx := u D } σ H
theorem pss_nil : PSs X [] tNext := fun _ _ σ H _ I h => wpAny_execs_nil ⟨σ, H, I, h⟩
theorem pss_cons (h1 : PS X st t) (h2 : PSs X rest u) : PSs X (st :: rest) (tSeq t u) := by
  intro pins s σ H D I h
  refine wpAny_execs_cons (thn (h1 pins s σ H { D with nx := u D } I h) fun f s1 q => ?_)
  cases f with
  | next =>
    obtain ⟨σ', H', I', q⟩ := q
    exact h2 pins s1 σ' H' D I' q
  | ret v => exact q
  | brk => exact q
  | cont => exact q
theorem pss_one (h1 : PS X st t) : PSs X [st] t := by
  intro pins s σ H D I h
  refine wpAny_execs_cons (thn (h1 pins s σ H D I h) fun f s1 q => ?_)
  cases f with
  | next => exact wpAny_execs_nil q
  | ret v => exact q
  | brk => exact q
  | cont => exact q
def tBreak : TS := fun D σ H => D.bk σ H
def tCont : TS := fun D σ H => D.ct σ H
theorem Inv.quiet {pins : List (Addr × Obj)} {σ : St} {H : Hp} {s : Shared} (I : Inv X pins σ H s) : interactive X.env = false := by simp [interactive, I.ok.kind]
def tDrop (te : TE) : TS := fun D σ H => te σ H fun _ H1 => D.nx σ H1
theorem ps_expr (he : PE X e te) (hs : swapsWith e none pos.line X.env = pure false := by rfl) : PS X (.Expr e pos) (tDrop te) := by
  intro pins s σ H D I h
  exact wpAny_Expr_any (thn (he pins s σ H _ I h) fun v s1 ⟨x, H1, I1, r1, q1⟩ => ⟨σ, H1, I1, q1⟩) I.quiet hs
def tRet (te : TE) : TS := fun D σ H => te σ H D.rt
theorem ps_ret (he : PE X e te) : PS X (.Return (some e) pos) (tRet te) := by
  intro pins s σ H D I h
  exact wpAny_Return_some (thn (he pins s σ H _ I h) fun v s1 ⟨x, H1, I1, r1, q1⟩ => ⟨x, σ, H1, I1, r1, q1⟩)
def tRetN : TS := fun D _ H => D.rt .non H
def tIfS (c : TT) (t u : TS) : TS := fun D σ H => c σ H fun b H1 => if b = true then t D σ H1 else u D σ H1
theorem ps_if {c : Expr} {a b : List Stmt} {tc : TT} (hc : PT X c tc) (ha : PSs X a t) (hb : PSs X b u) : PS X (.If c a b pos) (tIfS tc t u) := by
  intro pins s σ H D I h
  refine wpAny_If (thn (hc pins s σ H _ I h) fun d s1 ⟨H1, I1, q1⟩ => ?_)
  cases d with
  | true => exact ha pins s1 σ H1 D I1 q1
  | false => exact hb pins s1 σ H1 D I1 q1
def tNever : TS := fun _ _ _ => False
end
abbrev TG := V → St → Hp → (St → Hp → Prop) → Prop
abbrev TGs := List V → St → Hp → (St → Hp → Prop) → Prop
def PG (X : Cx) (target : Expr) (t : TG) : Prop :=
  ∀ (pins : List (Addr × Obj)) (s : Shared) (σ : St) (H : Hp) (v : V) (u : Value) (Q : St → Hp → Prop), Inv X pins σ H s → RelV v u → t v σ H Q →
    wpAny (model X.prog X.w) X.A (assign target X.env u) (fun _ s' => ∃ σ' H', Inv X pins σ' H' s' ∧ Q σ' H') X.xe s
def PGs (X : Cx) (ts : List Expr) (t : TGs) : Prop :=
  ∀ (pins : List (Addr × Obj)) (s : Shared) (σ : St) (H : Hp) (vs : List V) (us : List Value) (Q : St → Hp → Prop), Inv X pins σ H s → Vals vs us → t vs σ H Q →
    wpAny (model X.prog X.w) X.A (assignInOrder ((assignEach ts X.env).map (·.2)) us) (fun _ s' => ∃ σ' H', Inv X pins σ' H' s' ∧ Q σ' H') X.xe s
abbrev TSet := V → V → V → Hp → (Hp → Prop) → Prop
def PSet (X : Cx) (t : TSet) : Prop :=
  ∀ (pins : List (Addr × Obj)) (s : Shared) (σ : St) (H : Hp) (o i v : V) (ov iv u : Value) (Q : Hp → Prop), Inv X pins σ H s → RelV o ov → RelV i iv → RelV v u → t o i v H Q →
    wpAny (model X.prog X.w) X.A (setItem ov iv u) (fun _ s' => ∃ H', Inv X pins σ H' s' ∧ Q H') X.xe s
abbrev TIp := V → V → Hp → VK → Prop
def PIp (X : Cx) (op : Operator) (t : TIp) : Prop :=
  ∀ (pins : List (Addr × Obj)) (s : Shared) (σ : St) (H : Hp) (x y : V) (v u : Value) (Q : VK), Inv X pins σ H s → RelV x v → RelV y u → t x y H Q →
    wpAny (model X.prog X.w) X.A (inplaceOp op v u) (EP X pins σ Q) X.xe s
section
variable {X : Cx} {pos : Pos}
def gName (i : Nat) : TG := fun v σ H Q => Q (σ.set i (some v)) H
theorem pg_name {i : Nat} {x : Str} (hN : X.N.Nodup) (hi : X.N[i]? = some x) (hx : Loc X.env.scope x) (hf : X.fn x = true ∨ X.env.scope.names.lookup x = some .local := by first | exact .inl rfl | exact .inr rfl | assumption) : PG X (.Name x pos) (gName i) := by
  intro pins s σ H v u Q I r h
  exact wpAny_assign_Name (store_ok I hN hi hx r (fun s' I' => ⟨_, H, I', h⟩) hf)
def gNil : TGs := fun vs σ H Q => vs = [] ∧ Q σ H
def gCons (t : TG) (u : TGs) : TGs := fun vs σ H Q => ∃ v r, vs = v :: r ∧ t v σ H fun σ' H' => u r σ' H' Q
theorem pgs_nil : PGs X [] gNil := by
  intro pins s σ H vs us Q I r h
  obtain ⟨e, h⟩ := h
  subst e
  cases r
  exact assignInOrder_nil ⟨σ, H, I, h⟩
theorem pgs_cons {e : Expr} {es : List Expr} {t : TG} {u : TGs} (h1 : PG X e t) (h2 : PGs X es u)
    (hs : (assignEach (e :: es) X.env).map (·.2) = assign e X.env :: (assignEach es X.env).map (·.2) := by rfl) : PGs X (e :: es) (gCons t u) := by
  intro pins s σ H vs us Q I r h
  obtain ⟨v, vr, e1, h⟩ := h
  subst e1
  cases r with
  | cons r rr =>
    rw [hs]
    refine assignInOrder_cons (thn (h1 pins s σ H _ _ _ I r h) fun _ s1 ⟨σ1, H1, I1, q1⟩ => ?_)
    exact h2 pins s1 σ1 H1 _ _ Q I1 rr q1
def gTup (K : PySem.W.Frag) (n : Nat) (t : TGs) : TG := fun v σ H Q => ∃ a xs, v = .ref a ∧ SqT K H a xs ∧ xs.length = n ∧ t xs σ H Q
theorem pg_tup {es : List Expr} {k : Nat} {t : TGs} {n : Nat} (hc : X.calm = true) (h : PGs X es t)
    (hn : (assignEach es X.env).length = n := by rfl) (hst : (assignEach es X.env).findIdx? (·.1) = none := by rfl) : PG X (.Tuple es k pos) (gTup X.K n t) := by
  intro pins s σ H v u Q I r hw
  obtain ⟨a, xs, e1, hq, hl, hw⟩ := hw
  subst e1
  cases r
  obtain ⟨its, rv, ht, hz⟩ := I.tuple hq
  refine assign_Tuple_tuple (I.ok.hd hc) ht (by simp [hn, ← hl, rv.length]) hst fun h' hx => ?_
  have I1 : Inv X pins σ H { s with heap := h' } := I.kept (t' := s.toks) fun b o e => hx b o (Nat.ne_of_lt (Heap.lt_size e)) e
  exact h pins _ σ H xs _ Q I1 (by simpa using rv) hw
def gSub (to ti : TE) (t : TSet) : TG := fun v σ H Q => to σ H fun o H1 => ti σ H1 fun i H2 => t o i v H2 fun H3 => Q σ H3
def tAsg (te : TE) (g : TG) : TS := fun D σ H => te σ H fun x H1 => g x σ H1 D.nx
theorem ps_set {i : Nat} {x : Str} {e : Expr} {te : TE} {pos' : Pos} (hN : X.N.Nodup) (hi : X.N[i]? = some x) (hx : Loc X.env.scope x) (he : PE X e te) (hs : swapsWith e (some (.Name x pos')) pos.line X.env = pure false := by rfl) (hf : X.fn x = true ∨ X.env.scope.names.lookup x = some .local := by first | exact .inl rfl | exact .inr rfl | assumption) :
    PS X (.Assign [.Name x pos'] e pos) (tAsg te (gName i)) := by
  intro pins s σ H D I h
  refine wpAny_Assign_Name (thn (he pins s σ H _ I h) fun v s1 ⟨y, H1, I1, r1, q1⟩ => ?_) hs
  exact store_ok I1 hN hi hx r1 (fun s2 I2 => ⟨_, H1, I2, q1⟩) hf
def tPar (i j : Nat) (ta : TA) : TS := fun D σ H => ta σ H fun vs H1 => ∃ v w, vs = [v, w] ∧ D.nx ((σ.set i (some v)).set j (some w)) H1
def tAug (i : Nat) (te : TE) (ti : TIp) : TS := fun D σ H => ∃ x, σ[i]? = some (some x) ∧ te σ H fun y H1 => ti x y H1 fun z H2 => D.nx (σ.set i (some z)) H2
theorem ps_aug {i : Nat} {x : Str} {e : Expr} {te : TE} {op : Operator} {ti : TIp} {pos' : Pos} (hN : X.N.Nodup) (hi : X.N[i]? = some x) (hx : Loc X.env.scope x) (he : PE X e te) (ho : PIp X op ti) (hf : X.fn x = true ∨ X.env.scope.names.lookup x = some .local := by first | exact .inl rfl | exact .inr rfl | assumption) :
    PS X (.AugAssign (.Name x pos') op e pos) (tAug i te ti) := by
  intro pins s σ H D I h
  obtain ⟨v, e1, h⟩ := h
  obtain ⟨m, hn, hl⟩ := I.loc
  have vis : Vis X.env.scope x := by rcases hx with k | k; exact .inl k; exact .inr (.inl k)
  obtain ⟨u, r, l⟩ := hl i x v hi e1 vis
  refine wpAny_AugAssign_Name ?_
  have go : wpAny (model X.prog X.w) X.A (eval e X.env) (fun w s₂ => wpAny (model X.prog X.w) X.A (inplaceOp op u w) (fun r s₃ => wpAny (model X.prog X.w) X.A (storeName X.env x r) (fun _ => SP X pins D .next) X.xe s₃) X.xe s₂) X.xe s := by
    refine thn (he pins s σ H _ I h) fun w s1 ⟨y, H1, I1, r1, q1⟩ => ?_
    refine thn (ho pins s1 σ H1 v y u w _ I1 r r1 q1) fun z s2 ⟨zv, H2, I2, r2, q2⟩ => ?_
    exact store_ok I2 hN hi hx r2 (fun s3 I3 => ⟨_, H2, I3, q2⟩) hf
  rcases l with ⟨hk, hm⟩ | ⟨hk, c, hc, hcell⟩
  · exact wpAny_loadName_local I.ok.kind hk hn hm go
  · rcases hk with hk | hk
    · exact wpAny_loadName_cell I.ok.kind hk hc hcell go
    · rcases hx with k | k
      · have : X.env.scope.names.lookup x = some .free := hk
        rw [k] at this; cases this
      · have : X.env.scope.names.lookup x = some .free := hk
        rw [k] at this; cases this
def tAugS (to ti te : TE) (tget : V → V → Hp → VK → Prop) (tip : TIp) (tset : TSet) : TS := fun D σ H => to σ H fun o H1 => ti σ H1 fun i H2 => tget o i H2 fun x H3 => te σ H3 fun y H4 => tip x y H4 fun z H5 => tset o i z H5 fun H6 => D.nx σ H6
def PGet (X : Cx) (t : V → V → Hp → VK → Prop) : Prop :=
  ∀ (pins : List (Addr × Obj)) (s : Shared) (σ : St) (H : Hp) (o i : V) (ov iv : Value) (Q : VK), Inv X pins σ H s → RelV o ov → RelV i iv → t o i H Q →
    wpAny (model X.prog X.w) X.A (getItem ov iv) (EP X pins σ Q) X.xe s
def ipI (f : Int → Int → Int) : TIp := fun x y H Q => ∃ i j, x = .int i ∧ y = .int j ∧ Q (.int (f i j)) H
theorem ip_add : PIp X .Add (ipI fun i j => i + j) := by
  intro pins s σ H x y v u Q I r1 r2 h
  obtain ⟨i, j, e1, e2, q⟩ := h
  subst e1; subst e2
  obtain ⟨t, rfl⟩ := r1
  obtain ⟨t', rfl⟩ := r2
  exact iadd_int ⟨.int _, H, I.tok _, ⟨_, rfl⟩, q⟩
end
section
variable {X : Cx} {pos : Pos}
def tWhile (c : TT) (tb : TS) : TS := fun D σ H => ∃ W : Nat → St → Hp → Prop, (∃ m, W m σ H) ∧ ∀ m σ H, W m σ H →
  c σ H fun b H1 => if b = true then ∃ N : St → Hp → Prop, (∀ σ' H', N σ' H' → ∃ m', m' < m ∧ W m' σ' H') ∧ tb { D with nx := N, ct := N, bk := D.nx } σ H1 else D.nx σ H1
theorem ps_while {c : Expr} {body : List Stmt} {tc : TT} {tb : TS} (hp : PassesOwn (model X.prog X.w) X.A X.env X.xe) (hc : PT X c tc) (hb : PSs X body tb) : PS X (.While c body [] pos) (tWhile tc tb) := by
  intro pins s σ H D I h
  obtain ⟨W, ⟨m0, w0⟩, turn⟩ := h
  refine wpAny_While (codeAny_whileLoop (fun n s' => ∃ σ' H', Inv X pins σ' H' s' ∧ W n σ' H') ?_ m0 ⟨σ, H, I, w0⟩)
  rintro n s1 ⟨σ1, H1, I1, w1⟩
  refine wpAny_passesOwn hp (thn (hc pins s1 σ1 H1 _ I1 (turn n σ1 H1 w1)) fun b s2 ⟨H2, I2, q2⟩ => ?_)
  cases b with
  | true =>
    obtain ⟨N, hN, q2⟩ := q2
    rw [if_pos rfl]
    refine wpAny_passesOwn hp (thn (hb pins s2 σ1 H2 _ I2 q2) fun f s3 q3 => ?_)
    cases f with
    | next =>
      obtain ⟨σ3, H3, I3, n3⟩ := q3
      obtain ⟨m', hm, w3⟩ := hN σ3 H3 n3
      exact ⟨m', hm, σ3, H3, I3, w3⟩
    | cont =>
      obtain ⟨σ3, H3, I3, n3⟩ := q3
      obtain ⟨m', hm, w3⟩ := hN σ3 H3 n3
      exact ⟨m', hm, σ3, H3, I3, w3⟩
    | brk => exact q3
    | ret v => exact q3
  | false =>
    rw [if_neg Bool.false_ne_true]
    exact wpAny_execs_nil ⟨σ1, H2, I2, q2⟩
end
structure It where
  go : Nat → Hp → Prop
  yld : Nat → Hp → V → Hp → Prop
  stop : Nat → Hp → Prop
def FpOk (X : Cx) (pins : List (Addr × Obj)) (H : Hp) (b : Addr) : Prop :=
  H b = none ∧ b ≠ X.env.locals ∧ b ∉ X.fs ∧ (b ∈ X.ex ∨ X.s_0.heap.objs.size ≤ b) ∧ (∀ x c, X.env.cells.lookup x = some c → c ≠ b) ∧ ∀ p ∈ X.pn ++ pins, p.1 ≠ b
theorem Inv.fpOk {X : Cx} {pins : List (Addr × Obj)} {σ : St} {H H' : Hp} {s : Shared} {b : Addr} (I : Inv X pins σ H s) (hb : s.heap.objs.size ≤ b) (hn : H' b = none) : FpOk X pins H' b := by
  refine ⟨hn, Nat.ne_of_gt (Nat.lt_of_lt_of_le I.lt hb), I.nofs hb, .inr (Nat.le_trans I.sz hb), fun x c e z => ?_, fun p hp z => ?_⟩
  · obtain ⟨v, q⟩ := I.cell x c e
    exact absurd (Nat.lt_of_lt_of_le q.lt (by rw [z]; exact hb)) (Nat.lt_irrefl _)
  · exact absurd (Nat.lt_of_lt_of_le (Heap.lt_size (I.pin p hp).1) (by rw [z]; exact hb)) (Nat.lt_irrefl _)
structure Turn (P : Program) (w : World) (K : PySem.W.Frag) (tg : Expr) (J : It) (fp : List Addr) (it : Addr) (tn : Nat → Heap → Prop) : Prop where
  mem : it ∈ fp
  obj : ∀ i h, tn i h → ∀ b ∈ fp, ∃ o, h.get? b = some o ∧ ∀ v, o.data ≠ .cell v
  keep : ∀ i h h', tn i h → (∀ b ∈ fp, ∀ o, h.get? b = some o → h'.get? b = some o) → tn i h'
  item : ∀ (X : Cx), X.prog = P → X.w = w → X.K = K → X.calm = true → ∀ (i : Nat) (pins : List (Addr × Obj)) (s : Shared) (σ : St) (H : Hp) (E : Value → Shared → Prop), Inv X pins σ H s → (∀ b ∈ fp, FpOk X pins H b) → tn i s.heap → J.go i H →
    wpAny (model P w) X.A (pyNext (.ref it)) (fun r s1 => ∃ u, r = some u ∧
      wpAny (model P w) X.A (letOwnedTupleGo tg (.ref it) u) (fun _ s2 => ∃ x H', Inv X pins σ H' s2 ∧ RelV x u ∧ J.yld i H x H' ∧ tn (i + 1) s2.heap ∧ ∀ b ∈ fp, H' b = none) E s1) E s
  done : ∀ (X : Cx), X.prog = P → X.w = w → X.K = K → X.calm = true → ∀ (i : Nat) (pins : List (Addr × Obj)) (s : Shared) (σ : St) (H : Hp) (E : Value → Shared → Prop), Inv X pins σ H s → (∀ b ∈ fp, FpOk X pins H b) → tn i s.heap → J.stop i H →
    wpAny (model P w) X.A (pyNext (.ref it)) (fun r s1 => r = none ∧ Inv X pins σ H s1) E s
  self : ∀ (A : Around) (i : Nat) (s : Shared) (Q : Value → Shared → Prop) (E : Value → Shared → Prop), tn i s.heap → Q (.ref it) s → wpAny (model P w) A (pyIter (.ref it)) Q E s
abbrev TI := St → Hp → (It → Hp → Prop) → Prop
def PIE (X : Cx) (pins : List (Addr × Obj)) (σ : St) (tg : Expr) (R : It → Hp → Prop) (itv : Value) (s2 : Shared) : Prop :=
  ∃ (it : Addr) (fp : List Addr) (tn : Nat → Heap → Prop) (J : It) (H' : Hp), itv = .ref it ∧ Inv X pins σ H' s2 ∧ Turn X.prog X.w X.K tg J fp it tn ∧ tn 0 s2.heap ∧ (∀ b ∈ fp, FpOk X pins H' b) ∧ R J H'
def PI (X : Cx) (tg iter : Expr) (wi : TI) : Prop :=
  ∀ (pins : List (Addr × Obj)) (s : Shared) (σ : St) (H : Hp) (R : It → Hp → Prop), Inv X pins σ H s → wi σ H R →
    wpAny (model X.prog X.w) X.A (eval iter X.env) (fun v s1 => wpAny (model X.prog X.w) X.A (pyIter v) (PIE X pins σ tg R) X.xe s1) X.xe s
theorem go_of {M : Model} {A : Around} {E : Value → Shared → Prop} {s : Shared} {tg : Expr} {it : Addr} {u : Value} {o : Obj} {n : String} {vs : Array Value} {Q : Unit → Shared → Prop} (ho : s.heap.get? it = some o) (hc : o.cls = .type n) (hd : o.data = .fields vs)
    (hn : ["enumerate", "zip", "dict_itemiterator", "dict_reverseitemiterator", "odict_iterator", "itertools.zip_longest", "itertools.pairwise"].contains n = false) (hQ : Q () s) : wpAny M A (letOwnedTupleGo tg (.ref it) u) Q E s := by
  unfold letOwnedTupleGo
  cases tg <;> first
    | exact wpAny_pure hQ
    | (cases u <;> first
        | exact wpAny_pure hQ
        | (refine wpAny_bind (wpAny_load ho ?_)
           rw [hc, hd]
           show wpAny M A (if (["enumerate", "zip", "dict_itemiterator", "dict_reverseitemiterator", "odict_iterator", "itertools.zip_longest", "itertools.pairwise"].contains n && vs[0]? == some (rawInt _)) = true then _ else _) Q E s
           rw [if_neg (by intro h; rw [hn, Bool.false_and] at h; cases h)]
           exact wpAny_pure hQ))
def Itl (K : PySem.W.Frag) (a : Addr) : It :=
  ⟨fun i H => ∃ xs x, SqL K H a xs ∧ xs[i]? = some x, fun i H x H' => H' = H ∧ ∀ xs, SqL K H a xs → xs[i]? = some x, fun i H => ∃ xs, SqL K H a xs ∧ xs.length ≤ i⟩
def Itt (K : PySem.W.Frag) (a : Addr) : It :=
  ⟨fun i H => ∃ xs x, SqT K H a xs ∧ xs[i]? = some x, fun i H x H' => H' = H ∧ ∀ xs, SqT K H a xs → xs[i]? = some x, fun i H => ∃ xs, SqT K H a xs ∧ xs.length ≤ i⟩
def Itr (lo : Int) (n : Nat) : It := ⟨fun i _ => i < n, fun i H x H' => H' = H ∧ x = .int (lo + i), fun i _ => n ≤ i⟩
theorem turn_list {P : Program} {w : World} {K : PySem.W.Frag} {tg : Expr} (a it : Addr) : Turn P w K tg (Itl K a) [it] it (fun i h => h.IsListIter it a i) where
  mem := by simp
  obj := fun i h st b hb => by
    have e : b = it := by simpa using hb
    subst e
    obtain ⟨o, e, c, d⟩ := st
    exact ⟨o, e, fun v z => by rw [d] at z; cases z⟩
  keep := fun i h h' st k => st.at fun o e => k it (by simp) o e
  item := by
    intro X hP hw hK hc i pins s σ H E I hf st hg
    subst hP hw hK
    obtain ⟨xs, x, hq, hx⟩ := hg
    obtain ⟨its, rv, p, hz⟩ := I.list hq
    obtain ⟨u, hu, ru⟩ := rv.get hx
    obtain ⟨f0, f1, f2, f3, f4, f5⟩ := hf it (by simp)
    refine wpAny_pyNext_list_item st p.isList (x := u) (by simpa using hu) fun h' st' sb => ?_
    have I1 : Inv X pins σ H { s with heap := h' } := I.turned (t' := s.toks) (fun b o hb e => (sb.2 b hb).trans e) f0 f1 f3 f4 f5
    obtain ⟨o, e, c, d⟩ := id st'
    exact ⟨u, rfl, go_of (s := { s with heap := h' }) e c d (by decide) ⟨x, H, I1, ru, ⟨rfl, fun ys hy => by rw [I.list_inj hy hq]; exact hx⟩, st', fun b hb => (hf b hb).1⟩⟩
  done := by
    intro X hP hw hK hc i pins s σ H E I hf st hg
    subst hP hw hK
    obtain ⟨xs, hq, hx⟩ := hg
    obtain ⟨its, rv, p, hz⟩ := I.list hq
    obtain ⟨f0, f1, f2, f3, f4, f5⟩ := hf it (by simp)
    have hl := rv.length
    exact wpAny_pyNext_list_end (I.ok.hd hc) st p.isList (by simp; omega) fun h' eb => ⟨rfl, I.turned (t' := s.toks) (fun b o hb e => eb b o hb e) f0 f1 f3 f4 f5⟩
  self := fun _ _ _ _ _ st h => wpAny_pyIter_listiter st h
theorem turn_tuple {P : Program} {w : World} {K : PySem.W.Frag} {tg : Expr} (a it : Addr) : Turn P w K tg (Itt K a) [it] it (fun i h => h.IsTupleIter it a i) where
  mem := by simp
  obj := fun i h st b hb => by
    have e : b = it := by simpa using hb
    subst e
    obtain ⟨o, e, c, d⟩ := st
    exact ⟨o, e, fun v z => by rw [d] at z; cases z⟩
  keep := fun i h h' st k => st.at fun o e => k it (by simp) o e
  item := by
    intro X hP hw hK hc i pins s σ H E I hf st hg
    subst hP hw hK
    obtain ⟨xs, x, hq, hx⟩ := hg
    obtain ⟨its, rv, p, hz⟩ := I.tuple hq
    obtain ⟨u, hu, ru⟩ := rv.get hx
    obtain ⟨f0, f1, f2, f3, f4, f5⟩ := hf it (by simp)
    refine wpAny_pyNext_tuple_item st (show s.heap.IsTuple a its.toArray from p) (x := u) (by simpa using hu) fun h' st' sb => ?_
    have I1 : Inv X pins σ H { s with heap := h' } := I.turned (t' := s.toks) (fun b o hb e => (sb.2 b hb).trans e) f0 f1 f3 f4 f5
    obtain ⟨o, e, c, d⟩ := id st'
    exact ⟨u, rfl, go_of (s := { s with heap := h' }) e c d (by decide) ⟨x, H, I1, ru, ⟨rfl, fun ys hy => by rw [I.tuple_inj hy hq]; exact hx⟩, st', fun b hb => (hf b hb).1⟩⟩
  done := by
    intro X hP hw hK hc i pins s σ H E I hf st hg
    subst hP hw hK
    obtain ⟨xs, hq, hx⟩ := hg
    obtain ⟨its, rv, p, hz⟩ := I.tuple hq
    obtain ⟨f0, f1, f2, f3, f4, f5⟩ := hf it (by simp)
    have hl := rv.length
    exact wpAny_pyNext_tuple_end (I.ok.hd hc) st (show s.heap.IsTuple a its.toArray from p) (by simp; omega) fun h' eb => ⟨rfl, I.turned (t' := s.toks) (fun b o hb e => eb b o hb e) f0 f1 f3 f4 f5⟩
  self := fun _ _ _ _ _ st h => wpAny_pyIter_tupleiter st h
theorem turn_range {P : Program} {w : World} {K : PySem.W.Frag} {tg : Expr} (it : Addr) (lo : Int) (n : Nat) : Turn P w K tg (Itr lo n) [it] it (fun i h => IsRangeIter h it (lo + (i : Nat) * 1) ((n : Int) - (i : Nat)) 1) where
  mem := by simp
  obj := fun i h st b hb => by
    have e : b = it := by simpa using hb
    subst e
    exact ⟨_, st, fun v z => by
      have z' : Data.fields _ = Data.cell v := z
      cases z'⟩
  keep := fun i h h' st k => k it (by simp) _ st
  item := by
    intro X hP hw hK hc i pins s σ H E I hf st hg
    subst hP hw hK
    obtain ⟨f0, f1, f2, f3, f4, f5⟩ := hf it (by simp)
    have W := Walks.range (prog := X.prog) (w := X.w) (I.ok.hd hc) it lo 1 n
    refine W.item i s _ _ hg st fun v h' tk hv st' kk => ?_
    obtain ⟨t, rfl⟩ := hv
    have I1 : Inv X pins σ H { s with heap := h', toks := tk } := I.turned (fun b o hb e => kk b o (by simpa using hb) e) f0 f1 f3 f4 f5
    refine ⟨_, rfl, go_of (s := { s with heap := h', toks := tk }) (n := "range_iterator") st' rfl rfl (by decide) ⟨.int (lo + i), H, I1, ⟨t, ?_⟩, ⟨rfl, rfl⟩, st', fun b hb => (hf b hb).1⟩⟩
    rw [Int.mul_one]
  done := by
    intro X hP hw hK hc i pins s σ H E I hf st hg
    subst hP hw hK
    obtain ⟨f0, f1, f2, f3, f4, f5⟩ := hf it (by simp)
    exact wpAny_pyNext_range_end (I.ok.hd hc) st (by have : n ≤ i := hg; omega) fun h' eb => ⟨rfl, I.turned (t' := s.toks) (fun b o hb e => eb b o hb e) f0 f1 f3 f4 f5⟩
  self := fun _ _ _ _ _ st h => wpAny_pyIter_rangeiter st h
end L2
namespace L2
open PySem PySem.Spec PyProof.Rows
section
variable {X : Cx} {tg : Expr}
def iList (K : PySem.W.Frag) (tl : TE) : TI := fun σ H R => tl σ H fun x H1 => ∃ a, x = .ref a ∧ (∃ xs, SqL K H1 a xs) ∧ R (Itl K a) H1
def iTup (K : PySem.W.Frag) (tl : TE) : TI := fun σ H R => tl σ H fun x H1 => ∃ a, x = .ref a ∧ (∃ xs, SqT K H1 a xs) ∧ R (Itt K a) H1
theorem pi_list {l : Expr} {tl : TE} (hl : PE X l tl) : PI X tg l (iList X.K tl) := by
  intro pins s σ H R I h
  refine thn (hl pins s σ H _ I h) fun v s1 ⟨x, H1, I1, r1, q1⟩ => ?_
  obtain ⟨a, e, ⟨xs, hq⟩, q⟩ := q1
  subst e
  cases r1
  obtain ⟨its, rv, p, hz⟩ := I1.list hq
  refine wpAny_pyIter_list p.isList ?_
  refine ⟨s1.heap.objs.size, [s1.heap.objs.size], _, _, H1, rfl, I1.kept (t' := s1.toks) fun b o e => Heap.get?_push_of_some _ e, turn_list a _, ⟨_, Heap.get?_push_size _ rfl, rfl, rfl⟩, fun b hb => ?_, q⟩
  have e : b = s1.heap.objs.size := by simpa using hb
  subst e
  exact I1.fpOk (Nat.le_refl _) (I1.hok.fresh (Nat.le_refl _))
theorem pi_tup {l : Expr} {tl : TE} (hl : PE X l tl) : PI X tg l (iTup X.K tl) := by
  intro pins s σ H R I h
  refine thn (hl pins s σ H _ I h) fun v s1 ⟨x, H1, I1, r1, q1⟩ => ?_
  obtain ⟨a, e, ⟨xs, hq⟩, q⟩ := q1
  subst e
  cases r1
  obtain ⟨its, rv, p, hz⟩ := I1.tuple hq
  refine wpAny_pyIter_tuple (show s1.heap.IsTuple a its.toArray from p) ?_
  refine ⟨s1.heap.objs.size, [s1.heap.objs.size], _, _, H1, rfl, I1.kept (t' := s1.toks) fun b o e => Heap.get?_push_of_some _ e, turn_tuple a _, ⟨_, Heap.get?_push_size _ rfl, rfl, rfl⟩, fun b hb => ?_, q⟩
  have e : b = s1.heap.objs.size := by simpa using hb
  subst e
  exact I1.fpOk (Nat.le_refl _) (I1.hok.fresh (Nat.le_refl _))
theorem range_it {pins : List (Addr × Obj)} {σ : St} {H : Hp} {s : Shared} {R : It → Hp → Prop} {E : Value → Shared → Prop} {lo hi : Int} {t u v : Tok} {tk : Nat} (I : Inv X pins σ H s) (h1 : -(2 ^ 62) ≤ lo) (h2 : lo < 2 ^ 62) (h3 : -(2 ^ 62) ≤ hi) (h4 : hi < 2 ^ 62)
    (q : R (Itr lo (hi - lo).toNat) H) : wpAny (model X.prog X.w) X.A (pyIter (.ref s.heap.objs.size)) (PIE X pins σ tg R) E { s with heap := s.heap.push { cls := .type "range", data := .fields #[.int lo t, .int hi u, .int 1 v] }, toks := tk } := by
  refine wpAny_pyIter_range (IsRange.new ..) (small_one h1 h2 h3 h4) ?_
  have I1 : Inv X pins σ H { s with heap := s.heap.push { cls := .type "range", data := .fields #[.int lo t, .int hi u, .int 1 v] }, toks := tk } := I.kept fun b o e => Heap.get?_push_of_some _ e
  refine ⟨(s.heap.push { cls := .type "range", data := .fields #[.int lo t, .int hi u, .int 1 v] }).objs.size, [(s.heap.push { cls := .type "range", data := .fields #[.int lo t, .int hi u, .int 1 v] }).objs.size], _, _, H, rfl,
    I1.kept (t' := tk) fun b o e => Heap.get?_push_of_some _ e, turn_range _ lo (hi - lo).toNat, ?_, fun b hb => ?_, q⟩
  · have e1 : lo + ((0 : Nat) : Int) * 1 = lo := by simp
    have e2 : (((hi - lo).toNat : Nat) : Int) - ((0 : Nat) : Int) = Builtin.Range.rangeSize lo hi 1 := by rw [rangeSize_one]; split <;> omega
    show IsRangeIter _ _ (lo + ((0 : Nat) : Int) * 1) ((((hi - lo).toNat : Nat) : Int) - ((0 : Nat) : Int)) 1
    rw [e1, e2]
    exact Heap.get?_push_size _ rfl
  · have e : b = (s.heap.push { cls := .type "range", data := .fields #[.int lo t, .int hi u, .int 1 v] }).objs.size := by simpa using hb
    subst e
    exact I1.fpOk (Nat.le_refl _) (I1.hok.fresh (Nat.le_refl _))
def iRng1 (ta : TA) : TI := fun σ H R => ta σ H fun vs H1 => ∃ j : Int, vs = [.int j] ∧ -(2 ^ 62) ≤ j ∧ j < 2 ^ 62 ∧ R (Itr 0 j.toNat) H1
def iRng2 (ta : TA) : TI := fun σ H R => ta σ H fun vs H1 => ∃ i j : Int, vs = [.int i, .int j] ∧ (-(2 ^ 62) ≤ i ∧ i < 2 ^ 62 ∧ -(2 ^ 62) ≤ j ∧ j < 2 ^ 62) ∧ R (Itr i (j - i).toNat) H1
theorem pi_range1 {a : Expr} {ta : TA} {p pos : Pos} (hg : Gl X "range") (hm : X.mg "range" = none) (ha : PA X [a] ta) (hs : starEach [a] X.env = [(false, eval a X.env)] := by rfl) : PI X tg (.Call (.Name "range" p) [a] [] pos) (iRng1 ta) := by
  intro pins s σ H R I h
  refine Call_ (ld_blt I hg hm boot_range (PyProof.Rows.callWith_type1 (thn (ha pos pins s σ H _ I h) fun us s1 ⟨vs, H1, I1, r1, q1⟩ => ?_) hs rfl))
  obtain ⟨j, e, q1, q2, q⟩ := q1
  subst e
  cases r1 with
  | cons r rr =>
    cases rr
    obtain ⟨t, rfl⟩ := r
    exact call_range_1 (range_it I1 (by omega) (by omega) q1 q2 (by simpa using q))
def tFor (wi : TI) (g : TG) (tb : TS) : TS := fun D σ H => wi σ H fun J H1 => ∃ W : Nat → Nat → St → Hp → Prop, (∃ m, W 0 m σ H1) ∧ ∀ i m σ H, W i m σ H →
  (J.stop i H ∧ D.nx σ H) ∨ (J.go i H ∧ ∃ N : St → Hp → Prop, (∀ σ' H', N σ' H' → ∃ m', m' < m ∧ W (i + 1) m' σ' H') ∧ ∀ x H', J.yld i H x H' → g x σ H' fun σ2 H2 => tb { D with nx := N, ct := N, bk := D.nx } σ2 H2)
def pinsAt (fp : List Addr) (h : Heap) : List (Addr × Obj) := fp.filterMap fun b => (h.get? b).map fun o => (b, o)
theorem mem_pinsAt {fp : List Addr} {h : Heap} {b : Addr} {o : Obj} (hb : b ∈ fp) (e : h.get? b = some o) : (b, o) ∈ pinsAt fp h := List.mem_filterMap.mpr ⟨b, hb, by rw [e]; rfl⟩
theorem of_pinsAt {fp : List Addr} {h : Heap} {p : Addr × Obj} (hp : p ∈ pinsAt fp h) : p.1 ∈ fp ∧ h.get? p.1 = some p.2 := by
  obtain ⟨b, hb, e⟩ := List.mem_filterMap.mp hp
  cases q : h.get? b with
  | none => rw [q] at e; cases e
  | some o =>
    rw [q] at e
    have e' : (b, o) = p := Option.some.inj e
    subst e'
    exact ⟨hb, q⟩
theorem Inv.pinned {pins : List (Addr × Obj)} {σ : St} {H : Hp} {s : Shared} {fp : List Addr} (I : Inv X pins σ H s) (hf : ∀ b ∈ fp, FpOk X pins H b) (ho : ∀ b ∈ fp, ∃ o, s.heap.get? b = some o ∧ ∀ v, o.data ≠ .cell v) : Inv X (pins ++ pinsAt fp s.heap) σ H s :=
  I.pins_of fun p hp => (List.mem_append.mp hp).elim (fun z => I.pin p (List.mem_append_right _ z)) fun z => by
    obtain ⟨hb, e⟩ := of_pinsAt z
    obtain ⟨f0, f1, f2, _⟩ := hf p.1 hb
    obtain ⟨o, e', d⟩ := ho p.1 hb
    rw [e] at e'; cases e'
    exact ⟨e, f0, f1, f2, d⟩
theorem Inv.unpinned {pins pl : List (Addr × Obj)} {σ : St} {H : Hp} {s : Shared} (I : Inv X (pins ++ pl) σ H s) : Inv X pins σ H s := I.pins_of fun p hp => I.pin p (List.mem_append_right _ (List.mem_append_left _ hp))
theorem ps_for {iter : Expr} {body : List Stmt} {wi : TI} {g : TG} {tb : TS} {pos : Pos} (hp : PassesOwn (model X.prog X.w) X.A X.env X.xe) (hc : X.calm = true) (hi : PI X tg iter wi) (hg : PG X tg g) (hb : PSs X body tb)
    (hs : ∀ x, foldedSetIterable iter X.env x = pure x := by intro _; rfl) : PS X (.For tg iter body [] pos) (tFor wi g tb) := by
  intro pins s σ H D I h
  refine wpAny_For (thn (hi pins s σ H _ I h) fun v s1 h1 => thn h1 fun itv s2 h2 => ?_) hs
  obtain ⟨it, fp, tn, J, H2, e, I2, T, st2, f2, W, ⟨m0, w0⟩, turn⟩ := h2
  subst e
  -- what stays true of the iterator's objects through the loop
  have stat : ∀ {H' : Hp}, (∀ b ∈ fp, H' b = none) → ∀ b ∈ fp, FpOk X pins H' b := fun hn b hb => ⟨hn b hb, (f2 b hb).2⟩
  refine codeAny_forLoop_any (fun n s' => ∃ i σ' H', Inv X pins σ' H' s' ∧ tn i s'.heap ∧ (∀ b ∈ fp, H' b = none) ∧ W i n σ' H') ?_ m0 ⟨0, σ, H2, I2, st2, fun b hb => (f2 b hb).1, w0⟩
  rintro n s3 ⟨i, σ3, H3, I3, st3, fr3, w3⟩
  rcases turn i n σ3 H3 w3 with ⟨stop, qn⟩ | ⟨go, N, hN, step⟩
  · refine wpAny_passesOwn hp (thn (T.done X rfl rfl rfl hc i pins s3 σ3 H3 X.xe I3 (stat fr3) st3 stop) fun r s4 ⟨hr, I4⟩ => ?_)
    subst hr
    exact wpAny_execs_nil ⟨σ3, H3, I4, qn⟩
  · refine wpAny_passesOwn hp (thn (T.item X rfl rfl rfl hc i pins s3 σ3 H3 X.xe I3 (stat fr3) st3 go) fun r s4 ⟨u, hr, h4⟩ => ?_)
    subst hr
    refine wpAny_passesOwn hp (thn h4 fun _ s5 ⟨x, H5, I5, r5, y5, st5, fr5⟩ => ?_)
    have I5' := I5.pinned (stat fr5) (T.obj _ _ st5)
    refine wpAny_passesOwn hp (thn (hg _ s5 σ3 H5 x u _ I5' r5 (step x H5 y5)) fun _ s6 ⟨σ6, H6, I6, q6⟩ => ?_)
    refine wpAny_passesOwn hp (thn (hb _ s6 σ6 H6 _ I6 q6) fun f s7 q7 => ?_)
    have again : ∀ {σ7 : St} {H7 : Hp}, Inv X (pins ++ pinsAt fp s5.heap) σ7 H7 s7 → N σ7 H7 → ∃ m, m < n ∧ ∃ i σ' H', Inv X pins σ' H' s7 ∧ tn i s7.heap ∧ (∀ b ∈ fp, H' b = none) ∧ W i m σ' H' := fun {σ7 H7} I7 n7 => by
      obtain ⟨m', hm, w7⟩ := hN σ7 H7 n7
      refine ⟨m', hm, i + 1, σ7, H7, I7.unpinned, T.keep _ _ _ st5 fun b hb o e => (I7.pin (b, o) (List.mem_append_right _ (List.mem_append_right _ (mem_pinsAt hb e)))).1, fun b hb => ?_, w7⟩
      obtain ⟨o, e, d⟩ := T.obj _ _ st5 b hb
      exact (I7.pin (b, o) (List.mem_append_right _ (List.mem_append_right _ (mem_pinsAt hb e)))).2.1
    cases f with
    | next => obtain ⟨σ7, H7, I7, n7⟩ := q7; exact again I7 n7
    | cont => obtain ⟨σ7, H7, I7, n7⟩ := q7; exact again I7 n7
    | brk => obtain ⟨σ7, H7, I7, q7⟩ := q7; exact ⟨σ7, H7, I7.unpinned, q7⟩
    | ret v => obtain ⟨x7, σ7, H7, I7, r7, q7⟩ := q7; exact ⟨x7, σ7, H7, I7.unpinned, r7, q7⟩
end
theorem for_list {K : PySem.W.Frag} {a : Addr} {xs : List V} {g : TG} {tb : TS} {D : Ends} {σ : St} {H : Hp} (Pv : Nat → St → Hp → Prop) (h0 : Pv 0 σ H) (hl : ∀ i σ H, i ≤ xs.length → Pv i σ H → SqL K H a xs)
    (hs : ∀ i x σ H, xs[i]? = some x → Pv i σ H → g x σ H fun σ2 H2 => tb { D with nx := Pv (i + 1), ct := Pv (i + 1), bk := D.nx } σ2 H2) (hd : ∀ σ H, Pv xs.length σ H → D.nx σ H) :
    ∃ W : Nat → Nat → St → Hp → Prop, (∃ m, W 0 m σ H) ∧ ∀ i m σ H, W i m σ H →
      ((Itl K a).stop i H ∧ D.nx σ H) ∨ ((Itl K a).go i H ∧ ∃ N : St → Hp → Prop, (∀ σ' H', N σ' H' → ∃ m', m' < m ∧ W (i + 1) m' σ' H') ∧ ∀ x H', (Itl K a).yld i H x H' → g x σ H' fun σ2 H2 => tb { D with nx := N, ct := N, bk := D.nx } σ2 H2) := by
  refine ⟨fun i m σ H => m = xs.length - i ∧ i ≤ xs.length ∧ Pv i σ H, ⟨xs.length, by simp, Nat.zero_le _, h0⟩, ?_⟩
  rintro i m σ H ⟨rfl, hi, p⟩
  have q := hl i σ H hi p
  by_cases hlt : i < xs.length
  · refine .inr ⟨⟨xs, xs[i], q, by simp [hlt]⟩, Pv (i + 1), fun σ' H' p' => ⟨xs.length - (i + 1), by omega, rfl, hlt, p'⟩, fun x H' y => ?_⟩
    obtain ⟨e, y⟩ := y
    subst e
    exact hs i x σ _ (y xs q) p
  · have e : i = xs.length := by omega
    subst e
    exact .inl ⟨⟨xs, q, Nat.le_refl _⟩, hd σ H p⟩
theorem for_tup {K : PySem.W.Frag} {a : Addr} {xs : List V} {g : TG} {tb : TS} {D : Ends} {σ : St} {H : Hp} (Pv : Nat → St → Hp → Prop) (h0 : Pv 0 σ H) (hl : ∀ i σ H, i ≤ xs.length → Pv i σ H → SqT K H a xs)
    (hs : ∀ i x σ H, xs[i]? = some x → Pv i σ H → g x σ H fun σ2 H2 => tb { D with nx := Pv (i + 1), ct := Pv (i + 1), bk := D.nx } σ2 H2) (hd : ∀ σ H, Pv xs.length σ H → D.nx σ H) :
    ∃ W : Nat → Nat → St → Hp → Prop, (∃ m, W 0 m σ H) ∧ ∀ i m σ H, W i m σ H →
      ((Itt K a).stop i H ∧ D.nx σ H) ∨ ((Itt K a).go i H ∧ ∃ N : St → Hp → Prop, (∀ σ' H', N σ' H' → ∃ m', m' < m ∧ W (i + 1) m' σ' H') ∧ ∀ x H', (Itt K a).yld i H x H' → g x σ H' fun σ2 H2 => tb { D with nx := N, ct := N, bk := D.nx } σ2 H2) := by
  refine ⟨fun i m σ H => m = xs.length - i ∧ i ≤ xs.length ∧ Pv i σ H, ⟨xs.length, by simp, Nat.zero_le _, h0⟩, ?_⟩
  rintro i m σ H ⟨rfl, hi, p⟩
  have q := hl i σ H hi p
  by_cases hlt : i < xs.length
  · refine .inr ⟨⟨xs, xs[i], q, by simp [hlt]⟩, Pv (i + 1), fun σ' H' p' => ⟨xs.length - (i + 1), by omega, rfl, hlt, p'⟩, fun x H' y => ?_⟩
    obtain ⟨e, y⟩ := y
    subst e
    exact hs i x σ _ (y xs q) p
  · have e : i = xs.length := by omega
    subst e
    exact .inl ⟨⟨xs, q, Nat.le_refl _⟩, hd σ H p⟩
theorem for_range {lo : Int} {n : Nat} {g : TG} {tb : TS} {D : Ends} {σ : St} {H : Hp} (Pv : Nat → St → Hp → Prop) (h0 : Pv 0 σ H)
    (hs : ∀ i σ H, i < n → Pv i σ H → g (.int (lo + i)) σ H fun σ2 H2 => tb { D with nx := Pv (i + 1), ct := Pv (i + 1), bk := D.nx } σ2 H2) (hd : ∀ σ H, Pv n σ H → D.nx σ H) :
    ∃ W : Nat → Nat → St → Hp → Prop, (∃ m, W 0 m σ H) ∧ ∀ i m σ H, W i m σ H →
      ((Itr lo n).stop i H ∧ D.nx σ H) ∨ ((Itr lo n).go i H ∧ ∃ N : St → Hp → Prop, (∀ σ' H', N σ' H' → ∃ m', m' < m ∧ W (i + 1) m' σ' H') ∧ ∀ x H', (Itr lo n).yld i H x H' → g x σ H' fun σ2 H2 => tb { D with nx := N, ct := N, bk := D.nx } σ2 H2) := by
  refine ⟨fun i m σ H => m = n - i ∧ i ≤ n ∧ Pv i σ H, ⟨n, by simp, Nat.zero_le _, h0⟩, ?_⟩
  rintro i m σ H ⟨rfl, hi, p⟩
  by_cases hlt : i < n
  · refine .inr ⟨hlt, Pv (i + 1), fun σ' H' p' => ⟨n - (i + 1), by omega, rfl, hlt, p'⟩, fun x H' y => ?_⟩
    obtain ⟨e, y⟩ := y
    subst e y
    exact hs i σ _ hlt p
  · have e : i = n := by omega
    subst e
    exact .inl ⟨Nat.le_refl _, hd σ H p⟩
theorem while_by {c : TT} {tb : TS} {D : Ends} {σ : St} {H : Hp} (Pv : St → Hp → Prop) (μ : St → Hp → Nat) (h0 : Pv σ H)
    (hs : ∀ σ H, Pv σ H → c σ H fun b H1 => if b = true then tb { D with nx := fun σ' H' => Pv σ' H' ∧ μ σ' H' < μ σ H, ct := fun σ' H' => Pv σ' H' ∧ μ σ' H' < μ σ H, bk := D.nx } σ H1 else D.nx σ H1)
    (mono : ∀ σ H Q Q', (∀ b H1, Q b H1 → Q' b H1) → c σ H Q → c σ H Q') : tWhile c tb D σ H := by
  refine ⟨fun m σ H => m = μ σ H ∧ Pv σ H, ⟨_, rfl, h0⟩, ?_⟩
  rintro m σ H ⟨rfl, p⟩
  refine mono σ H _ _ (fun b H1 q => ?_) (hs σ H p)
  cases b with
  | true => exact ⟨_, fun σ' H' ⟨p', l⟩ => ⟨_, l, rfl, p'⟩, q⟩
  | false => exact q
end L2
namespace L2
open PySem PySem.Spec PyProof.Rows
abbrev R2 := V → V → Hp → VK → Prop
def OpR (X : Cx) (f : Value → Value → Sem Value) (r : R2) : Prop :=
  ∀ (pins : List (Addr × Obj)) (s : Shared) (σ : St) (H : Hp) (x y : V) (v u : Value) (Q : VK), Inv X pins σ H s → RelV x v → RelV y u → r x y H Q →
    wpAny (model X.prog X.w) X.A (f v u) (EP X pins σ Q) X.xe s
def UnR (X : Cx) (f : Value → Sem Value) (r : V → Hp → VK → Prop) : Prop :=
  ∀ (pins : List (Addr × Obj)) (s : Shared) (σ : St) (H : Hp) (x : V) (v : Value) (Q : VK), Inv X pins σ H s → RelV x v → r x H Q →
    wpAny (model X.prog X.w) X.A (f v) (EP X pins σ Q) X.xe s
def CallR (X : Cx) (f : Value) (r : List V → Hp → VK → Prop) : Prop :=
  ∀ (pins : List (Addr × Obj)) (s : Shared) (σ : St) (H : Hp) (xs : List V) (us : List Value) (Q : VK), Inv X pins σ H s → Vals xs us → r xs H Q →
    wpAny (model X.prog X.w) X.A (call f us) (EP X pins σ Q) X.xe s
def TruR (X : Cx) (r : V → Hp → (Bool → Hp → Prop) → Prop) : Prop :=
  ∀ (pins : List (Addr × Obj)) (s : Shared) (σ : St) (H : Hp) (x : V) (v : Value) (Q : Bool → Hp → Prop), Inv X pins σ H s → RelV x v → r x H Q →
    wpAny (model X.prog X.w) X.A (truthy v) (TP X pins σ Q) X.xe s
def tOp (r : R2) (ta tb : TE) : TE := fun σ H Q => ta σ H fun x H1 => tb σ H1 fun y H2 => r x y H2 Q
def tUn (r : V → Hp → VK → Prop) (ta : TE) : TE := fun σ H Q => ta σ H fun x H1 => r x H1 Q
def rI (C : Int → Int → Prop) (g : Int → Int → V) : R2 := fun x y H Q => ∃ i j, x = .int i ∧ y = .int j ∧ C i j ∧ Q (g i j) H
def rI0 (g : Int → Int → V) : R2 := fun x y H Q => ∃ i j, x = .int i ∧ y = .int j ∧ Q (g i j) H
def rU (g : Int → V) : V → Hp → VK → Prop := fun x H Q => ∃ i, x = .int i ∧ Q (g i) H
section
variable {X : Cx} {a b c : Expr} {ta tb tc : TE} {pos : Pos}
theorem binT (ha : PE X a ta) (hb : PE X b tb) {pins : List (Addr × Obj)} {s : Shared} {σ : St} {H : Hp} {R : V → V → Hp → Prop} (I : Inv X pins σ H s)
    (h : ta σ H fun x H1 => tb σ H1 fun y H2 => R x y H2) {Q : Value → Shared → Prop} {f : Value → Value → Sem Value}
    (hf : ∀ v u s2 x y H2, Inv X pins σ H2 s2 → RelV x v → RelV y u → R x y H2 → wpAny (model X.prog X.w) X.A (f v u) Q X.xe s2) :
    wpAny (model X.prog X.w) X.A (eval a X.env) (fun v s₁ => wpAny (model X.prog X.w) X.A (eval b X.env) (fun u s₂ => wpAny (model X.prog X.w) X.A (f v u) Q X.xe s₂) X.xe s₁) X.xe s := by
  refine thn (ha pins s σ H _ I h) fun v s1 ⟨x, H1, I1, r1, q1⟩ => ?_
  refine thn (hb pins s1 σ H1 _ I1 q1) fun u s2 ⟨y, H2, I2, r2, q2⟩ => ?_
  exact hf v u s2 x y H2 I2 r1 r2 q2
theorem pe_op {op : Operator} {r : R2} (ho : OpR X (binaryOp op) r) (ha : PE X a ta) (hb : PE X b tb) : PE X (.BinOp a op b pos) (tOp r ta tb) := by
  intro pins s σ H Q I h
  exact wpAny_BinOp (binT ha hb I h fun v u s2 x y H2 I2 rx ry q => ho pins s2 σ H2 x y v u Q I2 rx ry q)
theorem pe_un {op : UnaryOp} {r : V → Hp → VK → Prop} (ho : UnR X (unaryOp op) r) (ha : PE X a ta) : PE X (.UnaryOp op a pos) (tUn r ta) := by
  intro pins s σ H Q I h
  exact UnaryOp_ (thn (ha pins s σ H _ I h) fun v s1 ⟨x, H1, I1, r1, q1⟩ => ho pins s1 σ H1 x v Q I1 r1 q1)
theorem opI {f : Value → Value → Sem Value} {C : Int → Int → Prop} {g : Int → Int → Int}
    (rule : ∀ (i j : Int) (t u : Tok) (s : Shared) (Q : Value → Shared → Prop) (E : Value → Shared → Prop), C i j → Q (.int (g i j) s.toks) { s with toks := s.toks + 1 } → wpAny (model X.prog X.w) X.A (f (.int i t) (.int j u)) Q E s) :
    OpR X f (rI C fun i j => .int (g i j)) := by
  intro pins s σ H x y v u Q I rx ry h
  obtain ⟨i, j, rfl, rfl, hc, q⟩ := h
  obtain ⟨t, rfl⟩ := rx
  obtain ⟨t', rfl⟩ := ry
  exact rule i j t t' s _ _ hc ⟨.int (g i j), H, I.tok _, ⟨_, rfl⟩, q⟩
theorem opI0 {f : Value → Value → Sem Value} {g : Int → Int → Int}
    (rule : ∀ (i j : Int) (t u : Tok) (s : Shared) (Q : Value → Shared → Prop) (E : Value → Shared → Prop), Q (.int (g i j) s.toks) { s with toks := s.toks + 1 } → wpAny (model X.prog X.w) X.A (f (.int i t) (.int j u)) Q E s) :
    OpR X f (rI0 fun i j => .int (g i j)) := by
  intro pins s σ H x y v u Q I rx ry h
  obtain ⟨i, j, rfl, rfl, q⟩ := h
  obtain ⟨t, rfl⟩ := rx
  obtain ⟨t', rfl⟩ := ry
  exact rule i j t t' s _ _ ⟨.int (g i j), H, I.tok _, ⟨_, rfl⟩, q⟩
theorem opB0 {f : Value → Value → Sem Value} {g : Int → Int → Bool}
    (rule : ∀ (i j : Int) (t u : Tok) (s : Shared) (Q : Value → Shared → Prop) (E : Value → Shared → Prop), Q (.bool (g i j)) s → wpAny (model X.prog X.w) X.A (f (.int i t) (.int j u)) Q E s) :
    OpR X f (rI0 fun i j => .bl (g i j)) := by
  intro pins s σ H x y v u Q I rx ry h
  obtain ⟨i, j, rfl, rfl, q⟩ := h
  obtain ⟨t, rfl⟩ := rx
  obtain ⟨t', rfl⟩ := ry
  exact rule i j t t' s _ _ ⟨.bl (g i j), H, I, rfl, q⟩
def CDiv (i j : Int) : Prop := 0 < j ∧ j < 1073741824
def CDivN (i j : Int) : Prop := j ≠ 0 ∧ j.natAbs < 1073741824
def CPow (i j : Int) : Prop := 0 ≤ j ∧ j ≤ 1000000 ∧ i.natAbs < 2 ^ 64
def CMul (i j : Int) : Prop := (-(2 ^ 64) < i ∧ i < 2 ^ 64) ∨ (-(2 ^ 64) < j ∧ j < 2 ^ 64)
theorem CMul.ok {i j : Int} (h : CMul i j) : IntMulOk i j := by
  rcases h with ⟨h1, h2⟩ | ⟨h1, h2⟩
  · exact .of_left (intBits_le_64 h1 h2)
  · exact .of_right (intBits_le_64 h1 h2)
theorem two_pow_nn (k : Nat) : (0 : Int) ≤ 2 ^ k := by
  rw [two_pow_cast]
  exact Int.natCast_nonneg _
theorem op_add : OpR X (binaryOp .Add) (rI0 fun i j => .int (i + j)) := opI0 fun _ _ _ _ _ _ _ q => add_int q
theorem op_sub : OpR X (binaryOp .Sub) (rI0 fun i j => .int (i - j)) := opI0 fun _ _ _ _ _ _ _ q => sub_int q
theorem op_mul : OpR X (binaryOp .Mult) (rI CMul fun i j => .int (i * j)) := opI fun _ _ _ _ _ _ _ hc q => mul_int q hc.ok
theorem op_mod : OpR X (binaryOp .Mod) (rI (fun _ j => 0 < j) fun i j => .int (i % j)) := opI fun i j _ _ _ _ _ hc q => by
  have h1 : (0 : Int) < j := hc
  exact mod_int' (by omega) (by rw [Int.fmod_eq_emod_of_nonneg i (by omega)]; exact q)
theorem op_shr : OpR X (binaryOp .RShift) (rI (fun _ j => 0 ≤ j) fun i j => .int (i / 2 ^ j.toNat)) := opI fun i j _ _ _ _ _ hc q =>
  rshift_int hc (by rw [Int.fdiv_eq_ediv_of_nonneg i (two_pow_nn _)]; exact q)
theorem op_and : OpR X (binaryOp .BitAnd) (rI0 fun i j => .int (Builtin.bitAnd i j)) := opI0 fun _ _ _ _ _ _ _ q => and_int q
theorem iop_mul : OpR X (inplaceOp .Mult) (rI CMul fun i j => .int (i * j)) := opI fun _ _ _ _ _ _ _ hc q => imul_int q hc.ok
theorem unI {f : Value → Sem Value} {g : Int → Int}
    (rule : ∀ (i : Int) (t : Tok) (s : Shared) (Q : Value → Shared → Prop) (E : Value → Shared → Prop), Q (.int (g i) s.toks) { s with toks := s.toks + 1 } → wpAny (model X.prog X.w) X.A (f (.int i t)) Q E s) :
    UnR X f (rU fun i => .int (g i)) := by
  intro pins s σ H x v Q I rx h
  obtain ⟨i, rfl, q⟩ := h
  obtain ⟨t, rfl⟩ := rx
  exact rule i t s _ _ ⟨.int (g i), H, I.tok _, ⟨_, rfl⟩, q⟩
theorem un_neg : UnR X (unaryOp .USub) (rU fun i => .int (-i)) := unI fun _ _ _ _ _ q => neg_int q
end
def scal : V → V → Bool
  | .non, .non => true | .non, .int _ => true | .int _, .non => true | .non, .bl _ => true | .bl _, .non => true | .non, .str _ => true | .str _, .non => true
  | .int _, .int _ => true | .bl _, .bl _ => true | .str _, .str _ => true | .byt _, .byt _ => true
  | .int _, .str _ => true | .str _, .int _ => true | .bl _, .str _ => true | .str _, .bl _ => true
  | _, _ => false
def rEq : R2 := fun x y H Q => scal x y = true ∧ Q (.bl (decide (x = y))) H
def rNe : R2 := fun x y H Q => scal x y = true ∧ Q (.bl (!decide (x = y))) H
theorem dec_int {i j : Int} : decide (V.int i = V.int j) = (i == j) := by
  rw [Bool.eq_iff_iff]
  simp
theorem dec_bl {i j : Bool} : decide (V.bl i = V.bl j) = (i == j) := by
  rw [Bool.eq_iff_iff]
  simp
theorem dec_str {i j : Str} : decide (V.str i = V.str j) = (i == j) := by
  rw [Bool.eq_iff_iff]
  simp
theorem dec_byt {i j : Array UInt8} : decide (V.byt i = V.byt j) = (i.toList == j.toList) := by
  rw [Bool.eq_iff_iff]
  cases i
  cases j
  simp
section
variable {X : Cx} {a b c : Expr} {ta tb tc : TE} {pos : Pos}
theorem fin_bl {pins : List (Addr × Obj)} {σ : St} {H : Hp} {s : Shared} {Q : VK} {k k' : Bool} (I : Inv X pins σ H s) (q : Q (.bl k) H) (e : k = k') : EP X pins σ Q (.bool k') s := by
  subst e
  exact ⟨.bl k, H, I, rfl, q⟩
theorem op_eq : OpR X (compareOp .Eq) rEq := by
  intro pins s σ H x y v u Q I rx ry h
  obtain ⟨hs, q⟩ := h
  cases x with
  | non =>
    cases rx
    cases y with
    | non => cases ry; exact PySem.EqNone.eq_none_none (fin_bl I q (by simp))
    | bl j => cases ry; exact PySem.EqNone.eq_none_bool (fin_bl I q (by simp))
    | int j => obtain ⟨t', rfl⟩ := ry; exact PySem.EqNone.eq_none_int (fin_bl I q (by simp))
    | str j => obtain ⟨t', rfl⟩ := ry; exact PySem.EqNone.eq_none_str (fin_bl I q (by simp))
    | _ => exact absurd (show false = true from hs) Bool.false_ne_true
  | bl i =>
    cases rx
    cases y with
    | non => cases ry; exact PySem.EqNone.eq_bool_none (fin_bl I q (by simp))
    | bl j => cases ry; exact eq_bool (fin_bl I q dec_bl)
    | str j => obtain ⟨t', rfl⟩ := ry; exact PySem.EqMixed.eq_bool_str (fin_bl I q (by simp))
    | _ => exact absurd (show false = true from hs) Bool.false_ne_true
  | int i =>
    obtain ⟨t, rfl⟩ := rx
    cases y with
    | non => cases ry; exact PySem.EqNone.eq_int_none (fin_bl I q (by simp))
    | int j => obtain ⟨t', rfl⟩ := ry; exact eq_int (fin_bl I q dec_int)
    | str j => obtain ⟨t', rfl⟩ := ry; exact PySem.EqMixed.eq_int_str (fin_bl I q (by simp))
    | _ => exact absurd (show false = true from hs) Bool.false_ne_true
  | str i =>
    obtain ⟨t, rfl⟩ := rx
    cases y with
    | non => cases ry; exact PySem.EqNone.eq_str_none (fin_bl I q (by simp))
    | bl j => cases ry; exact PySem.EqMixed.eq_str_bool (fin_bl I q (by simp))
    | int j => obtain ⟨t', rfl⟩ := ry; exact PySem.EqMixed.eq_str_int (fin_bl I q (by simp))
    | str j => obtain ⟨t', rfl⟩ := ry; exact eq_str (fin_bl I q dec_str)
    | _ => exact absurd (show false = true from hs) Bool.false_ne_true
  | byt i =>
    obtain ⟨t, rfl⟩ := rx
    cases y with
    | byt j => obtain ⟨t', rfl⟩ := ry; exact PySem.W.eq_bytes (fin_bl I q dec_byt)
    | _ => exact absurd (show false = true from hs) Bool.false_ne_true
  | _ => cases y <;> exact absurd (show false = true from hs) Bool.false_ne_true
theorem op_ne : OpR X (compareOp .NotEq) rNe := by
  intro pins s σ H x y v u Q I rx ry h
  obtain ⟨hs, q⟩ := h
  cases x with
  | non =>
    cases rx
    cases y with
    | non => cases ry; exact PySem.EqNone.ne_none_none (fin_bl I q (by simp))
    | bl j => cases ry; exact PySem.EqNone.ne_none_bool (fin_bl I q (by simp))
    | int j => obtain ⟨t', rfl⟩ := ry; exact PySem.EqNone.ne_none_int (fin_bl I q (by simp))
    | str j => obtain ⟨t', rfl⟩ := ry; exact PySem.EqNone.ne_none_str (fin_bl I q (by simp))
    | _ => exact absurd (show false = true from hs) Bool.false_ne_true
  | bl i =>
    cases rx
    cases y with
    | non => cases ry; exact PySem.EqNone.ne_bool_none (fin_bl I q (by simp))
    | bl j => cases ry; exact ne_bool (fin_bl I q (congrArg not dec_bl))
    | str j => obtain ⟨t', rfl⟩ := ry; exact PySem.EqMixed.ne_bool_str (fin_bl I q (by simp))
    | _ => exact absurd (show false = true from hs) Bool.false_ne_true
  | int i =>
    obtain ⟨t, rfl⟩ := rx
    cases y with
    | non => cases ry; exact PySem.EqNone.ne_int_none (fin_bl I q (by simp))
    | int j => obtain ⟨t', rfl⟩ := ry; exact ne_int (fin_bl I q (congrArg not dec_int))
    | str j => obtain ⟨t', rfl⟩ := ry; exact PySem.EqMixed.ne_int_str (fin_bl I q (by simp))
    | _ => exact absurd (show false = true from hs) Bool.false_ne_true
  | str i =>
    obtain ⟨t, rfl⟩ := rx
    cases y with
    | non => cases ry; exact PySem.EqNone.ne_str_none (fin_bl I q (by simp))
    | bl j => cases ry; exact PySem.EqMixed.ne_str_bool (fin_bl I q (by simp))
    | int j => obtain ⟨t', rfl⟩ := ry; exact PySem.EqMixed.ne_str_int (fin_bl I q (by simp))
    | str j => obtain ⟨t', rfl⟩ := ry; exact ne_str (fin_bl I q (congrArg not dec_str))
    | _ => exact absurd (show false = true from hs) Bool.false_ne_true
  | byt i =>
    obtain ⟨t, rfl⟩ := rx
    cases y with
    | byt j => obtain ⟨t', rfl⟩ := ry; exact PySem.W.ne_bytes (fin_bl I q (congrArg not dec_byt))
    | _ => exact absurd (show false = true from hs) Bool.false_ne_true
  | _ => cases y <;> exact absurd (show false = true from hs) Bool.false_ne_true
theorem op_lt : OpR X (compareOp .Lt) (rI0 fun i j => .bl (decide (i < j))) := opB0 fun _ _ _ _ _ _ _ q => lt_int q
theorem op_le : OpR X (compareOp .LtE) (rI0 fun i j => .bl (decide (i ≤ j))) := opB0 fun _ _ _ _ _ _ _ q => le_int q
theorem op_gt : OpR X (compareOp .Gt) (rI0 fun i j => .bl (decide (j < i))) := opB0 fun _ _ _ _ _ _ _ q => gt_int q
theorem op_notN : OpR X (compareOp .IsNot) (fun x y H Q => y = .non ∧ Q (.bl (!decide (x = .non))) H) := by
  intro pins s σ H x y v u Q I rx ry h
  obtain ⟨rfl, q⟩ := h
  cases ry
  refine isnot_none_gen (fin_bl I q ?_)
  cases x <;> first
    | (cases rx; rfl)
    | (obtain ⟨t, rfl⟩ := rx; rfl)
def isObj : HO → Bool
  | .lst _ => true
  | .ins _ _ _ => true
  | _ => false
theorem nomark (b : Expr) {op : CmpOp} (h : op ≠ .In := by decide) (h2 : op ≠ .NotIn := by decide) : behindInMarks op b = false := by
  have e1 : (op == CmpOp.In) = false := by cases op <;> first | rfl | exact absurd rfl h
  have e2 : (op == CmpOp.NotIn) = false := by cases op <;> first | rfl | exact absurd rfl h2
  cases b <;> simp [behindInMarks, e1, e2]
theorem pe_cmpR {op : CmpOp} {r : R2} (ho : OpR X (compareOp op) r) (ha : PE X a ta) (hb : PE X b tb) (hm : behindInMarks op b = false) : PE X (.Compare a [op] [b] pos) (tOp r ta tb) := by
  intro pins s σ H Q I h
  exact wpAny_Compare1 (binT ha hb I h fun v u s2 x y H2 I2 rx ry q => ho pins s2 σ H2 x y v u Q I2 rx ry q) hm
def tTest (t : TE) : TT := fun σ H Q => t σ H fun x H' => ∃ k, x = .bl k ∧ Q k H'
theorem pt_cmpR {op : CmpOp} {r : R2} (ho : OpR X (compareOp op) r) (ha : PE X a ta) (hb : PE X b tb) (hm : behindInMarks op b = false) : PT X (.Compare a [op] [b] pos) (tTest (tOp r ta tb)) := by
  intro pins s σ H Q I h
  refine wpAny_isTrue_Compare1 (thn (ha pins s σ H _ I h) fun v s1 ⟨x, H1, I1, r1, q1⟩ => thn (hb pins s1 σ H1 _ I1 q1) fun u s2 ⟨y, H2, I2, r2, q2⟩ =>
    thn (ho pins s2 σ H2 x y v u _ I2 r1 r2 q2) fun c s3 ⟨z, H3, I3, r3, k, e, q3⟩ => ?_) hm
  subst e
  cases r3
  exact wpAny_truthy_bool ⟨H3, I3, q3⟩
def tChain (r r' : R2) (ta tb tc : TE) : TE := fun σ H Q => ta σ H fun x H1 => tb σ H1 fun y H2 => r x y H2 fun z H3 => ∃ k, z = .bl k ∧
  (if k = true then tc σ H3 fun w' H4 => r' y w' H4 Q else Q (.bl false) H3)
theorem pe_chain {op op' : CmpOp} {r r' : R2} (ho : OpR X (compareOp op) r) (ho' : OpR X (compareOp op') r') (ha : PE X a ta) (hb : PE X b tb) (hc : PE X c tc)
    (hm : lastMarks [op, op'] [b, c] = false := by with_unfolding_all rfl) : PE X (.Compare a [op, op'] [b, c] pos) (tChain r r' ta tb tc) := by
  intro pins s σ H Q I h
  refine Compare_chain (thn (ha pins s σ H _ I h) fun v s1 ⟨x, H1, I1, r1, q1⟩ => chain_link (thn (hb pins s1 σ H1 _ I1 q1) fun u s2 ⟨y, H2, I2, r2, q2⟩ =>
    thn (ho pins s2 σ H2 x y v u _ I2 r1 r2 q2) fun d s3 ⟨z, H3, I3, r3, k, e, q3⟩ => ?_)) hm
  subst e
  cases r3
  refine wpAny_truthy_bool ?_
  cases k with
  | false => exact ite_ff ⟨.bl false, H3, I3, rfl, q3⟩
  | true => exact ite_tt (chain_last (thn (hc pins s3 σ H3 _ I3 q3) fun w' s4 ⟨z', H4, I4, r4, q4⟩ => ho' pins s4 σ H4 y z' u w' Q I4 r2 r4 q4))
theorem pt_chain {op op' : CmpOp} {r r' : R2} (ho : OpR X (compareOp op) r) (ho' : OpR X (compareOp op') r') (ha : PE X a ta) (hb : PE X b tb) (hc : PE X c tc)
    (hm : lastMarks [op, op'] [b, c] = false := by with_unfolding_all rfl) : PT X (.Compare a [op, op'] [b, c] pos) (tTest (tChain r r' ta tb tc)) := by
  intro pins s σ H Q I h
  refine isTrue_chain (thn (ha pins s σ H _ I h) fun v s1 ⟨x, H1, I1, r1, q1⟩ => test_link (thn (hb pins s1 σ H1 _ I1 q1) fun u s2 ⟨y, H2, I2, r2, q2⟩ =>
    thn (ho pins s2 σ H2 x y v u _ I2 r1 r2 q2) fun d s3 ⟨z, H3, I3, r3, k, e, q3⟩ => ?_)) hm
  subst e
  cases r3
  refine wpAny_truthy_bool ?_
  cases k with
  | false =>
    obtain ⟨k', e', q'⟩ := q3
    cases e'
    exact ite_ff ⟨H3, I3, q'⟩
  | true =>
    refine ite_tt (test_last (thn (hc pins s3 σ H3 _ I3 q3) fun w' s4 ⟨z', H4, I4, r4, q4⟩ => thn (ho' pins s4 σ H4 y z' u w' _ I4 r2 r4 q4) fun d' s5 ⟨z2, H5, I5, r5, k2, e2, q5⟩ => ?_))
    subst e2
    cases r5
    exact wpAny_truthy_bool ⟨H5, I5, q5⟩
def TruV (K : PySem.W.Frag) (x : V) (H : Hp) (k : Bool) : Prop :=
  match x with
  | .non => k = false
  | .bl b => k = b
  | .int i => k = (i != 0)
  | .str y => y.length ≤ sizeLine ∧ k = ((y.length : Int) != 0)
  | .byt y => y.size ≤ sizeLine ∧ k = ((y.size : Int) != 0)
  | .ref p => (∃ xs, SqL K H p xs ∧ k = !xs.isEmpty) ∨ (∃ xs, SqT K H p xs ∧ k = !xs.isEmpty) ∨ ∃ kvs, H p = some (.dK kvs) ∧ k = !kvs.isEmpty
  | _ => False
theorem line63 : (sizeLine : Nat) < 2 ^ 63 := by rw [sizeLine_eq]; decide
def PlainIxT (b : Expr) : Prop := ∀ o i, subscripted b false o i = operate [o, i] (getItem o i)
theorem vals1 {x : V} {us : List Value} (r : Vals [x] us) : ∃ u, us = [u] ∧ RelV x u := by
  cases r with
  | cons r1 r2 => cases r2; exact ⟨_, rfl, r1⟩
theorem call_ord : CallR X (.builtin "ord") (fun xs H Q => ∃ x, xs = [.str x] ∧ x.length = 1 ∧ Q (.int (x.cps.getD 0 0 : Nat)) H) := by
  intro pins s σ H xs us Q I r h
  obtain ⟨x, rfl, hz, q⟩ := h
  obtain ⟨u, rfl, t, rfl⟩ := vals1 r
  exact ord_of_one hz ⟨.int _, H, I.tok _, ⟨_, rfl⟩, q⟩
def LenV (K : PySem.W.Frag) (x : V) (H : Hp) (n : Nat) : Prop :=
  match x with
  | .str y => y.length ≤ sizeLine ∧ n = y.length
  | .byt y => y.size ≤ sizeLine ∧ n = y.size
  | .ref p => (∃ xs, SqL K H p xs ∧ n = xs.length) ∨ ∃ xs, SqT K H p xs ∧ n = xs.length
  | _ => False
end
end L2
namespace L2
open PySem PySem.Spec PyProof.Rows
structure ObjM (h : Heap) (x dx C : Addr) (mA : Str → Option Value) : Prop where
  obj : h.get? x = some (PySem.W.instObj C dx)
  ns : h.Ns1 dx mA
  ne : dx ≠ x
theorem lookIn_ns {h : Heap} {dx : Addr} {mA : Str → Option Value} (n : h.Ns1 dx mA) : ∃ od, h.get? dx = some od ∧ ∀ name, PySem.W.lookIn name od = some (mA name) := by
  obtain ⟨o, es, ep, ho, hd, hk, _, hm⟩ := n
  refine ⟨o, ho, fun name => ?_⟩
  have e := hm name
  unfold nsFind findBy at e
  rw [← Array.find?_toList] at e
  unfold PySem.W.lookIn
  rw [hd]
  dsimp only
  split
  · rename_i y q
    rw [q] at e
    exact congrArg some e
  · rename_i q
    rw [q] at e
    have a : es.toList.any (·.refKey) = false := by
      rw [List.any_eq_false]
      intro y hy
      obtain ⟨z, t, hkey⟩ := hk y (Array.mem_toList_iff.mp hy)
      simp [DictEntry.refKey, hkey]
    have a' : ¬ es.toList.any (·.refKey) = true := by rw [a]; exact Bool.false_ne_true
    rw [if_neg a']
    exact congrArg some e
theorem ObjM.look {h : Heap} {x dx C : Addr} {mA : Str → Option Value} (I : ObjM h x dx C mA) : ∃ od, PySem.W.InstAt h x (PySem.W.instObj C dx) C (some od) ∧ ∀ name, PySem.W.lookIn name od = some (mA name) :=
  let ⟨od, ho, hl⟩ := lookIn_ns I.ns
  ⟨od, ⟨I.obj, rfl, rfl, ho⟩, hl⟩
section
variable {prog : Program} {w : World} {A : Around} {E : Value → Shared → Prop} {s : Shared} {K : PySem.W.Frag} {x dx C f : Addr} {mA : Str → Option Value} {name : Str} {v : Value}
theorem get_map {expr : Bool} {Q : Value → Shared → Prop} (X : K.In s.heap) (I : ObjM s.heap x dx C mA) (hg : PySem.W.plainGet K C name = true) (hh : PySem.W.hasDictIn K C = true)
    (ha : PySem.W.findIn K (.ref C) name = some none) (hv : mA name = some v) (hv' : PySem.W.handedIn v = true) (h : Q v { s with toks := s.toks + 1 }) :
    wpAny (model prog w) A (getAttr (.ref x) name expr) Q E s := by
  obtain ⟨od, J, hl⟩ := I.look
  exact PySem.W.get_value X J (PySem.W.plainGet_of hg).1 (PySem.W.findObj_own hh ha rfl (by rw [hl, hv])) hv' h
theorem set_map {ns : List Str} {Q : Unit → Shared → Prop} (X : K.In s.heap) (I : ObjM s.heap x dx C mA)
    (hs : PySem.W.findIn K (.ref C) "__setattr__" = some (some (.builtin "object.__setattr__"))) (hp : PySem.W.plainOver K C = true) (ht : PySem.W.takerIn K C name = some none) (hh : PySem.W.hasDictIn K C = true)
    (hw : PySem.Within mA ns) (hsz : ns.length ≤ sizeLine)
    (h : ∀ h', ObjM h' x dx C (fun y => if y = name then some v else mA y) → Heap.SameBut dx s.heap h' → Q () { s with heap := h', toks := s.toks + 2 }) :
    wpAny (model prog w) A (setAttr (.ref x) name v) Q E s := by
  obtain ⟨od, J, hl⟩ := I.look
  refine PySem.W.set_plain X J hs (PySem.W.osa_open (s := { s with toks := s.toks + 1 }) (r := none) X J hp ht fun b => ?_)
  obtain ⟨cd, hc, hd'⟩ := PySem.W.any_some hh
  have hx : s.heap.get? x = some ⟨.ref C, some dx, .plain, #[]⟩ := I.obj
  refine wpAny_bind (wpAny_pure (wpAny_bind (wpAny_bind (wpAny_loadPart hx (wpAny_bind (PySem.W.Looks.here (s := { s with toks := s.toks + 1 }) (PySem.W.looks_clsIn X hc) ?_))))))
  rw [hd']
  refine wpAny_pure (a := some dx) (wpAny_bind (wpAny_pure (wpAny_bind ?_)))
  refine wpAny_nsSet1 (s := { s with toks := s.toks + 1 }) I.ns fun h' hn2 hs2 => ?_
  obtain ⟨oD, esD, epD, hoD, hdD, hcD⟩ := hn2.count (PySem.Within.cons name v hw)
  refine wpAny_bind (wpAny_lookBehind hoD (by rw [hdD]; exact pastItsLine_dict (Nat.le_trans hcD (by rw [List.length_cons]; omega))) ?_)
  exact wpAny_pure (h _ ⟨(hs2.2 _ (Ne.symm I.ne)).trans I.obj, hn2, I.ne⟩ hs2)
theorem make_map {R : Result → Shared → Prop} {vs : List Value} {kw : List (Str × Value)} (X : K.In s.heap) (hm : PySem.W.makesIn K C = true)
    (hi : PySem.W.findIn K (.ref C) "__init__" = some (some (.ref f))) (hf : PySem.W.typeIn K (.ref f) = some (.type "function"))
    (h : codeAny (model prog w) (A.under (.builtin "type.__call__" ⟨.ref C :: vs, kw⟩)) (.call (.ref f) ⟨.ref (s.heap.objs.size + 1) :: vs, kw⟩) (PySem.W.InitBack (s.heap.objs.size + 1) R)
      { s with heap := (s.heap.push PySem.W.emptyDict).push (PySem.W.instObj C s.heap.objs.size) }) :
    codeAny (model prog w) A (.call (.ref C) ⟨vs, kw⟩) R s := by
  obtain ⟨hh, g, d, t, os⟩ := s
  exact PySem.W.make_core (PySem.W.makes_of X hm) (PySem.W.looks_findIn X hi) (fun self => PySem.W.bind_fn X self hf) (.inl rfl) h
end
def putF (f : Str) (v : V) : List (Str × V) → List (Str × V)
  | [] => [(f, v)]
  | (g, x) :: r => if g = f then (g, v) :: r else (g, x) :: putF f v r
theorem lookup_putF (f g : Str) (v : V) : ∀ fs : List (Str × V), (putF f v fs).lookup g = if g = f then some v else fs.lookup g
  | [] => by
    show List.lookup g [(f, v)] = _
    by_cases h : g = f
    · have hb : (g == f) = true := beq_iff_eq.mpr h
      simp only [List.lookup, hb, if_pos h]
    · have hb : (g == f) = false := beq_eq_false_iff_ne.mpr h
      simp only [List.lookup, hb, if_neg h]
  | (k, x) :: r => by
    have ih := lookup_putF f g v r
    rw [show putF f v ((k, x) :: r) = (if k = f then (k, v) :: r else (k, x) :: putF f v r) from rfl]
    by_cases hk : k = f
    · rw [if_pos hk]
      by_cases h : g = k
      · have hb : (g == k) = true := beq_iff_eq.mpr h
        simp only [List.lookup, hb, if_pos (h.trans hk)]
      · have hb : (g == k) = false := beq_eq_false_iff_ne.mpr h
        simp only [List.lookup, hb, if_neg (fun e : g = f => h (e.trans hk.symm))]
    · rw [if_neg hk]
      by_cases h : g = k
      · have hb : (g == k) = true := beq_iff_eq.mpr h
        simp only [List.lookup, hb, if_neg (fun e : g = f => hk (h.symm.trans e))]
      · have hb : (g == k) = false := beq_eq_false_iff_ne.mpr h
        simp only [List.lookup, hb]
        exact ih
theorem keys_putF (f : Str) (v : V) : ∀ fs : List (Str × V), f ∈ (putF f v fs).map (·.1) ∧ ∀ g, g ∈ fs.map (·.1) → g ∈ (putF f v fs).map (·.1)
  | [] => ⟨by simp [putF], fun g h => by simp at h⟩
  | (k, x) :: r => by
    obtain ⟨i1, i2⟩ := keys_putF f v r
    rw [show putF f v ((k, x) :: r) = (if k = f then (k, v) :: r else (k, x) :: putF f v r) from rfl]
    by_cases hk : k = f
    · rw [if_pos hk]
      subst hk
      exact ⟨by simp, fun g h => by simpa using h⟩
    · rw [if_neg hk]
      refine ⟨?_, fun g h => ?_⟩
      · rw [List.map_cons]
        exact List.mem_cons_of_mem _ i1
      · rw [List.map_cons] at h ⊢
        rcases List.mem_cons.mp h with e | e
        · exact List.mem_cons.mpr (.inl e)
        · exact List.mem_cons_of_mem _ (i2 g e)
theorem length_putF (f : Str) (v : V) : ∀ fs : List (Str × V), (putF f v fs).length ≤ fs.length + 1
  | [] => by simp [putF]
  | (k, x) :: r => by
    have ih := length_putF f v r
    rw [show putF f v ((k, x) :: r) = (if k = f then (k, v) :: r else (k, x) :: putF f v r) from rfl]
    by_cases hk : k = f
    · rw [if_pos hk, List.length_cons, List.length_cons]; omega
    · rw [if_neg hk, List.length_cons, List.length_cons]; omega
theorem RelO.some_of {v : V} {o : Option Value} (r : RelO (some v) o) : ∃ u, o = some u ∧ RelV v u := by
  cases o with
  | none => exact (show False from r).elim
  | some u => exact ⟨u, rfl, r⟩
theorem handed_of {v : V} {u : Value} (r : RelV v u) : PySem.W.handedIn u = true := by
  cases v with
  | non => cases (show u = Value.none from r); rfl
  | bl b => cases (show u = Value.bool b from r); rfl
  | int i => obtain ⟨t, e⟩ := (show ∃ t, u = Value.int i t from r); cases e; rfl
  | str x => obtain ⟨t, e⟩ := (show ∃ t, u = Value.str x t from r); cases e; rfl
  | byt b => obtain ⟨t, e⟩ := (show ∃ t, u = Value.bytes b t from r); cases e; rfl
  | flt b => obtain ⟨t, e⟩ := (show ∃ t, u = Value.float b t from r); cases e; rfl
  | ref a => cases (show u = Value.ref a from r); rfl
  | ty n => cases (show u = Value.type n from r); rfl
section
variable {P : Program} {w : World} {H H' : Hp} {h h' : Heap} {a C dx : Addr} {fs fs' : List (Str × V)}
theorem ins_get (hok : HOk P w H h) (e : H a = some (.ins C dx fs)) : ∃ mA, ObjM h a dx C mA ∧ (∀ f, RelO (fs.lookup f) (mA f)) ∧ PySem.Within mA (fs.map (·.1)) ∧ fs.length ≤ 1000 ∧ H dx = some (.own a) := by
  obtain ⟨d, z, ne, ob, mA, n, r, q⟩ := (show ObjOk P w H h a (.ins C dx fs) from hok a _ e)
  exact ⟨mA, ⟨ob, n, ne⟩, r, q, z, d⟩
end
structure Cls (K : PySem.W.Frag) (C : Addr) : Prop where
  pg : PySem.W.plainGet K C Str.empty = true
  hd : PySem.W.hasDictIn K C = true
  po : PySem.W.plainOver K C = true
  sa : PySem.W.findIn K (.ref C) "__setattr__" = some (some (.builtin "object.__setattr__"))
theorem Cls.get {K : PySem.W.Frag} {C : Addr} (c : Cls K C) (f : Str) : PySem.W.plainGet K C f = true := c.pg
def NoAttr (K : PySem.W.Frag) (C : Addr) (f : Str) : Prop := PySem.W.findIn K (.ref C) f = some none
theorem NoAttr.taker {K : PySem.W.Frag} {C : Addr} {f : Str} (n : NoAttr K C f) : PySem.W.takerIn K C f = some none := by
  unfold PySem.W.takerIn
  rw [show PySem.W.findIn K (.ref C) f = some none from n]
  rfl
structure Con (K : PySem.W.Frag) (C : Addr) (f : Str) (v : V) (u : Value) : Prop where
  at_ : PySem.W.findIn K (.ref C) f = some (some u)
  rel : RelV v u
  get : PySem.W.specialIn K u "__get__" = some none
  cp : PySem.W.copiedNames.contains f = false
structure Meth (K : PySem.W.Frag) (C : Addr) (m : Str) (f : Addr) : Prop where
  at_ : PySem.W.findIn K (.ref C) m = some (some (.ref f))
  fn : PySem.W.isFn K (.ref f) = true
  kp : PySem.W.keepIn K (.ref f) = true
section
variable {X : Cx} {pins : List (Addr × Obj)} {σ : St} {H : Hp} {s : Shared} {a C dx : Addr} {fs : List (Str × V)} {f : Str} {v : V} {A : Around} {E : Value → Shared → Prop}
theorem getattr_ok {b : Bool} {Q : Value → Shared → Prop} (I : Inv X pins σ H s) (e : H a = some (.ins C dx fs)) (c : Cls X.K C) (n : NoAttr X.K C f) (l : fs.lookup f = some v)
    (h : ∀ u s', Inv X pins σ H s' → RelV v u → Q u s') : wpAny (model X.prog X.w) A (getAttr (.ref a) f b) Q E s := by
  obtain ⟨mA, O, r, _, _, _⟩ := ins_get I.hok e
  obtain ⟨u, hu, ru⟩ := RelO.some_of (v := v) (o := mA f) (by rw [← l]; exact r f)
  exact get_map I.kIn O (c.get f) c.hd n hu (handed_of ru) (h u _ (I.tok _) ru)
theorem setattr_ok {y : V} {u : Value} {Q : Unit → Shared → Prop} (I : Inv X pins σ H s) (e : H a = some (.ins C dx fs)) (c : Cls X.K C) (n : NoAttr X.K C f) (hl : fs.length < 1000) (ry : RelV y u)
    (h : ∀ s', Inv X pins σ (upd H a (.ins C dx (putF f y fs))) s' → Q () s') : wpAny (model X.prog X.w) A (setAttr (.ref a) f u) Q E s := by
  obtain ⟨mA, O, r, wi, _, ho⟩ := ins_get I.hok e
  have hz : (fs.map (·.1)).length ≤ sizeLine := by rw [List.length_map, sizeLine_eq]; omega
  refine set_map I.kIn O c.sa c.po n.taker c.hd wi hz fun h' O' sb => h _ ?_
  have hd : ∃ o, h'.get? dx = some o := let ⟨o, _, _, e', _⟩ := O'.ns; ⟨o, e'⟩
  refine I.write (x := a) (e := dx) (by rw [e]; exact True.intro) (.inr ho) (fun b q hb z => (sb.2 b hb).trans z) hd ?_
  refine ⟨by rw [upd_ne O.ne]; exact ho, ?_, O.ne, O'.obj, _, O'.ns, fun g => ?_, fun g hg => ?_⟩
  · have := length_putF f y fs; omega
  · show RelO ((putF f y fs).lookup g) (if g = f then some u else mA g)
    rw [lookup_putF]
    by_cases q : g = f
    · rw [if_pos q, if_pos q]; exact ry
    · rw [if_neg q, if_neg q]; exact r g
  · by_cases q : g = f
    · rw [q]; exact (keys_putF f y fs).1
    · refine (keys_putF f y fs).2 g (wi g fun z => hg ?_)
      show (if g = f then some u else mA g) = none
      rw [if_neg q]; exact z
theorem Inv.made (I : Inv X pins σ H s) : Inv X pins σ (upd (upd H s.heap.objs.size (.own (s.heap.objs.size + 1))) (s.heap.objs.size + 1) (.ins C s.heap.objs.size []))
    { s with heap := (s.heap.push PySem.W.emptyDict).push (PySem.W.instObj C s.heap.objs.size) } := by
  have e1 : (s.heap.push PySem.W.emptyDict).get? s.heap.objs.size = some PySem.W.emptyDict := Heap.get?_push_size s.heap rfl
  have e2 : ((s.heap.push PySem.W.emptyDict).push (PySem.W.instObj C s.heap.objs.size)).get? (s.heap.objs.size + 1) = some (PySem.W.instObj C s.heap.objs.size) := by
    have := Heap.get?_push_size (s.heap.push PySem.W.emptyDict) (o := PySem.W.instObj C s.heap.objs.size) rfl
    rwa [Heap.size_push] at this
  have e3 : (s.heap.push PySem.W.emptyDict).Ns s.heap.objs.size (fun _ => none) := ⟨PySem.W.emptyDict, #[], _, e1, rfl, (fun e he => absurd he (by simp)), fun _ => rfl⟩
  have I1 := I.laid (a := s.heap.objs.size) (o := .own (s.heap.objs.size + 1)) (h' := s.heap.push PySem.W.emptyDict) (t' := s.toks) (fun b u q => Heap.get?_push_of_some _ q) (Nat.le_refl _) ⟨_, e1⟩
  refine I1.laid (a := s.heap.objs.size + 1) (o := .ins C s.heap.objs.size []) (t' := s.toks) (fun b u q => Heap.get?_push_of_some _ q) (Nat.le_of_eq (Heap.size_push _ _)) ?_
  have ne : s.heap.objs.size ≠ s.heap.objs.size + 1 := Nat.ne_of_lt (Nat.lt_succ_self _)
  refine ⟨by rw [upd_ne ne, upd_same], Nat.zero_le _, ne, e2, fun _ => none, (Heap.Ns1.of_empty e3).at fun o q => Heap.get?_push_of_some _ q, fun _ => True.intro, fun y hy => absurd rfl hy⟩
theorem attr_of {prog : Program} {w : World} {env : Env} {e : Expr} {f : Str} {pos : Pos} {s : Shared} {Q : Value → Shared → Prop} (hb : attributeBase e f env (eval e env) = eval e env)
    (h : wpAny (model prog w) A (eval e env) (fun o s₁ => wpAny (model prog w) A (getAttr o f true) Q E s₁) E s) : wpAny (model prog w) A (eval (.Attribute e f pos) env) Q E s :=
  Attribute_any_ h (by rw [arm_eval_Attribute, hb])
end
def tFld (K : PySem.W.Frag) (ta : TE) (f : Str) : TE := fun σ H Q => ta σ H fun x H1 => ∃ a C dx fs v, x = .ref a ∧ H1 a = some (.ins C dx fs) ∧ Cls K C ∧ NoAttr K C f ∧ fs.lookup f = some v ∧ Q v H1
def tCon (K : PySem.W.Frag) (ta : TE) (f : Str) : TE := fun σ H Q => ta σ H fun x H1 => ∃ a C dx fs v u, x = .ref a ∧ H1 a = some (.ins C dx fs) ∧ Cls K C ∧ Con K C f v u ∧ fs.lookup f = none ∧ Q v H1
def sFld (K : PySem.W.Frag) (ta tv : TE) (f : Str) : TS := fun D σ H => tv σ H fun y H1 => ta σ H1 fun x H2 => ∃ a C dx fs, x = .ref a ∧ H2 a = some (.ins C dx fs) ∧ Cls K C ∧ NoAttr K C f ∧ fs.length < 1000 ∧
  D.nx σ (upd H2 a (.ins C dx (putF f y fs)))
def InOp (X : Cx) (op : Operator) (rd : V → V → Hp → VK → Prop) : Prop :=
  ∀ (pins : List (Addr × Obj)) (s : Shared) (σ : St) (H : Hp) (x y : V) (u v : Value) (Q : VK), Inv X pins σ H s → RelV x u → RelV y v → rd x y H Q → wpAny (model X.prog X.w) X.A (inplaceOp op u v) (EP X pins σ Q) X.xe s
def sFldAug (K : PySem.W.Frag) (ta tv : TE) (rd : V → V → Hp → VK → Prop) (f : Str) : TS := fun D σ H => ta σ H fun x H1 => ∃ a C dx fs v, x = .ref a ∧ H1 a = some (.ins C dx fs) ∧ Cls K C ∧ NoAttr K C f ∧ fs.lookup f = some v ∧
  tv σ H1 fun y H2 => rd v y H2 fun z H3 => ∃ dx' fs', H3 a = some (.ins C dx' fs') ∧ fs'.length < 1000 ∧ D.nx σ (upd H3 a (.ins C dx' (putF f z fs')))
section
variable {X : Cx} {o e value : Expr} {f : Str} {pos pos' tpos : Pos} {ta tv : TE}
theorem pe_fld (he : PE X e ta) (hb : attributeBase e f X.env (eval e X.env) = eval e X.env) : PE X (.Attribute e f pos) (tFld X.K ta f) := by
  intro pins s σ H Q I h
  refine attr_of hb (thn (he pins s σ H _ I h) fun u s1 ⟨x, H1, I1, rx, a, C, dx, fs, v, ex, ea, c, n, l, q⟩ => ?_)
  subst ex
  obtain rfl : u = Value.ref a := rx
  exact getattr_ok I1 ea c n l fun u' s2 I2 ru => ⟨v, H1, I2, ru, q⟩
theorem ps_fld (ha : PE X o ta) (hv : PE X value tv) (hs : swapsWith value (some (.Attribute o f pos')) pos.line X.env = pure false) : PS X (.Assign [.Attribute o f pos'] value pos) (sFld X.K ta tv f) := by
  intro pins s σ H D I h
  refine plainObj_wpAny_Assign_Attribute (thn (hv pins s σ H _ I h) fun u s1 ⟨y, H1, I1, ry, q⟩ => thn (ha pins s1 σ H1 _ I1 q) fun ov s2 ⟨x, H2, I2, rx, a, C, dx, fs, ex, ea, c, n, l, q2⟩ => ?_) hs
  subst ex
  obtain rfl : ov = Value.ref a := rx
  exact setattr_ok I2 ea c n l ry fun s3 I3 => ⟨σ, _, I3, q2⟩
def rAdd : V → V → Hp → VK → Prop := fun x y H Q => ∃ i j, x = .int i ∧ y = .int j ∧ Q (.int (i + j)) H
def rSub : V → V → Hp → VK → Prop := fun x y H Q => ∃ i j, x = .int i ∧ y = .int j ∧ Q (.int (i - j)) H
end
section
variable {X : Cx} {pins : List (Addr × Obj)} {σ : St} {H : Hp} {s : Shared} {A : Around} {E : Value → Shared → Prop} {Q : Value → Shared → Prop} {c : Value} {b : Bool}
inductive TyOf (K : PySem.W.Frag) (H : Hp) : V → Value → Prop where
  | non : TyOf K H .non (.type "NoneType")
  | bl (x : Bool) : TyOf K H (.bl x) (.type "bool")
  | int (i : Int) : TyOf K H (.int i) (.type "int")
  | str (x : Str) : TyOf K H (.str x) (.type "str")
  | flt (x : UInt64) : TyOf K H (.flt x) (.type "float")
  | lst {a : Addr} {xs : List V} (e : H a = some (.lst xs)) : TyOf K H (.ref a) (.type "list")
  | frz {a : Addr} {o : Obj} {xs : List V} (e : H a = some (.frz o (.lst xs))) : TyOf K H (.ref a) (.type "list")
  | tup {a : Addr} {xs : List V} (e : H a = some (.tup xs)) : TyOf K H (.ref a) (.type "tuple")
  | dK {a : Addr} {kvs : List (Key × V)} (e : H a = some (.dK kvs)) : TyOf K H (.ref a) (.type "dict")
  | dT {a : Addr} {kvs : List (List Key × V)} (e : H a = some (.dT kvs)) : TyOf K H (.ref a) (.type "dict")
  | ins {a C dx : Addr} {fs : List (Str × V)} (e : H a = some (.ins C dx fs)) (cl : Cls K C) (ha : PySem.W.findIn K (.ref C) "__class__" = some (some (.builtin "object.__class__")))
      (hn : PySem.W.specialIn K (.builtin "object.__class__") "__get__" = some (some (.builtin "getset_descriptor.__get__"))) (htk : PySem.W.takesIn K (.builtin "object.__class__") = some true)
      (hm : PySem.W.mroIn K C (.type "object") = some true) : TyOf K H (.ref a) (.ref C)
end
end L2
namespace L2
open PySem PySem.Spec PyProof.Rows
structure Room (k : Nat) (A : Around) : Prop where
  hd : A.handled = none
  dp : A.depth + 3 * k + 5 < recursionLimit
  un : A.units + 16 * k + 200 < cLine
theorem Room.mono {j k : Nat} {A : Around} (r : Room k A) (h : j ≤ k) : Room j A := ⟨r.hd, by have := r.dp; omega, by have := r.un; omega⟩
theorem Room.deeper {k : Nat} {A : Around} (r : Room (k + 1) A) (env : Env) : Room k (A.deeper env) :=
  ⟨r.hd, by have := r.dp; show A.depth + 1 + 3 * k + 5 < _; omega, by have := r.un; show A.units + 3 + 16 * k + 200 < _; omega⟩
theorem make_depth {A : Around} {C : Addr} {us : List Value} {kw : List (Str × Value)} : (A.under (.builtin "type.__call__" ⟨.ref C :: us, kw⟩)).depth = A.depth + 1 := by
  first | rfl | simp [Around.under, Code.weight, Code.isCreation, Code.isGuard, Code.isCaller, Code.frames, Code.isFrame, guardIds]
theorem make_units {A : Around} {C : Addr} {us : List Value} {kw : List (Str × Value)} : (A.under (.builtin "type.__call__" ⟨.ref C :: us, kw⟩)).units = A.units + 1 := by
  first | rfl | simp [Around.under, Code.cUnits, Code.frames, Code.isFrame]
theorem Room.make {k : Nat} {A : Around} (r : Room (k + 1) A) (C : Addr) (us : List Value) (kw : List (Str × Value)) : Room k (A.under (.builtin "type.__call__" ⟨.ref C :: us, kw⟩)) :=
  ⟨r.hd, by have := r.dp; rw [make_depth]; omega, by have := r.un; rw [make_units]; omega⟩
theorem Room.depth {k : Nat} {A : Around} (r : Room k A) : A.depth < recursionLimit := by have := r.dp; omega
theorem Room.units {k : Nat} {A : Around} (r : Room k A) : A.units + 64 < cLine := by have := r.un; omega
def tNil : TA := fun _ H Q => Q [] H
def tCons (ta : TE) (tr : TA) : TA := fun σ H Q => ta σ H fun x H1 => tr σ H1 fun xs H2 => Q (x :: xs) H2
section
variable {X : Cx} {e : Expr} {es : List Expr} {te : TE} {t : TA} {pos : Pos}
theorem pa_nil : PA X [] tNil := fun _ _ _ _ H Q I h => Calls.spliced_nil ⟨[], H, I, .nil, h⟩
theorem pa_cons (ha : PE X e te) (hr : PA X es t) (hs : starEach (e :: es) X.env = (false, eval e X.env) :: starEach es X.env := by rfl) : PA X (e :: es) (tCons te t) := by
  intro pos pins s σ H Q I h
  rw [hs]
  show wpAny _ _ (spliced ((false, eval e X.env) :: backTo pos (starEach es X.env))) _ _ s
  refine Calls.spliced_cons (thn (ha pins s σ H _ I h) fun u s1 ⟨x, H1, I1, r1, q1⟩ => ?_)
  exact thn (hr pos pins s1 σ H1 _ I1 q1) fun us s2 ⟨xs, H2, I2, r2, q2⟩ => ⟨x :: xs, H2, I2, .cons r1 r2, q2⟩
def tTup (t : TA) : TE := fun σ H Q => t σ H fun xs H1 => xs.length ≤ sizeLine ∧ ∀ p, H1 p = none → Q (.ref p) (upd H1 p (.tup xs))
def tLst (t : TA) : TE := fun σ H Q => t σ H fun xs H1 => xs.length ≤ sizeLine ∧ ∀ p, H1 p = none → Q (.ref p) (upd H1 p (.lst xs))
theorem pe_tup {x1} (h : PA X es t) : PE X (.Tuple es x1 pos) (tTup t) := by
  intro pins s σ H Q I hq
  refine wpAny_Tuple_spliced (thn (h pos pins s σ H _ I hq) fun us s1 ⟨xs, H1, I1, r, z, q⟩ => ⟨by rw [← r.length]; exact z, ?_⟩)
  have hf : H1 s1.heap.objs.size = none := I1.hok.fresh (Nat.le_refl _)
  refine ⟨.ref s1.heap.objs.size, upd H1 s1.heap.objs.size (.tup xs), I1.laid (t' := s1.toks) (fun b u e => Heap.get?_push_of_some _ e) (Nat.le_refl _) ?_, rfl, q _ hf⟩
  exact ⟨z, us, r, ⟨_, Heap.get?_push_size _ rfl, rfl, _, rfl⟩⟩
theorem pe_lst (h : PA X es t) : PE X (.List es pos) (tLst t) := by
  intro pins s σ H Q I hq
  refine wpAny_List_spliced (thn (h pos pins s σ H _ I hq) fun us s1 ⟨xs, H1, I1, r, z, q⟩ => ⟨by rw [← r.length]; exact z, ?_⟩)
  have hf : H1 s1.heap.objs.size = none := I1.hok.fresh (Nat.le_refl _)
  refine ⟨.ref s1.heap.objs.size, upd H1 s1.heap.objs.size (.lst xs), I1.laid (t' := s1.toks) (fun b u e => Heap.get?_push_of_some _ e) (Nat.le_refl _) ?_, rfl, q _ hf⟩
  exact ⟨z, us, 0, r, Heap.get?_push_size _ rfl⟩
end
abbrev Sp := List V → Hp → VK → XK → Prop
abbrev CXT := List Env → Hp → Shared → XK → Value → Shared → Prop
structure Env0 (P : Program) (w : World) (K : PySem.W.Frag) (mg : Str → Option Value) (base : Heap) (A : Around) (outer : List Env) (s : Shared) (H : Hp) : Prop where
  frames : A.frames = some outer
  mod : Mod K mg base
  bs : ∀ b o, base.get? b = some o → s.heap.get? b = some o ∧ H b = none
  bsz : base.objs.size ≤ s.heap.objs.size
  funs : s.heap.FunFrames base outer
  frf : ∀ b ∈ frs outer, H b = none
  hok : HOk P w H s.heap
  bare : AllBare s.gens
def CE (outer : List Env) (P : Program) (w : World) (H : Hp) (s : Shared) (Q : VK) (u : Value) (s' : Shared) : Prop :=
  ∃ v H', s'.os = s.os ∧ AllBare s'.gens ∧ Un (frs outer) [] H H' s.heap s'.heap ∧ HOk P w H' s'.heap ∧ RelV v u ∧ Q v H'
def CR (CX : CXT) (outer : List Env) (P : Program) (w : World) (H : Hp) (s : Shared) (Q : VK) (E : XK) (r : Result) (s' : Shared) : Prop :=
  match r with
  | .ok (.ret u) => CE outer P w H s Q u s'
  | .ok _ => False
  | .error e => CX outer H s E e s'
structure FnOk (P : Program) (w : World) (K : PySem.W.Frag) (mg : Str → Option Value) (base : Heap) (CX : CXT) (k : Nat) (f : Addr) (fd : FuncData) (ps : List Str) (sp : Sp) : Prop where
  len : ∀ vs H Q E, sp vs H Q E → vs.length = ps.length
  run : ∀ (A : Around) (outer : List Env) (s : Shared) (H : Hp) (args : Args) (us : List Value) (vs : List V) (Q : VK) (E : XK), Room k A → Env0 P w K mg base A outer s H → BindsTo s fd args (ps.zip us) → Vals vs us → sp vs H Q E →
    codeAny (model P w) A (.call (.ref f) args) (CR CX outer P w H s Q E) s
theorem Env0.make {P : Program} {w : World} {K : PySem.W.Frag} {mg : Str → Option Value} {base : Heap} {A : Around} {outer : List Env} {s : Shared} {H : Hp} (e : Env0 P w K mg base A outer s H) (C : Addr) (us : List Value) (kw : List (Str × Value)) :
    Env0 P w K mg base (A.under (.builtin "type.__call__" ⟨.ref C :: us, kw⟩)) outer s H := ⟨by first | exact e.frames | (simpa [Around.under, Code.envs, Code.isFrame, pushEnvs] using e.frames), e.mod, e.bs, e.bsz, e.funs, e.frf, e.hok, e.bare⟩
section
variable {X : Cx} {pins : List (Addr × Obj)} {σ : St} {H : Hp} {s s' : Shared}
theorem Inv.env0 (I : Inv X pins σ H s) : Env0 X.prog X.w X.K X.mg X.base X.A X.stack s H :=
  ⟨I.ok.frames, I.ok.mod, I.bs, Nat.le_trans I.ok.bsz I.sz, I.stack, I.stkFree, I.hok, I.bare⟩
theorem Inv.after {Q : VK} {u : Value} (I : Inv X pins σ H s) (h : CE X.stack X.prog X.w H s Q u s') : EP X pins σ Q u s' := by
  obtain ⟨v, H', os, bare, un, hok, r, q⟩ := h
  obtain ⟨hh, g, d, t, os'⟩ := s'
  obtain rfl : os' = s.os := os
  exact ⟨v, H', I.call (h' := hh) (g' := g) (d' := d) (t' := t) (ch := []) un hok bare (fun b z => absurd z (by simp)), r, q⟩
end
def tCall (sp : Sp) (dvs : List V) (E : XK) (t : TA) : TE := fun σ H Q => t σ H fun vs H1 => sp (vs ++ dvs) H1 Q E
def tMeth (C : Addr) (m : Str) (sp : Sp) (dvs : List V) (E : XK) (ta : TE) (t : TA) : TE := fun σ H Q => ta σ H fun x H1 => ∃ a dx fs, x = .ref a ∧ H1 a = some (.ins C dx fs) ∧ fs.lookup m = none ∧
  t σ H1 fun vs H2 => sp (x :: (vs ++ dvs)) H2 Q E
def tMake (C : Addr) (sp : Sp) (dvs : List V) (E : XK) (t : TA) : TE := fun σ H Q => t σ H fun vs H1 => ∀ x dx, H1 x = none → H1 dx = none → dx ≠ x →
  sp (.ref x :: (vs ++ dvs)) (upd (upd H1 dx (.own x)) x (.ins C dx [])) (fun v H2 => v = .non ∧ Q (.ref x) H2) E
def Binds (K : PySem.W.Frag) (fd : FuncData) (ps : List Str) (ds : List Value) : Prop :=
  ∀ (s : Shared) (us : List Value), K.In s.heap → (us ++ ds).length = ps.length → BindsTo s fd ⟨us, []⟩ (ps.zip (us ++ ds))
theorem Binds.all {K : PySem.W.Frag} {fd : FuncData} {ps : List Str} (h : ∀ us : List Value, us.length = ps.length → bindArgs fd ⟨us, []⟩ = pure (ps.zip us)) : Binds K fd ps [] := fun s us _ hl => by
  rw [List.append_nil] at hl ⊢
  exact .of_eq (h us hl)
def Passes (CX : CXT) (X : Cx) (E : XK) : Prop := ∀ (pins : List (Addr × Obj)) (σ : St) (H : Hp) (s : Shared) (e : Value) (s' : Shared), Inv X pins σ H s → CX X.stack H s E e s' → X.xe e s'
section
variable {X : Cx} {CX : CXT} {k : Nat} {f C : Addr} {fd : FuncData} {ps : List Str} {sp : Sp} {dvs : List V} {ds : List Value} {E : XK} {x m : Str} {p pos apos : Pos} {e o : Expr} {es : List Expr} {ta : TE} {t : TA}
theorem run_fn {pins : List (Addr × Obj)} {σ : St} {H : Hp} {s : Shared} {Q : VK} {us : List Value} {vs : List V} (F : FnOk X.prog X.w X.K X.mg X.base CX k f fd ps sp) (hr : Room k X.A) (hb : Binds X.K fd ps ds) (hd : Vals dvs ds) (hx : Passes CX X E)
    (I : Inv X pins σ H s) (r : Vals vs us) (h : sp (vs ++ dvs) H Q E) : wpAny (model X.prog X.w) X.A (call (.ref f) us) (EP X pins σ Q) X.xe s := by
  have r2 : Vals (vs ++ dvs) (us ++ ds) := r.append hd
  have hl : (us ++ ds).length = ps.length := by rw [← r2.length]; exact F.len _ _ _ _ h
  refine wpAny_call (codeAny_mono (F.run X.A X.stack s H ⟨us, []⟩ (us ++ ds) (vs ++ dvs) Q E hr I.env0 (hb s us I.kIn hl) r2 h) fun r s' hq => ?_)
  cases r with
  | error e => exact hx pins σ H s e s' I hq
  | ok fl =>
    cases fl with
    | ret u => exact I.after hq
    | next => exact False.elim hq
    | brk => exact False.elim hq
    | cont => exact False.elim hq
theorem pe_call (F : FnOk X.prog X.w X.K X.mg X.base CX k f fd ps sp) (hr : Room k X.A) (hg : Gl X x) (hm : X.mg x = some (.ref f)) (hk : PySem.W.keepIn X.K (.ref f) = true) (hb : Binds X.K fd ps ds) (hd : Vals dvs ds) (hx : Passes CX X E)
    (ha : PA X (e :: es) t) (hdb : (x == ("__debug__" : Str)) = false := by decide) (he : starEach (e :: es) X.env = (false, eval e X.env) :: starEach es X.env := by rfl) (hpl : (backTo pos (starEach es X.env)).any (·.1) = false := by rfl) :
    PE X (.Call (.Name x p) (e :: es) [] pos) (tCall sp dvs E t) := by
  intro pins s σ H Q I h
  refine wpAny_Call_Name_kw (ld_glob I hg hm ?_ hdb)
  refine PySem.W.callWith_K (h₀ := X.base) I.ok.mod.kin hk (thn (ha pos pins s σ H _ I h) fun us s1 ⟨vs, H1, I1, r, q⟩ => ⟨I1.kIn, ?_⟩) he hpl
  exact run_fn F hr hb hd hx I1 r q
structure Mk (K : PySem.W.Frag) (C f : Addr) : Prop where
  makes : PySem.W.makesIn K C = true
  init : PySem.W.findIn K (.ref C) "__init__" = some (some (.ref f))
  fn : PySem.W.isFn K (.ref f) = true
  kp : PySem.W.keepIn K (.ref C) = true
theorem run_make {pins : List (Addr × Obj)} {σ : St} {H : Hp} {s : Shared} {Q : VK} {us : List Value} {vs : List V} (M : Mk X.K C f) (F : FnOk X.prog X.w X.K X.mg X.base CX k f fd ps sp) (hr : Room (k + 1) X.A) (hb : Binds X.K fd ps ds) (hd : Vals dvs ds)
    (hx : Passes CX X E) (I : Inv X pins σ H s) (r : Vals vs us)
    (h : ∀ x dx, H x = none → H dx = none → dx ≠ x → sp (.ref x :: (vs ++ dvs)) (upd (upd H dx (.own x)) x (.ins C dx [])) (fun v H2 => v = .non ∧ Q (.ref x) H2) E) :
    wpAny (model X.prog X.w) X.A (call (.ref C) us) (EP X pins σ Q) X.xe s := by
  have hq := h (s.heap.objs.size + 1) s.heap.objs.size (I.hok.fresh (Nat.le_succ _)) (I.hok.fresh (Nat.le_refl _)) (Nat.ne_of_lt (Nat.lt_succ_self _))
  have I2 := Inv.made (C := C) I
  have r2 : Vals (V.ref (s.heap.objs.size + 1) :: (vs ++ dvs)) (Value.ref (s.heap.objs.size + 1) :: (us ++ ds)) := .cons rfl (r.append hd)
  have hl : (Value.ref (s.heap.objs.size + 1) :: us ++ ds).length = ps.length := by
    have e := r2.length
    rw [F.len _ _ _ _ hq] at e
    exact e.symm
  refine wpAny_call (make_map (f := f) I.kIn M.makes M.init (beq_iff_eq.mp M.fn) (codeAny_mono (F.run _ X.stack _ _ ⟨Value.ref (s.heap.objs.size + 1) :: us, []⟩ (Value.ref (s.heap.objs.size + 1) :: (us ++ ds)) _ _ E (hr.make C us [])
    (I2.env0.make C us []) (hb _ (Value.ref (s.heap.objs.size + 1) :: us) I2.kIn hl) r2 hq) fun r s' hq' => ?_))
  cases r with
  | error e => exact hx pins σ _ _ e s' I2 hq'
  | ok fl =>
    cases fl with
    | ret u =>
      obtain ⟨v, H', I3, rv, ev, q3⟩ := I2.after hq'
      subst ev
      exact ⟨rv, ⟨V.ref (s.heap.objs.size + 1), H', I3, rfl, q3⟩⟩
    | next => exact False.elim hq'
    | brk => exact False.elim hq'
    | cont => exact False.elim hq'
theorem pe_make (M : Mk X.K C f) (F : FnOk X.prog X.w X.K X.mg X.base CX k f fd ps sp) (hr : Room (k + 1) X.A) (hg : Gl X x) (hm : X.mg x = some (.ref C)) (hb : Binds X.K fd ps ds) (hd : Vals dvs ds) (hx : Passes CX X E)
    (ha : PA X (e :: es) t) (hdb : (x == ("__debug__" : Str)) = false := by decide) (he : starEach (e :: es) X.env = (false, eval e X.env) :: starEach es X.env := by rfl) (hpl : (backTo pos (starEach es X.env)).any (·.1) = false := by rfl) :
    PE X (.Call (.Name x p) (e :: es) [] pos) (tMake C sp dvs E t) := by
  intro pins s σ H Q I h
  refine wpAny_Call_Name_kw (ld_glob I hg hm ?_ hdb)
  refine PySem.W.callWith_K (h₀ := X.base) I.ok.mod.kin M.kp (thn (ha pos pins s σ H _ I h) fun us s1 ⟨vs, H1, I1, r, q⟩ => ⟨I1.kIn, ?_⟩) he hpl
  exact run_make M F hr hb hd hx I1 r q
end
def PK (X : Cx) (kws : List Keyword) (t : TA) : Prop :=
  ∀ (pos : Pos) (pins : List (Addr × Obj)) (s : Shared) (σ : St) (H : Hp) (Q : List V → Hp → Prop), Inv X pins σ H s → t σ H Q → wpAny (model X.prog X.w) X.A (evalAll ((backToKw pos (keywordEach kws X.env)).map (·.2))) (AP X pins σ Q) X.xe s
section
variable {X : Cx} {CX : CXT} {k : Nat} {f C : Addr} {fd : FuncData} {ps ks : List Str} {sp : Sp} {E : XK} {x m : Str} {p pos apos kpos : Pos} {e o : Expr} {es : List Expr} {kws : List Keyword} {te ta : TE} {t tk : TA} {nm : Option Str}
structure KBinds (K : PySem.W.Frag) (fd : FuncData) (ps ks : List Str) (g : List Value → List Value → List Value) (gV : List V → List V → List V) : Prop where
  to : ∀ (s : Shared) (us ws : List Value), K.In s.heap → (g us ws).length = ps.length → BindsTo s fd ⟨us, ks.zip ws⟩ (ps.zip (g us ws))
  rel : ∀ {vs : List V} {us : List Value} {zs : List V} {ws : List Value}, Vals vs us → Vals zs ws → Vals (gV vs zs) (g us ws)
def tCallK (sp : Sp) (gV : List V → List V → List V) (E : XK) (t tk : TA) : TE := fun σ H Q => t σ H fun vs H1 => tk σ H1 fun zs H2 => sp (gV vs zs) H2 Q E
variable {g : List Value → List Value → List Value} {gV : List V → List V → List V}
end
structure FnScope (N P : List Str) (sc : Scope) : Prop where
  kind : sc.kind = .function
  co : sc.isCoroutine = false
  gen : sc.isGenerator = false
  nd : N.Nodup
  pre : N.take P.length = P
  par : ∀ x ∈ P, sc.names.lookup x = some .local ∨ sc.names.lookup x = some .cell
  nofree : ∀ y ∈ sc.names, y.2 ≠ .free
theorem bindL_out {kindOf : Str → Option NameKind} {x : Str} : ∀ {binds : List (Str × Value)} {m : Str → Option Value}, (∀ v, (x, v) ∉ binds) → bindL kindOf binds m x = m x
  | [], _, _ => rfl
  | (n, v) :: r, m, h => by
    unfold bindL
    rw [bindL_out fun w hw => h w (List.mem_cons_of_mem _ hw)]
    split
    · have : x ≠ n := by rintro rfl; exact h v List.mem_cons_self
      simp [this]
    · rfl
theorem bindC_out {kindOf : Str → Option NameKind} {x : Str} : ∀ {binds : List (Str × Value)} {m : Str → Option Value}, (∀ v, (x, v) ∉ binds) → bindC kindOf binds m x = m x
  | [], _, _ => rfl
  | (n, v) :: r, m, h => by
    unfold bindC
    rw [bindC_out fun w hw => h w (List.mem_cons_of_mem _ hw)]
    split
    · rfl
    · have : x ≠ n := by rintro rfl; exact h v List.mem_cons_self
      simp [this]
theorem bindL_get {kindOf : Str → Option NameKind} {x : Str} {v : Value} : ∀ {P : List Str} {vs : List Value} {i : Nat} {m : Str → Option Value}, P.Nodup → P[i]? = some x → vs[i]? = some v → kindOf x = some .local →
    bindL kindOf (P.zip vs) m x = some v
  | [], _, _, _, _, h, _, _ => by simp at h
  | _ :: _, [], _, _, _, _, h, _ => by simp at h
  | p :: P, w :: vs, 0, m, nd, h1, h2, hk => by
    simp at h1 h2; subst h1; subst h2
    show bindL kindOf ((p, w) :: P.zip vs) m p = _
    unfold bindL
    rw [bindL_out fun v hv => (List.nodup_cons.mp nd).1 (List.of_mem_zip hv).1, if_pos hk]
    simp
  | p :: P, w :: vs, i + 1, m, nd, h1, h2, hk => by
    show bindL kindOf ((p, w) :: P.zip vs) m x = _
    unfold bindL
    exact bindL_get (i := i) (List.nodup_cons.mp nd).2 (by simpa using h1) (by simpa using h2) hk
theorem bindC_get {kindOf : Str → Option NameKind} {x : Str} {v : Value} : ∀ {P : List Str} {vs : List Value} {i : Nat} {m : Str → Option Value}, P.Nodup → P[i]? = some x → vs[i]? = some v → kindOf x ≠ some .local →
    bindC kindOf (P.zip vs) m x = some v
  | [], _, _, _, _, h, _, _ => by simp at h
  | _ :: _, [], _, _, _, _, h, _ => by simp at h
  | p :: P, w :: vs, 0, m, nd, h1, h2, hk => by
    simp at h1 h2; subst h1; subst h2
    show bindC kindOf ((p, w) :: P.zip vs) m p = _
    unfold bindC
    rw [bindC_out fun v hv => (List.nodup_cons.mp nd).1 (List.of_mem_zip hv).1, if_neg hk]
    simp
  | p :: P, w :: vs, i + 1, m, nd, h1, h2, hk => by
    show bindC kindOf ((p, w) :: P.zip vs) m x = _
    unfold bindC
    exact bindC_get (i := i) (List.nodup_cons.mp nd).2 (by simpa using h1) (by simpa using h2) hk
def start (N : List Str) (vs : List V) : St := vs.map some ++ List.replicate (N.length - vs.length) none
def cxOf (CX : CXT) (P : Program) (w : World) (K : PySem.W.Frag) (mg : Str → Option Value) (base : Heap) (N : List Str) (qual : Str) (scope : Scope) (f : Addr) (cd : Value) (A : Around) (outer : List Env) (s : Shared) (H : Hp) (E : XK) : Cx where
  prog := P
  w := w
  K := K
  mg := mg
  base := base
  A := A.deeper (envOfC qual scope s.heap.objs.size f cd)
  N := N
  s_0 := s
  H_0 := H
  env := envOfC qual scope s.heap.objs.size f cd
  outer := outer
  stack := envOfC qual scope s.heap.objs.size f cd :: outer
  ex := []
  calm := true
  fn := fun _ => true
  pn := []
  xe := fun e s' => wpAny (model P w) (A.deeper (envOfC qual scope s.heap.objs.size f cd)) (leaving (envOfC qual scope s.heap.objs.size f cd) e) (fun _ s'' => CX outer H s E e s'') (fun e' s'' => CX outer H s E e' s'') s'
theorem cell_has {sc : Scope} {n : Nat} {x : Str} (h : sc.names.lookup x = some .cell) : ∃ c, (cellsFrom n sc.names []).lookup x = some c := by
  have q := PySem.W.cellsFrom_some sc.names n [] (.inl h)
  exact Option.isSome_iff_exists.mp q
theorem inv_start {CX : CXT} {P : Program} {w : World} {K : PySem.W.Frag} {mg : Str → Option Value} {base : Heap} {N ps : List Str} {qual : Str} {scope : Scope} {f : Addr} {cd : Value} {A : Around} {outer : List Env} {s s1 : Shared} {H : Hp} {E : XK} {us : List Value} {vs : List V}
    (S : FnScope N ps scope) (hd : A.handled = none) (e0 : Env0 P w K mg base A outer s H) (hl : vs.length = ps.length) (r : Vals vs us)
    (x : InCallC s s.heap.objs.size (bindL (envOfC qual scope s.heap.objs.size f cd).kindOf (ps.zip us) fun _ => none) (cellsFrom (s.heap.objs.size + 1) scope.names []) (bindC (envOfC qual scope s.heap.objs.size f cd).kindOf (ps.zip us) fun _ => none) s1) :
    Inv (cxOf CX P w K mg base N qual scope f cd A outer s H E) [] (start N vs) H s1 := by
  have hpl : ps.length ≤ N.length := by have := congrArg List.length S.pre; rw [List.length_take] at this; omega
  obtain ⟨h1, tk, rfl, hk⟩ := x.done
  have noA : ∀ b : Addr, b ∉ (cxOf CX P w K mg base N qual scope f cd A outer s H E).ex := fun b z => absurd (show b ∈ ([] : List Addr) from z) (by simp)
  refine ⟨⟨e0.mod, S.kind, rfl, rfl, Nat.le_refl _, fun y z c h1 h2 => ?_, fun y hy => ?_, fun y c _ h => ?_, fun _ => hd, Around.frames_deeper e0.frames, .inr ⟨rfl, rfl⟩, fun b z => absurd z (noA b), e0.bs, e0.bsz, fun b _ _ => noA b, fun b z => absurd z (noA b), e0.funs, e0.frf⟩,
    rfl, e0.bare, Un.kept hk, ⟨_, x.toInCall.ns, fun i y v h1 h2 h3 => ?_⟩, fun y c h => ⟨_, x.cell y c h⟩, e0.hok.fresh (Nat.le_refl _), fun y c h => ?_, fun p hp => absurd (show p ∈ ([] : List (Addr × Obj)) from hp) (by simp), e0.hok.kept hk, ?_⟩
  · exact name_of_addr x.apart (PySem.mem_of_lookup h1) (PySem.mem_of_lookup h2)
  · have hy : scope.names.lookup y = some .cell ∨ scope.names.lookup y = some .free := hy
    rcases hy with hy | hy
    · exact cell_has hy
    · exact absurd rfl (S.nofree _ (PySem.mem_of_lookup hy))
  · exact Nat.le_of_lt (x.above y c (PySem.mem_of_lookup h))
  · have hi : i < vs.length := by
      unfold start at h2
      by_cases hi : i < vs.length
      · exact hi
      · rw [List.getElem?_append_right (by simpa using hi)] at h2
        rw [List.getElem?_replicate] at h2
        split at h2 <;> cases h2
    have ha : vs[i]? = some v := by
      unfold start at h2
      rw [List.getElem?_append_left (by simpa using hi), List.getElem?_map] at h2
      cases e : vs[i]? with
      | none => rw [e] at h2; cases h2
      | some a => rw [e] at h2; cases h2; rfl
    obtain ⟨u, hu, rv⟩ := r.get ha
    have hp : ps[i]? = some y := by
      rw [← S.pre, List.getElem?_take_of_lt (by omega)]; exact h1
    have ndP : ps.Nodup := by rw [← S.pre]; exact S.nd.sublist (List.take_sublist _ _)
    refine ⟨u, rv, ?_⟩
    rcases S.par y (List.mem_of_getElem? hp) with k | k
    · exact .inl ⟨k, bindL_get ndP hp hu k⟩
    · obtain ⟨c, e⟩ := cell_has (n := s.heap.objs.size + 1) k
      refine .inr ⟨.inl k, c, e, ?_⟩
      have q := x.cell y c e
      rw [bindC_get ndP hp hu (by show scope.names.lookup y ≠ _; rw [k]; decide)] at q
      exact q
  · exact e0.hok.fresh (Nat.le_of_lt (x.above y c (PySem.mem_of_lookup h)))
  · unfold start
    show _ = N.length
    rw [List.length_append, List.length_map, List.length_replicate]
    omega
theorem fn_of {CX : CXT} {P : Program} {w : World} {K : PySem.W.Frag} {mg : Str → Option Value} {base : Heap} {k : Nat} {f : Addr} {name qual : Str} {params : Arguments} {body : List Stmt} {scope : Scope} {dV kV doc pm cdv ct oc : Value} {an od : Option Addr}
    {osl : Array (Option Value)} {N ps : List Str} {sp : Sp} (lk : K.lookup f = some ⟨oc, od, .func (PySem.W.fnOf name qual params body scope dV kV doc pm an cdv ct), osl⟩) (hcd : PySem.W.codeIn K cdv qual = true) (S : FnScope N ps scope)
    (len : ∀ vs H Q E, sp vs H Q E → vs.length = ps.length)
    (hbody : ∀ (A : Around) (outer : List Env) (s : Shared) (H : Hp) (vs : List V) (Q : VK) (E : XK), Room k (A.deeper (envOfC qual scope s.heap.objs.size f cdv)) → sp vs H Q E →
      ∃ t, PSs (cxOf CX P w K mg base N qual scope f cdv A outer s H E) body t ∧ t { nx := fun _ H' => Q .non H', rt := Q } (start N vs) H) :
    FnOk P w K mg base CX (k + 1) f (PySem.W.fnOf name qual params body scope dV kV doc pm an cdv ct) ps sp := by
  refine ⟨len, fun A outer s H args us vs Q E hr e0 hb r hsp => ?_⟩
  have hl := len _ _ _ _ hsp
  have KX : K.In s.heap := e0.mod.kin.keeps fun b o e => (e0.bs b o e).1
  have lim : s.heap.NoLimit := e0.mod.nolimit.keeps fun b o e => (e0.bs b o e).1
  have hkind : ∀ y ∈ ps.zip us, scope.names.lookup y.1 = some .local ∨ (scope.names.lookup y.1 = some .cell ∧ ((cellsFrom (s.heap.objs.size + 1) scope.names []).lookup y.1).isSome = true) := fun ⟨n, v⟩ hy => by
    rcases S.par n (List.of_mem_zip hy).1 with q | q
    · exact .inl q
    · exact .inr ⟨q, PySem.W.cellsFrom_some _ _ _ (.inl q)⟩
  refine codeAny_call_function hr.depth (KX _ _ lk) rfl S.co S.gen rfl (PySem.W.codeRec_of KX hcd) (hb _ _ _ _ ?_)
  refine wpAny_newFunctionEnv_cells S.kind hkind fun env he s1 x => ?_
  subst he
  refine ⟨lim.keeps x.toInCall.keep, codeAny_func ?_⟩
  obtain ⟨t, ht, hq⟩ := hbody A outer s H vs Q E (hr.deeper _) hsp
  have I : Inv (cxOf CX P w K mg base N qual scope f cdv A outer s H E) [] (start N vs) H s1 := inv_start S hr.hd e0 hl r x
  refine wpAny_mono (ht [] s1 (start N vs) H _ I hq) (fun fl s' hs => ?_) fun e s' hs => hs
  have fin : ∀ {σ' : St} {H' : Hp} {v : V} {u : Value}, Inv (cxOf CX P w K mg base N qual scope f cdv A outer s H E) [] σ' H' s' → RelV v u → Q v H' → CE outer P w H s Q u s' :=
    fun {σ' H' v u} J rv q => ⟨v, H', J.os, J.bare, J.base, J.hok, rv, q⟩
  cases fl with
  | ret u =>
    obtain ⟨v, σ', H', J, rv, q⟩ := hs
    exact fin J rv q
  | next =>
    obtain ⟨σ', H', J, q⟩ := hs
    exact fin (v := V.non) (u := Value.none) J rfl q
  | brk =>
    obtain ⟨_, _, _, q⟩ := hs
    exact False.elim q
  | cont =>
    obtain ⟨_, _, _, q⟩ := hs
    exact False.elim q
end L2
namespace L2
open PySem PySem.Spec PyProof.Rows
section
variable {X : Cx} {x : Str} {p pos : Pos} {e : Expr} {es : List Expr} {t : TA} {id T : String} {r : List V → Hp → VK → Prop}
def tCB (r : List V → Hp → VK → Prop) (t : TA) : TE := fun σ H Q => t σ H fun vs H1 => r vs H1 Q
theorem pe_callB (hc : CallR X (.builtin id) r) (hg : Gl X x) (hm : X.mg x = none) (hv : bootBuiltins x = some (.builtin id)) (ha : PA X (e :: es) t) (hn : x ≠ "__name__" := by decide) (hdb : (x == ("__debug__" : Str)) = false := by decide)
    (he : starEach (e :: es) X.env = (false, eval e X.env) :: starEach es X.env := by rfl) (hpl : (backTo pos (starEach es X.env)).any (·.1) = false := by rfl) : PE X (.Call (.Name x p) (e :: es) [] pos) (tCB r t) := by
  intro pins s σ H Q I h
  refine wpAny_Call_Name_kw (ld_blt I hg hm hv ?_ hn hdb)
  exact PyProof.Rows.callWith_builtin1 (thn (ha pos pins s σ H _ I h) fun us s1 ⟨vs, H1, I1, r1, q1⟩ => hc pins s1 σ H1 vs us Q I1 r1 q1) he hpl
end
end L2
namespace HT
open PySem PyProof.Rows
def lexLt : List Int → List Int → Bool
  | [], [] => false
  | [], _ :: _ => true
  | _ :: _, [] => false
  | x :: xs, y :: ys => if x = y then lexLt xs ys else decide (x < y)
section
open PySem.SeqAt
open PySem.AutoSeq1 (wpAny_loadPart')
open PySem.MeetsSeq PySem.MeetsSeq2 PySem.MeetsSeq3
end
section
variable {prog : Program} {w : World} {A : Around} {E : Value → Shared → Prop} {s : Shared}
def sIx (n d : Nat) : Option Int → Nat
  | none => d
  | some v => if v < 0 then (v + (n : Int)).toNat else min v.toNat n
theorem sIx_nat (n d k : Nat) : sIx n d (some (k : Int)) = min k n := by
  show (if (k : Int) < 0 then ((k : Int) + (n : Int)).toNat else min (k : Int).toNat n) = min k n
  rw [if_neg (by omega), Int.toNat_natCast]
end
end HT
namespace L2
open PySem PySem.Spec PyProof.Rows
abbrev TO := St → Hp → (Option Int → Hp → Prop) → Prop
def PO (X : Cx) (e : Option Expr) (t : TO) : Prop :=
  ∀ (pins : List (Addr × Obj)) (s : Shared) (σ : St) (H : Hp) (Q : Option Int → Hp → Prop), Inv X pins σ H s → t σ H Q →
    wpAny (model X.prog X.w) X.A (evalPart e X.env) (fun u s' => ∃ o H', Inv X pins σ H' s' ∧ IsPart u o ∧ Q o H') X.xe s
def tNoPart : TO := fun _ H Q => Q none H
def tPart (t : TE) : TO := fun σ H Q => t σ H fun x H1 => ∃ i, x = .int i ∧ Q (some i) H1
section
variable {X : Cx} {e : Expr} {te : TE} {lo hi : Option Expr} {tl th : TO} {pos p2 : Pos}
theorem po_none : PO X none tNoPart := by
  intro pins s σ H Q I h
  rw [evalPart_none]
  exact wpAny_pure ⟨none, H, I, .none, h⟩
theorem po_some (h : PE X e te) : PO X (some e) (tPart te) := by
  intro pins s σ H Q I hw
  rw [evalPart_some]
  refine thn (h pins s σ H _ I hw) fun u s1 ⟨x, H1, I1, r1, q1⟩ => ?_
  obtain ⟨i, rfl, q⟩ := q1
  obtain ⟨t, rfl⟩ := r1
  exact ⟨some i, H1, I1, .int i t, q⟩
def SlR (X : Cx) (r : V → Option Int → Option Int → Hp → VK → Prop) : Prop :=
  ∀ (pins : List (Addr × Obj)) (s : Shared) (σ : St) (H : Hp) (x : V) (v vl vu : Value) (lo hi : Option Int) (sl : Addr) (Q : VK), Inv X pins σ H s → RelV x v → s.heap.IsSliceOf sl vl vu .none → IsPart vl lo → IsPart vu hi → r x lo hi H Q →
    ∃ T id, typeLookup (.type T) "__getitem__" = pure (some (.builtin id)) ∧ s.TypeIs v T ∧ wpAny (model X.prog X.w) X.A (getItem v (.ref sl)) (EP X pins σ Q) X.xe s
def tSl (r : V → Option Int → Option Int → Hp → VK → Prop) (te : TE) (tl th : TO) : TE := fun σ H Q => te σ H fun x H1 => tl σ H1 fun l H2 => th σ H2 fun u H3 => r x l u H3 Q
theorem pe_slice {r : V → Option Int → Option Int → Hp → VK → Prop} (hr : SlR X r) (he : PE X e te) (hl : PO X lo tl) (hu : PO X hi th) : PE X (.Subscript e (.Slice lo hi none p2) pos) (tSl r te tl th) := by
  intro pins s σ H Q I h
  refine Subscript_ (thn (he pins s σ H _ I h) fun v s1 ⟨x, H1, I1, r1, q1⟩ => ?_)
  refine wpAny_Slice (thn (hl pins s1 σ H1 _ I1 q1) fun vl s2 ⟨l, H2, I2, pl, q2⟩ => thn (hu pins s2 σ H2 _ I2 q2) fun vu s3 ⟨u, H3, I3, pu, q3⟩ => ?_)
  rw [evalPart_none]
  refine wpAny_pure ?_
  have I4 : Inv X pins σ H3 { s3 with heap := s3.heap.push { cls := .type "slice", data := .fields #[vl, vu, .none] } } := I3.kept (t' := s3.toks) fun b ob q => Heap.get?_push_of_some _ q
  obtain ⟨T, id, hT, ht, hg⟩ := hr pins { s3 with heap := s3.heap.push { cls := .type "slice", data := .fields #[vl, vu, .none] } } σ H3 x v vl vu l u s3.heap.objs.size Q I4 r1 (Heap.IsSliceOf.new ..) pl pu q3
  show wpAny (model X.prog X.w) X.A (subscriptTail e (.Slice lo hi none p2) v (.ref s3.heap.objs.size)) (EP X pins σ Q) X.xe { s3 with heap := s3.heap.push { cls := .type "slice", data := .fields #[vl, vu, .none] } }
  exact tail_any (ops := [.ref s3.heap.objs.size, v]) ht hT hg (by with_unfolding_all rfl)
def cutV (xs : List V) (lo hi : Option Int) : List V := (xs.drop (HT.sIx xs.length 0 lo)).take (HT.sIx xs.length xs.length hi - HT.sIx xs.length 0 lo)
theorem cutV_length (xs : List V) (lo hi : Option Int) : (cutV xs lo hi).length ≤ xs.length := by
  unfold cutV
  rw [List.length_take, List.length_drop]
  omega
def rSlT (K : PySem.W.Frag) : V → Option Int → Option Int → Hp → VK → Prop := fun x lo hi H Q => ∃ a xs, x = .ref a ∧ SqT K H a xs ∧
  ¬ (HT.sIx xs.length 0 lo = 0 ∧ HT.sIx xs.length xs.length hi = xs.length) ∧ ∀ p, H p = none → Q (.ref p) (upd H p (.tup (cutV xs lo hi)))
def rLtT (K : PySem.W.Frag) : R2 := fun x y H Q => ∃ a b ns ms, x = .ref a ∧ y = .ref b ∧ SqT K H a (ns.map V.int) ∧ SqT K H b (ms.map V.int) ∧ Q (.bl (HT.lexLt ns ms)) H
def rCatT (K : PySem.W.Frag) : R2 := fun x y H Q => ∃ a b xs ys, x = .ref a ∧ y = .ref b ∧ SqT K H a xs ∧ SqT K H b ys ∧ xs ≠ [] ∧ xs.length + ys.length ≤ sizeLine ∧
  (ys = [] → Q (.ref a) H) ∧ (ys ≠ [] → ∀ p, H p = none → Q (.ref p) (upd H p (.tup (xs ++ ys))))
end
end L2
namespace L2
open PySem PySem.Spec PyProof.Rows
def ixN (n : Nat) (i : Int) : Option Nat := if 0 ≤ i then (if i < n then some i.toNat else none) else if -(n : Int) ≤ i then some (i + n).toNat else none
def atI {α : Type} (xs : List α) (i : Int) : Option α := (ixN xs.length i).bind fun j => xs[j]?
theorem ixN_seq {n : Nat} {i : Int} {j : Nat} (h : ixN n i = some j) : seqIndex? i n = some j ∧ j < n ∧ -(n : Int) ≤ i ∧ i < n := by
  unfold ixN at h
  by_cases h0 : 0 ≤ i
  · rw [if_pos h0] at h
    by_cases h1 : i < n
    · rw [if_pos h1] at h
      have e : i.toNat = j := Option.some.inj h
      exact ⟨by rw [seqIndex_of h0 h1, e], by omega, by omega, h1⟩
    · rw [if_neg h1] at h; cases h
  · rw [if_neg h0] at h
    by_cases h1 : -(n : Int) ≤ i
    · rw [if_pos h1] at h
      have e : (i + n).toNat = j := Option.some.inj h
      exact ⟨by rw [seqIndex_neg (by omega) h1, e], by omega, h1, by omega⟩
    · rw [if_neg h1] at h; cases h
theorem atI_get {α : Type} {xs : List α} {i : Int} {v : α} (h : atI xs i = some v) : ∃ j, seqIndex? i xs.length = some j ∧ xs[j]? = some v ∧ j < xs.length ∧ -(xs.length : Int) ≤ i ∧ i < xs.length := by
  unfold atI at h
  cases e : ixN xs.length i with
  | none => rw [e] at h; cases h
  | some j =>
    rw [e] at h
    obtain ⟨h1, h2, h3, h4⟩ := ixN_seq e
    exact ⟨j, h1, h, h2, h3, h4⟩
theorem atI_nat {α : Type} {xs : List α} {j : Nat} {v : α} (h : xs[j]? = some v) : atI xs (j : Int) = some v := by
  have hj : j < xs.length := (List.getElem?_eq_some_iff.mp h).1
  have e : ixN xs.length (j : Int) = some j := by
    unfold ixN
    rw [if_pos (by omega), if_pos (by omega)]; simp
  unfold atI; rw [e]; exact h
def PlainIx (b : Expr) : Prop := ∀ o i, subscripted b false o i = operate [o, i] (getItem o i)
def IxR (X : Cx) (r : R2) : Prop :=
  ∀ (value slice : Expr) (pins : List (Addr × Obj)) (s : Shared) (σ : St) (H : Hp) (x y : V) (v u : Value) (Q : VK), Inv X pins σ H s → RelV x v → RelV y u → r x y H Q →
    subscripted slice false v u = operate [v, u] (getItem v u) → wpAny (model X.prog X.w) X.A (subscriptTail value slice v u) (EP X pins σ Q) X.xe s
def MtR (X : Cx) (id : String) (r : V → List V → Hp → VK → Prop) : Prop :=
  ∀ (pins : List (Addr × Obj)) (s : Shared) (σ : St) (H : Hp) (x : V) (xs : List V) (v : Value) (us : List Value) (Q : VK), Inv X pins σ H s → RelV x v → Vals xs us → r x xs H Q →
    wpAny (model X.prog X.w) X.A (call (.builtin id) (v :: us)) (EP X pins σ Q) X.xe s
section
variable {X : Cx} {a b : Expr} {ta tb : TE} {pos : Pos}
theorem pe_ix {r : R2} (hr : IxR X r) (ha : PE X a ta) (hb : PE X b tb) (hs : PlainIx b) : PE X (.Subscript a b pos) (tOp r ta tb) := by
  intro pins s σ H Q I h
  exact Subscript_ (binT ha hb I h fun v u s2 x y H2 I2 rx ry q => hr a b pins s2 σ H2 x y v u Q I2 rx ry q (hs _ _))
def rIxL (K : PySem.W.Frag) : R2 := fun x y H Q => ∃ p xs i v, x = .ref p ∧ y = .int i ∧ SqL K H p xs ∧ atI xs i = some v ∧ Q v H
def rIxT (K : PySem.W.Frag) : R2 := fun x y H Q => ∃ p xs i v, x = .ref p ∧ y = .int i ∧ SqT K H p xs ∧ atI xs i = some v ∧ Q v H
def rIxS : R2 := fun x y H Q => ∃ z i c, x = .str z ∧ y = .int i ∧ z.length ≤ sizeLine ∧ atI z.cps.toList i = some c ∧ Q (.str ⟨#[c]⟩) H
theorem ix_list : IxR X (rIxL X.K) := by
  intro value slice pins s σ H x y v u Q I rx ry h hs
  obtain ⟨p, xs, i, z, rfl, rfl, hq, he, q⟩ := h
  cases rx
  obtain ⟨t, rfl⟩ := ry
  obtain ⟨its, r, pl, hz⟩ := I.list hq
  obtain ⟨j, h1, h2, h3, h4, h5⟩ := atI_get he
  obtain ⟨w, ew, rw'⟩ := r.get h2
  have hl := r.length
  have hn := line63
  have fin : EP X pins σ Q w s := ⟨z, H, I, rw', q⟩
  by_cases h0 : 0 ≤ i
  · have hj : i.toNat = j := by
      rw [seqIndex_of h0 h5] at h1
      exact Option.some.inj h1
    exact item_listR pl.isList h0 (by omega) (by rw [hj]; simpa using ew) fin hs
  · have hj : (i + (its.toArray.size : Int)).toNat = j := by
      rw [seqIndex_neg (by omega) h4] at h1
      rw [List.size_toArray, ← hl]
      exact Option.some.inj h1
    exact subscriptTail_builtinR (x := w) pl.isList.typeIs slot_list_getitem.lookup
      (wpAny_getItem_list_neg (Q := fun r s' => r = w ∧ EP X pins σ Q r s') pl.isList (by omega) (by rw [List.size_toArray] <;> omega) (by omega) (by rw [hj]; simpa using ew) ⟨rfl, fin⟩) hs
theorem ix_tup : IxR X (rIxT X.K) := by
  intro value slice pins s σ H x y v u Q I rx ry h hs
  obtain ⟨p, xs, i, z, rfl, rfl, hq, he, q⟩ := h
  cases rx
  obtain ⟨t, rfl⟩ := ry
  obtain ⟨its, r, pl, hz⟩ := I.tuple hq
  obtain ⟨j, h1, h2, h3, h4, h5⟩ := atI_get he
  obtain ⟨w, ew, rw'⟩ := r.get h2
  have hl := r.length
  have hn := line63
  have fin : EP X pins σ Q w s := ⟨z, H, I, rw', q⟩
  exact subscriptTail_builtinR (x := w) pl.typeIs slot_tuple_getitem.lookup
    (getItem_tuple (j := j) (Q := fun r s' => r = w ∧ EP X pins σ Q r s') pl (by omega) (by omega) (by rw [List.size_toArray, ← hl]; exact h1) (by simpa using ew) ⟨rfl, fin⟩) hs
def rIx (K : PySem.W.Frag) : R2 := fun x y H Q => rIxL K x y H Q ∨ rIxT K x y H Q ∨ rIxS x y H Q
def rSetL : V → V → V → Hp → (Hp → Prop) → Prop := fun o i v H Q => ∃ p xs k j, o = .ref p ∧ i = .int k ∧ H p = some (.lst xs) ∧ ixN xs.length k = some j ∧ Q (upd H p (.lst (xs.set j v)))
theorem slice_bounds (lo hi : Option Int) (n : Nat) : (sliceBounds lo hi none n).1 = ((HT.sIx n 0 lo : Nat) : Int) ∧ (sliceBounds lo hi none n).2.1 = ((HT.sIx n n hi : Nat) : Int) ∧ (sliceBounds lo hi none n).2.2 = 1 := by
  refine ⟨?_, ?_, rfl⟩
  · cases lo with
    | none => simp [sliceBounds, HT.sIx]
    | some i =>
      simp only [sliceBounds, HT.sIx, Option.getD_none, show (1 : Int) > 0 by decide, if_true]
      by_cases h : i < 0
      · simp only [h, if_true] <;> omega
      · simp only [h, if_false] <;> omega
  · cases hi with
    | none => simp [sliceBounds, HT.sIx]
    | some i =>
      simp only [sliceBounds, HT.sIx, Option.getD_none, show (1 : Int) > 0 by decide, if_true]
      by_cases h : i < 0
      · simp only [h, if_true] <;> omega
      · simp only [h, if_false] <;> omega
theorem slicePick_cut (its : List Value) (lo hi : Option Int) : slicePick its.toArray lo hi none = ((its.drop (HT.sIx its.length 0 lo)).take (HT.sIx its.length its.length hi - HT.sIx its.length 0 lo)).toArray := by
  obtain ⟨h1, h2, h3⟩ := slice_bounds lo hi its.toArray.size
  unfold slicePick
  rw [h1, h2, h3]
  simp only [sliceRange_one, pick_run, List.size_toArray] <;> rfl
def rSlL (K : PySem.W.Frag) : V → Option Int → Option Int → Hp → VK → Prop := fun x lo hi H Q => ∃ a xs, x = .ref a ∧ SqL K H a xs ∧ ∀ p, H p = none → Q (.ref p) (upd H p (.lst (cutV xs lo hi)))
theorem sl_list : SlR X (rSlL X.K) := by
  intro pins s σ H x v vl vu lo hi sl Q I rx hs pl pu h
  obtain ⟨a, xs, rfl, hx, q⟩ := h
  cases rx
  obtain ⟨its, r, ht, hz⟩ := I.list hx
  have hlen := r.length
  refine ⟨"list", _, slot_list_getitem.lookup, ht.isList.typeIs, ?_⟩
  refine wpAny_getItem_list_slice ht.isList hs pl pu .none (by simp) ?_ (by rw [List.size_toArray] <;> omega)
  rw [slicePick_cut, ← hlen]
  refine ⟨.ref s.heap.objs.size, _, I.laid (t' := s.toks) (o := .lst (cutV xs lo hi)) (fun b ob q => Heap.get?_push_of_some _ q) (Nat.le_refl _) ?_, rfl, q _ (I.hok.fresh (Nat.le_refl _))⟩
  exact ⟨Nat.le_trans (cutV_length xs lo hi) hz, _, 0, (r.drop (HT.sIx xs.length 0 lo)).take (HT.sIx xs.length xs.length hi - HT.sIx xs.length 0 lo), Heap.get?_push_size _ rfl⟩
def flatV : V → Bool
  | .non => true
  | .bl _ => true
  | .int _ => true
  | .str _ => true
  | _ => false
def eqV : V → V → Bool
  | .non, .non => true
  | .bl a, .bl b => a == b
  | .bl a, .int b => (if a then 1 else 0) == b
  | .int a, .bl b => a == (if b then 1 else 0)
  | .int a, .int b => a == b
  | .str a, .str b => a == b
  | _, _ => false
theorem eqAt_V {A : Around} {s : Shared} {y x : V} {u v : Value} (ry : RelV y u) (rx : RelV x v) (fy : flatV y = true) (fx : flatV x = true) : SeqAt.EqAt A s u v (eqV y x) := by
  cases y with
  | non =>
    cases ry
    cases x with
    | non => cases rx; exact SeqAt.EqAt.same _
    | bl b => cases rx; exact SeqAt.EqAt.none_bool b
    | int b => obtain ⟨t, rfl⟩ := rx; exact SeqAt.EqAt.none_int b t
    | str b => obtain ⟨t, rfl⟩ := rx; exact SeqAt.EqAt.none_str b t
    | _ => exact absurd (show false = true from fx) Bool.false_ne_true
  | bl a =>
    cases ry
    cases x with
    | non => cases rx; exact SeqAt.EqAt.bool_none a
    | bl b => cases rx; exact SeqAt.EqAt.bool_bool a b
    | int b => obtain ⟨t, rfl⟩ := rx; exact SeqAt.EqAt.bool_int a b t
    | str b => obtain ⟨t, rfl⟩ := rx; exact SeqAt.EqAt.bool_str a b t
    | _ => exact absurd (show false = true from fx) Bool.false_ne_true
  | int a =>
    obtain ⟨t', rfl⟩ := ry
    cases x with
    | non => cases rx; exact SeqAt.EqAt.int_none a t'
    | bl b => cases rx; exact SeqAt.EqAt.int_bool a t' b
    | int b => obtain ⟨t, rfl⟩ := rx; exact SeqAt.EqAt.int_int a t' b t
    | str b => obtain ⟨t, rfl⟩ := rx; exact SeqAt.EqAt.int_str a t' b t
    | _ => exact absurd (show false = true from fx) Bool.false_ne_true
  | str a =>
    obtain ⟨t', rfl⟩ := ry
    cases x with
    | non => cases rx; exact SeqAt.EqAt.str_none a t'
    | bl b => cases rx; exact SeqAt.EqAt.str_bool a t' b
    | int b => obtain ⟨t, rfl⟩ := rx; exact SeqAt.EqAt.str_int a t' b t
    | str b => obtain ⟨t, rfl⟩ := rx; exact SeqAt.EqAt.str_str a t' b t
    | _ => exact absurd (show false = true from fx) Bool.false_ne_true
  | _ => exact absurd (show false = true from fy) Bool.false_ne_true
def eqU (x : V) (u : Value) : Bool := match u with
  | .none => eqV .non x
  | .bool b => eqV (.bl b) x
  | .int i _ => eqV (.int i) x
  | .str z _ => eqV (.str z) x
  | _ => false
theorem eqU_of {x y : V} {u : Value} (r : RelV y u) (f : flatV y = true) : eqU x u = eqV y x := by
  cases y with
  | non => cases r; rfl
  | bl b => cases r; rfl
  | int i => obtain ⟨t, rfl⟩ := r; rfl
  | str z => obtain ⟨t, rfl⟩ := r; rfl
  | _ => exact absurd (show false = true from f) Bool.false_ne_true
theorem any_eqU {x : V} : ∀ {xs : List V} {us : List Value}, Vals xs us → xs.all flatV = true → us.any (eqU x) = xs.any fun y => eqV y x
  | _, _, .nil, _ => rfl
  | y :: xs, u :: us, .cons r t, f => by
    rw [List.all_cons, Bool.and_eq_true] at f
    rw [List.any_cons, List.any_cons, eqU_of r f.1, any_eqU t f.2]
theorem mem_eqAt {A : Around} {s : Shared} {x : V} {v : Value} (rx : RelV x v) (fx : flatV x = true) : ∀ {xs : List V} {us : List Value}, Vals xs us → xs.all flatV = true → ∀ u ∈ us, SeqAt.EqAt A s u v (eqU x u)
  | _, _, .nil, _ => fun u hu => by cases hu
  | y :: xs, u :: us, .cons r t, f => fun u' hu => by
    rw [List.all_cons, Bool.and_eq_true] at f
    rcases List.mem_cons.mp hu with rfl | hu
    · rw [eqU_of r f.1]; exact eqAt_V r rx f.1 fx
    · exact mem_eqAt rx fx t f.2 u' hu
def inV (x : V) (xs : List V) : Bool := xs.any fun y => eqV y x
def rIn (K : PySem.W.Frag) (neg : Bool) : R2 := fun x y H Q => ∃ p xs, y = .ref p ∧ (SqL K H p xs ∨ SqT K H p xs) ∧ flatV x = true ∧ xs.all flatV = true ∧ Q (.bl (if neg then !inV x xs else inV x xs)) H
theorem op_in_seq : OpR X (compareOp .In) (rIn X.K false) := by
  intro pins s σ H x y v u Q I rx ry h
  obtain ⟨p, xs, rfl, hq, fx, fs, q⟩ := h
  cases ry
  rcases hq with hq | hq
  · obtain ⟨its, r, pl, hz⟩ := I.list hq
    refine SeqAt.in_listAt (eqU x) pl.isList (fun w hw => mem_eqAt rx fx r fs w (by simpa using hw)) ⟨.bl _, H, I, rfl, ?_⟩
    rw [show its.toArray.any (eqU x) = its.any (eqU x) by simp, any_eqU r fs]
    exact q
  · obtain ⟨its, r, pl, hz⟩ := I.tuple hq
    refine SeqAt.in_tupleAt (eqU x) pl (fun w hw => mem_eqAt rx fx r fs w (by simpa using hw)) ⟨.bl _, H, I, rfl, ?_⟩
    rw [show its.toArray.any (eqU x) = its.any (eqU x) by simp, any_eqU r fs]
    exact q
theorem op_notIn_seq : OpR X (compareOp .NotIn) (rIn X.K true) := by
  intro pins s σ H x y v u Q I rx ry h
  obtain ⟨p, xs, rfl, hq, fx, fs, q⟩ := h
  cases ry
  rcases hq with hq | hq
  · obtain ⟨its, r, pl, hz⟩ := I.list hq
    refine SeqAt.notIn_listAt (eqU x) pl.isList (fun w hw => mem_eqAt rx fx r fs w (by simpa using hw)) ⟨.bl _, H, I, rfl, ?_⟩
    rw [show its.toArray.any (eqU x) = its.any (eqU x) by simp, any_eqU r fs]
    exact q
  · obtain ⟨its, r, pl, hz⟩ := I.tuple hq
    refine SeqAt.notIn_tupleAt (eqU x) pl (fun w hw => mem_eqAt rx fx r fs w (by simpa using hw)) ⟨.bl _, H, I, rfl, ?_⟩
    rw [show its.toArray.any (eqU x) = its.any (eqU x) by simp, any_eqU r fs]
    exact q
theorem call_len_seq : CallR X (.builtin "len") (fun xs H Q => ∃ p ys, xs = [.ref p] ∧ (SqL X.K H p ys ∨ SqT X.K H p ys) ∧ Q (.int ys.length) H) := by
  intro pins s σ H xs us Q I r h
  obtain ⟨p, ys, rfl, hq, q⟩ := h
  obtain ⟨u, rfl, rx⟩ := vals1 r
  cases rx
  have hn := line63
  rcases hq with hq | hq
  · obtain ⟨its, r', pl, hz⟩ := I.list hq
    have hlen := r'.length
    exact Calls.call_len_list pl.isList (by simp only [List.size_toArray] <;> omega) ⟨.int ys.length, H, I.tok _, ⟨s.toks + 1, by rw [List.size_toArray, hlen]⟩, q⟩
  · obtain ⟨its, r', pl, hz⟩ := I.tuple hq
    have hlen := r'.length
    exact len_tuple pl (by simp only [List.size_toArray] <;> omega) ⟨.int ys.length, H, I.tok _, ⟨s.toks + 1, by rw [List.size_toArray, hlen]⟩, q⟩
theorem call_len_str : CallR X (.builtin "len") (fun xs H Q => ∃ z, xs = [.str z] ∧ z.length ≤ sizeLine ∧ Q (.int z.length) H) := by
  intro pins s σ H xs us Q I r h
  obtain ⟨z, rfl, hz, q⟩ := h
  obtain ⟨u, rfl, t, rfl⟩ := vals1 r
  have hn := line63
  exact len_str (by omega) ⟨.int z.length, H, I.tok _, ⟨_, rfl⟩, q⟩
def tyV (K : PySem.W.Frag) (T : String) (x : V) (H : Hp) : Prop := match x with
  | .str _ => T = "str"
  | .int _ => T = "int"
  | .ref p => (T = "list" ∧ ∃ xs, SqL K H p xs) ∨ (T = "tuple" ∧ ∃ o, K.lookup p = some o ∧ o.cls = .type "tuple" ∧ o.dict = none) ∨
      (T = "dict" ∧ ((∃ kvs, H p = some (.dK kvs)) ∨ ∃ kvs, H p = some (.dT kvs))) ∨ (T = "set" ∧ ∃ S n, H p = some (.set S n))
  | _ => False
theorem tyV_is {pins : List (Addr × Obj)} {σ : St} {H : Hp} {s : Shared} {T : String} {x : V} {v : Value} (I : Inv X pins σ H s) (r : RelV x v) (ty : tyV X.K T x H) :
    s.TypeIs v T ∧ ∀ a, v = .ref a → ∃ ob, s.heap.get? a = some ob ∧ ob.dict = none := by
  cases x with
  | str z =>
    obtain ⟨t, rfl⟩ := r
    cases (show T = "str" from ty)
    exact ⟨typeIs_str s z t, fun _ e => nomatch e⟩
  | int i =>
    obtain ⟨t, rfl⟩ := r
    cases (show T = "int" from ty)
    exact ⟨typeIs_int s i t, fun _ e => nomatch e⟩
  | ref p =>
    cases r
    rcases ty with ⟨rfl, xs, hq⟩ | ⟨rfl, o, hk, hc, hd⟩ | ⟨rfl, hk⟩ | ⟨rfl, S, n, hk⟩
    · obtain ⟨its, _, pl, _⟩ := I.list hq
      refine ⟨pl.isList.typeIs, fun a e => ?_⟩
      cases e
      obtain ⟨o, n, e, c, hd, _⟩ := pl
      exact ⟨o, e, hd⟩
    · refine ⟨⟨o, I.kIn p o hk, hc⟩, fun a e => ?_⟩
      cases e
      exact ⟨o, I.kIn _ o hk, hd⟩
    · have z : ∃ o, s.heap.get? p = some o ∧ o.ExactDict := by
        rcases hk with ⟨kvs, hk⟩ | ⟨kvs, hk⟩
        · obtain ⟨_, _, _, _, o, _, _, e, ex, _⟩ := I.hok p _ hk
          exact ⟨o, e, ex⟩
        · obtain ⟨_, _, _, _, o, _, _, e, ex, _⟩ := I.hok p _ hk
          exact ⟨o, e, ex⟩
      obtain ⟨o, e, ex⟩ := z
      refine ⟨⟨o, e, ex.1⟩, fun a e2 => ?_⟩
      cases e2
      exact ⟨o, e, ex.2.1⟩
    · obtain ⟨o, _, _, _, e, ex, _⟩ := I.hok p _ hk
      refine ⟨⟨o, e, ex.1⟩, fun a e2 => ?_⟩
      cases e2
      exact ⟨o, e, ex.2.1⟩
  | _ => exact False.elim ty
def tBM0 (K : PySem.W.Frag) (T : String) (r : V → List V → Hp → VK → Prop) (to : TE) : TE := fun σ H Q => to σ H fun x H1 => tyV K T x H1 ∧ r x [] H1 Q
def tBM (K : PySem.W.Frag) (T : String) (r : V → List V → Hp → VK → Prop) (to : TE) (t : TA) : TE := fun σ H Q => to σ H fun x H1 => tyV K T x H1 ∧ t σ H1 fun xs H2 => r x xs H2 Q
variable {o e : Expr} {es : List Expr} {to : TE} {t : TA} {name : Str} {apos cpos : Pos} {T id : String} {r : V → List V → Hp → VK → Prop}
theorem pe_bm (pa : PlainAttrs T) (slot : Slot T name id) (hty : typeOf (.builtin id) = pure (.type "method_descriptor")) (hm : MtR X id r) (ho : PE X o to) (ha : PA X (e :: es) t)
    (hbase : attributeBase o name X.env (eval o X.env) = eval o X.env := by rfl)
    (hfew : ((backTo cpos (starEach (e :: es) X.env)).all (fun x => !x.1) && (backToKw cpos (keywordEach [] X.env)).all (fun x => x.1.isSome)
      && decide ((e :: es).length + ([] : List Keyword).length + (if ([] : List Keyword).isEmpty then 0 else 1) < 30)) = true := by rfl)
    (hline : (apos.endLine == cpos.line) = true := by rfl) (hs : starEach (e :: es) X.env = (false, eval e X.env) :: starEach es X.env := by rfl) (hplain : (backTo cpos (starEach es X.env)).any (·.1) = false := by rfl) :
    PE X (.Call (.Attribute o name apos) (e :: es) [] cpos) (tBM X.K T r to t) := by
  intro pins s σ H Q I h
  refine wpAny_Call_method_late hbase hfew hline rfl (thn (ho pins s σ H _ I h) fun v s1 ⟨x, H1, I1, r1, ty, q1⟩ => ?_)
  obtain ⟨h1, h2⟩ := tyV_is I1 r1 ty
  refine ⟨T, id, pa, slot, hty, h1, h2, ?_⟩
  have hA := ha cpos pins s1 σ H1 _ I1 q1
  rw [hs] at hA ⊢
  refine Calls.callWith_builtin (by show (false || (backTo cpos (starEach es X.env)).any (·.1)) = false; rw [hplain] <;> rfl) (Calls.evalArgs_plain ?_)
  exact thn hA fun us s2 ⟨vs, H2, I2, r2, q2⟩ => hm pins s2 σ H2 x vs v us Q I2 r1 r2 q2
end
end L2
namespace L2
open PySem PySem.Spec PyProof.Rows
def MtM (X : Cx) (id : String) (r : V → List V → Hp → VK → Prop) : Prop :=
  ∀ (pins : List (Addr × Obj)) (s : Shared) (σ : St) (H : Hp) (x : V) (xs : List V) (v : Value) (us : List Value) (Q : VK), Inv X pins σ H s → RelV x v → Vals xs us → r x xs H Q →
    wpAny (model X.prog X.w) X.A (call (.builtin id) (v :: us)) (EP X pins σ Q) X.xe s
theorem Vals.one : ∀ {x : V} {us : List Value}, Vals [x] us → ∃ u, us = [u] ∧ RelV x u
  | _, _, .cons r .nil => ⟨_, rfl, r⟩
section
variable {X : Cx} {pins : List (Addr × Obj)} {σ : St} {H : Hp} {s : Shared} {l b : Addr} {xs ys zs : List V}
theorem Inv.lset {its its' : List Value} {n : Nat} {f : Array Value → Array Value} {t' : Nat} (I : Inv X pins σ H s) (hH : H l = some (.lst xs))
    (e : s.heap.get? l = some { cls := .type "list", data := .seq its.toArray n }) (hf : f its.toArray = its'.toArray) (hv : Vals ys its') (hz : ys.length ≤ sizeLine) :
    Inv X pins σ (upd H l (.lst ys)) { s with heap := s.heap.update l (Obj.mapSeq f), toks := t' } := by
  have q := PySem.IsL.update e f
  rw [hf] at q
  refine I.write (x := l) (e := l) (by rw [hH]; exact trivial) (.inl rfl) (fun b' u hb hu => (Heap.get?_update_other s.heap (Obj.mapSeq f) (Ne.symm hb)).trans hu) ⟨_, q⟩ ?_
  exact ⟨hz, its', _, hv, q⟩
theorem Inv.lnew {its : List Value} {t' : Nat} (I : Inv X pins σ H s) (hv : Vals ys its) (hz : ys.length ≤ sizeLine) :
    Inv X pins σ (upd H s.heap.objs.size (.lst ys)) { s with heap := s.heap.push { cls := .type "list", data := .seq its.toArray }, toks := t' } :=
  I.laid (fun _ _ q => Heap.get?_push_of_some _ q) (Nat.le_refl _) ⟨hz, its, 0, hv, Heap.get?_push_size _ rfl⟩
theorem Inv.fresh (I : Inv X pins σ H s) : H s.heap.objs.size = none := I.hok.fresh (Nat.le_refl _)
theorem Inv.lstM (I : Inv X pins σ H s) (hH : H l = some (.lst xs)) : xs.length ≤ sizeLine ∧ ∃ (its : List Value) (n : Nat), Vals xs its ∧ xs.length = its.length ∧ s.heap.get? l = some { cls := .type "list", data := .seq its.toArray n } := by
  obtain ⟨z, its, n, r, e⟩ := I.hok l _ hH
  exact ⟨z, its, n, r, r.length, e⟩
theorem notLongL {n : Nat} (h : n ≤ sizeLine) : Builtin.List.listTooLong n = false := by
  unfold Builtin.List.listTooLong
  exact decide_eq_false (by omega)
end
section
variable {X : Cx}
def rAppend : V → List V → Hp → VK → Prop := fun x vs H Q => ∃ l xs y, x = .ref l ∧ vs = [y] ∧ H l = some (.lst xs) ∧ xs.length < sizeLine ∧ Q .non (upd H l (.lst (xs ++ [y])))
theorem mt_append : MtM X "list.append" rAppend := by
  intro pins s σ H x vs v us Q I rx rv h
  obtain ⟨l, xs, y, rfl, rfl, hH, hz, q⟩ := h
  cases rx
  obtain ⟨u, rfl, ru⟩ := rv.one
  obtain ⟨z, its, n, r, hl, e⟩ := I.lstM hH
  refine call_meets F.slot_list_append ⟨_, e, rfl⟩ F.entry_list_append (F.args_list_append_2 _ _) (PySem.list_append l its.toArray n u (by rw [List.size_toArray]; omega)) ⟨e, ?_⟩
  refine ⟨.non, _, I.lset (its' := its ++ [u]) hH e (by simp) (r.append (.cons ru .nil)) ?_, rfl, q⟩
  rw [List.length_append, List.length_singleton]
  omega
def rExtend : V → List V → Hp → VK → Prop := fun x vs H Q => ∃ l b xs zs, x = .ref l ∧ vs = [.ref b] ∧ H l = some (.lst xs) ∧ H b = some (.lst zs) ∧ xs.length + zs.length ≤ sizeLine ∧ Q .non (upd H l (.lst (xs ++ zs)))
theorem mt_extend : MtM X "list.extend" rExtend := by
  intro pins s σ H x vs v us Q I rx rv h
  obtain ⟨l, b, xs, zs, rfl, rfl, hH, hB, hz, q⟩ := h
  cases rx
  obtain ⟨u, rfl, ru⟩ := rv.one
  cases ru
  obtain ⟨z, its, n, r, hl, e⟩ := I.lstM hH
  obtain ⟨z2, its2, n2, r2, hl2, e2⟩ := I.lstM hB
  have hsz : its.toArray.size + its2.toArray.size ≤ sizeLine := by rw [List.size_toArray, List.size_toArray]; omega
  have hlong : ¬ (!its.toArray.isEmpty && Builtin.List.listTooLong (its.toArray.size + its2.toArray.size)) = true := by
    rw [notLongL hsz, Bool.and_false]
    exact Bool.false_ne_true
  refine call_meets F.slot_list_extend ⟨_, e, rfl⟩ F.entry_list_extend (F.args_list_extend_2 _ _)
    (AutoSeq1.list_extend_list_list_0 l its.toArray n b its2.toArray n2 hlong (by rw [List.size_toArray]; omega) (by omega)) ⟨e, e2, ?_⟩
  refine ⟨.non, _, I.lset (its' := its ++ its2) hH e (by simp) (r.append r2) ?_, rfl, q⟩
  rw [List.length_append]
  omega
def rPop : V → List V → Hp → VK → Prop := fun x vs H Q => ∃ l xs y, x = .ref l ∧ vs = [] ∧ H l = some (.lst xs) ∧ xs[xs.length - 1]? = some y ∧ Q y (upd H l (.lst xs.dropLast))
def rPopAt : V → List V → Hp → VK → Prop := fun x vs H Q => ∃ l xs i k y, x = .ref l ∧ vs = [.int i] ∧ H l = some (.lst xs) ∧ -(2 ^ 63) ≤ i ∧ i < 2 ^ 63 ∧ seqIndex? i xs.length = some k ∧ xs[k]? = some y ∧ Q y (upd H l (.lst (xs.eraseIdx k)))
def rReverse : V → List V → Hp → VK → Prop := fun x vs H Q => ∃ l xs, x = .ref l ∧ vs = [] ∧ H l = some (.lst xs) ∧ Q .non (upd H l (.lst xs.reverse))
def rClear : V → List V → Hp → VK → Prop := fun x vs H Q => ∃ l xs, x = .ref l ∧ vs = [] ∧ H l = some (.lst xs) ∧ Q .non (upd H l (.lst []))
def rCat : R2 := fun x y H Q => ∃ l b xs zs, x = .ref l ∧ y = .ref b ∧ H l = some (.lst xs) ∧ H b = some (.lst zs) ∧ xs.length + zs.length ≤ sizeLine ∧ ∀ p, H p = none → Q (.ref p) (upd H p (.lst (xs ++ zs)))
theorem op_cat : OpR X (binaryOp .Add) rCat := by
  intro pins s σ H x y v u Q I rx ry h
  obtain ⟨l, b, xs, zs, rfl, rfl, hH, hB, hz, q⟩ := h
  cases rx
  cases ry
  obtain ⟨z, its, n, r, hl, e⟩ := I.lstM hH
  obtain ⟨z2, its2, n2, r2, hl2, e2⟩ := I.lstM hB
  refine PySem.P.add_list e e2 ?_ (by rw [List.size_toArray, List.size_toArray]; omega)
  have ea : its.toArray ++ its2.toArray = (its ++ its2).toArray := by simp
  rw [ea]
  exact ⟨.ref _, _, I.lnew (t' := s.toks) (r.append r2) (by rw [List.length_append]; omega), rfl, q _ I.fresh⟩
def rRep : R2 := fun x y H Q => ∃ l k xs, x = .ref l ∧ y = .int k ∧ H l = some (.lst xs) ∧ -(2 ^ 63) ≤ k ∧ k < 2 ^ 63 ∧ xs.length * k.toNat ≤ sizeLine ∧
  ∀ p, H p = none → Q (.ref p) (upd H p (.lst (List.replicate k.toNat xs).flatten))
end
section
variable {prog : Program} {w : World} {A : Around} {E : Value → Shared → Prop} {s : Shared}
end
section
variable {X : Cx}
end
end L2
namespace L2
open PySem PySem.Spec PyProof.Rows
theorem Vals.ints : ∀ {ns : List Int} {us : List Value}, Vals (ns.map V.int) us → IntsAre us ns
  | [], us, h => by
    rw [List.map_nil] at h
    cases h
    exact IntsAre.nil
  | n :: ns, us, h => by
    rw [List.map_cons] at h
    cases h with
    | cons r t =>
      obtain ⟨k, rfl⟩ := r
      exact IntsAre.cons n k (Vals.ints t)
theorem Vals.bls : ∀ {bs : List Bool} {us : List Value}, Vals (bs.map V.bl) us → us = bs.map Value.bool
  | [], us, h => by
    rw [List.map_nil] at h
    cases h
    rfl
  | b :: bs, us, h => by
    rw [List.map_cons] at h
    cases h with
    | cons r t =>
      cases r
      rw [Vals.bls t, List.map_cons]
theorem Vals.ref1 {a : Addr} {us : List Value} (r : Vals [V.ref a] us) : us = [Value.ref a] := by
  cases r with
  | cons r t =>
    cases t
    cases r
    rfl
section
variable {prog : Program} {w : World} {A : Around} {E : Value → Shared → Prop} {s : Shared} {l : Addr} {its : List Value} {ns : List Int} {Q : Value → Shared → Prop}
theorem sum_raw (hh : A.handled = none) (hl : s.heap.IsList l its.toArray) (hi : IntsAre its ns)
    (h : ∀ h' tk t', (∀ b o, s.heap.get? b = some o → h'.get? b = some o) → Q (.int ns.sum t') { s with heap := h', toks := tk }) : wpAny (model prog w) A (call (.builtin "sum") [.ref l]) Q E s := by
  obtain ⟨xs, e⟩ := hi.allInts.items
  have hn : numsOf (intItems xs).toList = ns := by rw [← e]; exact hi.numsOf
  rw [nums_intItems] at hn
  rw [e] at hl
  refine PySem.sum_intListG hh hl fun h' tk t' hk => ?_
  have := h h' tk t' hk
  rw [preSum_eq, List.take_of_length_le (by simp), hn]; exact this
end
section
variable {X : Cx}
def rSum (K : PySem.W.Frag) : List V → Hp → VK → Prop := fun vs H Q => ∃ (a : Addr) (ns : List Int), vs = [V.ref a] ∧ SqL K H a (ns.map V.int) ∧ Q (.int ns.sum) H
def rMax (K : PySem.W.Frag) : List V → Hp → VK → Prop := fun vs H Q => ∃ (a : Addr) (ns : List Int), vs = [V.ref a] ∧ SqL K H a (ns.map V.int) ∧ 0 < ns.length ∧ ∀ m, m ∈ ns → (∀ y, y ∈ ns → y ≤ m) → Q (.int m) H
def rMin (K : PySem.W.Frag) : List V → Hp → VK → Prop := fun vs H Q => ∃ (a : Addr) (ns : List Int), vs = [V.ref a] ∧ SqL K H a (ns.map V.int) ∧ 0 < ns.length ∧ ∀ m, m ∈ ns → (∀ y, y ∈ ns → m ≤ y) → Q (.int m) H
theorem cr_sum (hc : X.calm = true) : CallR X (.builtin "sum") (rSum X.K) := by
  intro pins s σ H vs us Q I r h
  obtain ⟨a, ns, rfl, hs, q⟩ := h
  obtain ⟨its, rv, hl, _⟩ := I.list hs
  rw [Vals.ref1 r]
  exact sum_raw (I.ok.hd hc) hl.isList rv.ints fun h' tk t' hk => ⟨.int _, H, I.kept hk, ⟨_, rfl⟩, q⟩
def rSorted (K : PySem.W.Frag) : List V → Hp → VK → Prop := fun vs H Q => ∃ (a : Addr) (ns : List Int), vs = [V.ref a] ∧ SqL K H a (ns.map V.int) ∧ ns.length < 64 ∧
  ∀ (ns' : List Int) (p : Addr), ns'.Perm ns → ns'.Pairwise (· ≤ ·) → H p = none → Q (.ref p) (upd H p (.lst (ns'.map V.int)))
def rSortedS (K : PySem.W.Frag) : List V → Hp → VK → Prop := fun vs H Q => ∃ (a : Addr) (xs : List Str), vs = [V.ref a] ∧ SqL K H a (xs.map V.str) ∧ xs.length < 64 ∧
  ∀ (ys : List Str) (p : Addr), ys.Perm xs → sortedS ys = true → H p = none → Q (.ref p) (upd H p (.lst (ys.map V.str)))
def rSort : V → List V → Hp → VK → Prop := fun x xs H Q => ∃ (a : Addr) (ns : List Int), x = V.ref a ∧ xs = [] ∧ H a = some (.lst (ns.map V.int)) ∧ ns.length < 64 ∧
  ∀ ns' : List Int, ns'.Perm ns → ns'.Pairwise (· ≤ ·) → Q .non (upd H a (.lst (ns'.map V.int)))
end
section
variable {X : Cx}
def rIndex (K : PySem.W.Frag) : V → List V → Hp → VK → Prop := fun x xs H Q => ∃ (a : Addr) (ys : List V) (y : V) (j : Nat) (z : V), x = V.ref a ∧ xs = [y] ∧ SqL K H a ys ∧ flatV y = true ∧ ys.all flatV = true ∧ ys[j]? = some z ∧ eqV z y = true ∧
  (∀ (m : Nat) (z' : V), m < j → ys[m]? = some z' → eqV z' y = false) ∧ Q (.int (j : Nat)) H
theorem flat_at {ys : List V} (f : ys.all flatV = true) {j : Nat} {z : V} (h : ys[j]? = some z) : flatV z = true := List.all_eq_true.mp f z (List.mem_of_getElem? h)
theorem mt_index : MtR X "list.index" (rIndex X.K) := by
  intro pins s σ H x xs v us Q I rx rxs h
  obtain ⟨a, ys, y, j, z, rfl, rfl, hs, fy, fys, hz, hzj, hno, q⟩ := h
  cases rx
  cases rxs with
  | cons ry rt =>
    rename_i uy ut
    cases rt
    obtain ⟨its, rv, ⟨⟨cls, dd, data, sl⟩, n, ho, hc, hdn, hd⟩, hlen⟩ := I.list hs
    simp only at hc hd
    subst hc hd
    obtain ⟨u, hu, ru⟩ := rv.get hz
    obtain ⟨hjl, hje⟩ := List.getElem?_eq_some_iff.mp hu
    have hvl := rv.length
    have hj : j < its.toArray.size := by simpa using hjl
    have hsl := sizeLine_eq
    refine call_meets PySem.F.slot_list_index ⟨_, ho, rfl⟩ PySem.F.entry_list_index (PySem.F.args_list_index_2 _ _)
      (SeqAt.list_indexAt a its.toArray n dd sl uy (eqU y) j hj (by omega) ?_ ?_) ⟨ho, fun u' hu' => mem_eqAt ry fy rv fys u' (by simpa using hu'), ?_⟩
    · have e1 : its.toArray[j] = u := by simpa using hje
      rw [e1, eqU_of ru (flat_at fys hz)]
      exact hzj
    · intro m hm hmj
      have hml : m < its.length := by simpa using hm
      have hmy : m < ys.length := by omega
      have hy' : ys[m]? = some ys[m] := List.getElem?_eq_getElem hmy
      obtain ⟨u2, hu2, ru2⟩ := rv.get hy'
      obtain ⟨_, hme⟩ := List.getElem?_eq_some_iff.mp hu2
      have e1 : its.toArray[m] = u2 := by simpa using hme
      rw [e1, eqU_of ru2 (flat_at fys hy')]
      exact hno m _ hmj hy'
    · exact ⟨.int (j : Nat), H, I.tok _, ⟨_, rfl⟩, q⟩
end
section
variable {X : Cx}
end
theorem iter_any {prog : Program} {w : World} {A : Around} {E : Value → Shared → Prop} {s : Shared} {l : Addr} {items : Array Value} {Q : Value → Shared → Prop} (hl : s.heap.IsList l items)
    (h : ∀ s₂ : Shared, s₂ = { s with heap := s.heap.push { cls := .type "list_iterator", data := .fields #[.ref l, .int 0 0] } } →
      (s₂.heap.IsListIter s.heap.objs.size l 0 ∧ s₂.heap.IsList l items) → l ≠ s.heap.objs.size → Q (.ref s.heap.objs.size) s₂) : wpAny (model prog w) A (pyIter (.ref l)) Q E s := by
  have hlt : l < s.heap.objs.size := by obtain ⟨_, e, _⟩ := hl; exact Heap.lt_size e
  exact wpAny_pyIter_list hl (h _ rfl ⟨⟨_, Heap.get?_push_size _ rfl, rfl, rfl⟩, hl.push _⟩ (Nat.ne_of_lt hlt))
theorem truth_bools {prog : Program} {w : World} {A : Around} {bs : List Bool} {its : List Value} (e : its = bs.map Value.bool) :
    TruthOf prog w A (fun i v => its.toArray[i]? = some v) (fun i => bs.getD i false) := fun i v s Q E hv hq => by
  have hv' : its[i]? = some v := by simpa using hv
  rw [e, List.getElem?_map] at hv'
  obtain ⟨b, hb, rfl⟩ := Option.map_eq_some_iff.mp hv'
  have hg : bs.getD i false = b := by rw [List.getD_eq_getElem?_getD, hb] <;> rfl
  have hq' : Q (bs.getD i false) s := hq
  rw [hg] at hq'
  exact wpAny_truthy_bool hq'
theorem any_range : ∀ bs : List Bool, (List.range bs.length).any (fun i => bs.getD i false) = bs.any id
  | [] => rfl
  | b :: bs => by
    rw [List.length_cons, List.range_succ_eq_map, List.any_cons, List.any_map, List.any_cons, ← any_range bs]
    all_goals rfl
theorem all_range : ∀ bs : List Bool, (List.range bs.length).all (fun i => bs.getD i false) = bs.all id
  | [] => rfl
  | b :: bs => by
    rw [List.length_cons, List.range_succ_eq_map, List.all_cons, List.all_map, List.all_cons, ← all_range bs]
    all_goals rfl
section
variable {X : Cx}
def rAny (K : PySem.W.Frag) : List V → Hp → VK → Prop := fun vs H Q => ∃ (a : Addr) (bs : List Bool), vs = [V.ref a] ∧ SqL K H a (bs.map V.bl) ∧ Q (.bl (bs.any id)) H
def rAll (K : PySem.W.Frag) : List V → Hp → VK → Prop := fun vs H Q => ∃ (a : Addr) (bs : List Bool), vs = [V.ref a] ∧ SqL K H a (bs.map V.bl) ∧ Q (.bl (bs.all id)) H
theorem cr_any (hc : X.calm = true) : CallR X (.builtin "any") (rAny X.K) := by
  intro pins s σ H vs us Q I r h
  obtain ⟨a, bs, rfl, hs, q⟩ := h
  obtain ⟨its, rv, hl, _⟩ := I.list hs
  rw [Vals.ref1 r]
  have hb := rv.bls
  refine call_any_walk (iter_any hl.isList fun s₂ e2 st hne => ?_)
  subst e2
  refine ⟨_, _, _, _, _, _, _, rfl, Walks.list (A := X.A.in1) (I.ok.hd hc) _ a hne its.toArray, st, truth_bools hb, fun h' tk hk => ?_⟩
  refine ⟨.bl _, H, I.kept fun b o eo => hk b o (fun hmem => ?_) (Heap.get?_push_of_some _ eo), ?_, q⟩
  · rcases List.mem_cons.mp hmem with e1 | hmem
    · exact absurd (e1 ▸ Heap.lt_size eo) (Nat.lt_irrefl _)
    · cases hmem
  · show Value.bool _ = Value.bool _
    rw [← any_range, hb, List.size_toArray, List.length_map]
theorem cr_all (hc : X.calm = true) : CallR X (.builtin "all") (rAll X.K) := by
  intro pins s σ H vs us Q I r h
  obtain ⟨a, bs, rfl, hs, q⟩ := h
  obtain ⟨its, rv, hl, _⟩ := I.list hs
  rw [Vals.ref1 r]
  have hb := rv.bls
  refine call_all_walk (iter_any hl.isList fun s₂ e2 st hne => ?_)
  subst e2
  refine ⟨_, _, _, _, _, _, _, rfl, Walks.list (A := X.A.in1) (I.ok.hd hc) _ a hne its.toArray, st, truth_bools hb, fun h' tk hk => ?_⟩
  refine ⟨.bl _, H, I.kept fun b o eo => hk b o (fun hmem => ?_) (Heap.get?_push_of_some _ eo), ?_, q⟩
  · rcases List.mem_cons.mp hmem with e1 | hmem
    · exact absurd (e1 ▸ Heap.lt_size eo) (Nat.lt_irrefl _)
    · cases hmem
  · show Value.bool _ = Value.bool _
    rw [← all_range, hb, List.size_toArray, List.length_map]
end
mutual
inductive Dp (K : PySem.W.Frag) (H : Hp) : V → PyData → Prop
  | non : Dp K H .non .none
  | bl (b : Bool) : Dp K H (.bl b) (.bool b)
  | int (i : Int) : Dp K H (.int i) (.int i)
  | str (x : Str) : Dp K H (.str x) (.str x)
  | lst {a : Addr} {xs : List V} {ds : List PyData} : SqL K H a xs → DpAll K H xs ds → Dp K H (.ref a) (.list ds)
  | tup {a : Addr} {xs : List V} {ds : List PyData} : SqT K H a xs → DpAll K H xs ds → Dp K H (.ref a) (.tuple ds)
inductive DpAll (K : PySem.W.Frag) (H : Hp) : List V → List PyData → Prop
  | nil : DpAll K H [] []
  | cons {v : V} {vs : List V} {d : PyData} {ds : List PyData} : Dp K H v d → DpAll K H vs ds → DpAll K H (v :: vs) (d :: ds)
end
section
variable {X : Cx} {pins : List (Addr × Obj)} {σ : St} {H : Hp} {s : Shared}
mutual
theorem Dp.reads (I : Inv X pins σ H s) : ∀ (d : PyData) (v : V) (u : Value), Dp X.K H v d → RelV v u → ∃ as, Reads s.heap u d as
  | .none, _, _, h, r => by
    cases h
    cases r
    exact ⟨_, Reads.none⟩
  | .bool b, _, _, h, r => by
    cases h
    cases r
    exact ⟨_, Reads.bool b⟩
  | .int i, _, _, h, r => by
    cases h
    obtain ⟨t, rfl⟩ := r
    exact ⟨_, Reads.int i t⟩
  | .str x, _, _, h, r => by
    cases h
    obtain ⟨t, rfl⟩ := r
    exact ⟨_, Reads.str x t⟩
  | .list ds, _, _, h, r => by
    cases h with
    | lst hs ha =>
      cases r
      obtain ⟨its, rv, ⟨o, n, ho, hc, _, hd⟩, _⟩ := I.list hs
      obtain ⟨as, hr⟩ := Dp.readsAll I ds _ its ha rv
      exact ⟨_, Reads.list ho hc hd hr⟩
  | .tuple ds, _, _, h, r => by
    cases h with
    | tup hs ha =>
      cases r
      obtain ⟨its, rv, ⟨o, ho, hc, n, hd⟩, _⟩ := I.tuple hs
      obtain ⟨as, hr⟩ := Dp.readsAll I ds _ its ha rv
      exact ⟨_, Reads.tuple ho hc hd hr⟩
  | .dict _, _, _, h, _ => by cases h
theorem Dp.readsAll (I : Inv X pins σ H s) : ∀ (ds : List PyData) (vs : List V) (us : List Value), DpAll X.K H vs ds → Vals vs us → ∃ as, ReadsAll s.heap us ds as
  | [], _, _, h, r => by
    cases h
    cases r
    exact ⟨_, ReadsAll.nil⟩
  | d :: ds, _, _, h, r => by
    cases h with
    | cons h1 h2 =>
      cases r with
      | cons r1 r2 =>
        obtain ⟨as, q1⟩ := Dp.reads I d _ _ h1 r1
        obtain ⟨bs, q2⟩ := Dp.readsAll I ds _ _ h2 r2
        exact ⟨_, ReadsAll.cons q1 q2⟩
end
end
section
variable {X : Cx}
def rEqD (K : PySem.W.Frag) : R2 := fun x y H Q => ∃ d e, Dp K H x d ∧ Dp K H y e ∧ SeqAt.shaped d = true ∧ SeqAt.shaped e = true ∧ Q (.bl (PyData.eqv d e)) H
def rNeD (K : PySem.W.Frag) : R2 := fun x y H Q => ∃ d e, Dp K H x d ∧ Dp K H y e ∧ SeqAt.shaped d = true ∧ SeqAt.shaped e = true ∧ Q (.bl (!PyData.eqv d e)) H
theorem op_eqD (hu : X.A.units + 64 < cLine) : OpR X (compareOp .Eq) (rEqD X.K) := by
  intro pins s σ H x y v u Q I rx ry h
  obtain ⟨d, e, hd, he, sd, se, q⟩ := h
  obtain ⟨as, r1⟩ := Dp.reads I d x v hd rx
  obtain ⟨bs, r2⟩ := Dp.reads I e y u he ry
  exact SeqAt.compareEq_shaped r1 r2 sd se hu ⟨.bl _, H, I, rfl, q⟩
theorem op_neD (hu : X.A.units + 64 < cLine) : OpR X (compareOp .NotEq) (rNeD X.K) := by
  intro pins s σ H x y v u Q I rx ry h
  obtain ⟨d, e, hd, he, sd, se, q⟩ := h
  obtain ⟨as, r1⟩ := Dp.reads I d x v hd rx
  obtain ⟨bs, r2⟩ := Dp.reads I e y u he ry
  exact SeqAt.compareNe_shaped r1 r2 sd se hu ⟨.bl _, H, I, rfl, q⟩
end
end L2
namespace L2
open PySem PySem.Spec PyProof.Rows
abbrev CellAt (h : Heap) (c : Addr) (v : Option Value) : Prop := h.IsCell c v
def relS (scope sc : Scope) : Scope :=
  { scope with names := scope.names.map fun (n, k) => if (k == .free && sc.kind == .function && sc.names.lookup n == some .cell) then (n, .cell) else (n, k) }
def cloFrom (cells : List (Str × Addr)) : List (Str × NameKind) → List (Str × Addr) → List (Str × Addr)
  | [], acc => acc
  | (n, k) :: r, acc => if k == .free then cloFrom cells r ((n, (cells.lookup n).getD 0) :: acc) else cloFrom cells r acc
theorem closure_loop (env : Env) (f : Str × NameKind → List (Str × Addr) → Sem (ForInStep (List (Str × Addr))))
    (hf : ∀ n k c, f (n, k) c = if k == .free then (do let a ← cellOf env n; pure (.yield ((n, a) :: c))) else pure (.yield c)) :
    ∀ (names : List (Str × NameKind)) (acc : List (Str × Addr)), (∀ y ∈ names, y.2 = .free → ∃ c, env.cells.lookup y.1 = some c) → forIn names acc f = pure (cloFrom env.cells names acc)
  | [], acc, _ => by rw [List.forIn_nil]; rfl
  | (n, k) :: r, acc, h => by
    rw [List.forIn_cons, hf]
    have ih := fun acc => closure_loop env f hf r acc fun y hy => h y (List.mem_cons_of_mem _ hy)
    unfold cloFrom
    by_cases hk : (k == NameKind.free) = true
    · rw [if_pos hk, if_pos hk]
      obtain ⟨c, hc⟩ := h (n, k) List.mem_cons_self (by simpa using hk)
      have e : cellOf env n = pure c := by unfold cellOf; rw [hc]
      rw [e]
      have e2 : (env.cells.lookup n).getD 0 = c := by rw [hc]; rfl
      rw [e2]
      exact ih _
    · rw [if_neg hk, if_neg hk]
      exact ih _
theorem closure_ok {scope : Scope} {env : Env} (h : ∀ y ∈ scope.names, y.2 = .free → ∃ c, env.cells.lookup y.1 = some c) : closureFor scope env = pure (cloFrom env.cells scope.names []) := by
  simp only [closureFor]
  rw [closure_loop env _ (fun n k c => rfl) scope.names [] h]
  rfl
theorem mem_lookup {α : Type} : ∀ {l : List (Str × α)} {n : Str} {c : α}, (n, c) ∈ l → ∃ c', l.lookup n = some c'
  | (k, v) :: r, n, c, h => by
    rw [List.lookup_cons]
    cases hb : n == k with
    | true => exact ⟨_, rfl⟩
    | false =>
      rcases List.mem_cons.mp h with e | h
      · cases e; simp at hb
      · exact mem_lookup h
theorem cloFrom_mem {cells : List (Str × Addr)} : ∀ {names : List (Str × NameKind)} {acc : List (Str × Addr)} {n : Str} {c : Addr}, (n, c) ∈ cloFrom cells names acc → (n, c) ∈ acc ∨ ((n, .free) ∈ names ∧ c = (cells.lookup n).getD 0)
  | [], _, _, _, h => .inl h
  | (m, k) :: r, acc, n, c, h => by
    unfold cloFrom at h
    split at h
    · rename_i hk
      have hk : k = .free := by simpa using hk
      rcases cloFrom_mem h with h | ⟨h1, h2⟩
      · rcases List.mem_cons.mp h with e | h
        · cases e; exact .inr ⟨hk ▸ List.mem_cons_self, rfl⟩
        · exact .inl h
      · exact .inr ⟨List.mem_cons_of_mem _ h1, h2⟩
    · rcases cloFrom_mem h with h | ⟨h1, h2⟩
      · exact .inl h
      · exact .inr ⟨List.mem_cons_of_mem _ h1, h2⟩
theorem cloFrom_acc {cells : List (Str × Addr)} : ∀ {names : List (Str × NameKind)} {acc : List (Str × Addr)} {p : Str × Addr}, p ∈ acc → p ∈ cloFrom cells names acc
  | [], _, _, h => h
  | (m, k) :: r, acc, p, h => by
    unfold cloFrom
    split
    · exact cloFrom_acc (List.mem_cons_of_mem _ h)
    · exact cloFrom_acc h
theorem cloFrom_has {cells : List (Str × Addr)} : ∀ {names : List (Str × NameKind)} {acc : List (Str × Addr)} {n : Str}, (n, .free) ∈ names → (n, (cells.lookup n).getD 0) ∈ cloFrom cells names acc
  | (m, k) :: r, acc, n, h => by
    unfold cloFrom
    rcases List.mem_cons.mp h with e | h
    · cases e
      exact cloFrom_acc List.mem_cons_self
    · split
      · exact cloFrom_has h
      · exact cloFrom_has h
theorem cells_mem : ∀ {names : List (Str × NameKind)} {h : Heap} {acc : List (Str × Addr)} {x : Str} {c : Addr}, (x, c) ∈ cellsFrom h.objs.size names acc →
    (x, c) ∈ acc ∨ ((x, .cell) ∈ names ∧ h.objs.size ≤ c ∧ CellAt (pushCells h names) c none)
  | [], _, _, _, _, h => .inl h
  | (n, k) :: r, h, acc, x, c, hm => by
    unfold cellsFrom at hm
    unfold pushCells
    split at hm
    · rename_i hk
      rw [if_pos hk]
      have hk : k = .cell := by simpa using hk
      rw [← Heap.size_push h { cls := .type "cell", data := .cell none }] at hm
      rcases cells_mem hm with hm | ⟨h1, h2, h3⟩
      · rcases List.mem_cons.mp hm with e | hm
        · cases e
          exact .inr ⟨hk ▸ List.mem_cons_self, Nat.le_refl _, _, pushCells_keeps r _ _ _ (Heap.get?_push_size _ rfl), rfl⟩
        · exact .inl hm
      · rw [Heap.size_push] at h2
        exact .inr ⟨List.mem_cons_of_mem _ h1, Nat.le_of_succ_le h2, h3⟩
    · rename_i hk
      rw [if_neg hk]
      rcases cells_mem hm with hm | ⟨h1, h2, h3⟩
      · exact .inl hm
      · exact .inr ⟨List.mem_cons_of_mem _ h1, h2, h3⟩
theorem cells_acc : ∀ {names : List (Str × NameKind)} {n : Nat} {acc : List (Str × Addr)} {p : Str × Addr}, p ∈ acc → p ∈ cellsFrom n names acc
  | [], _, _, _, h => h
  | (m, k) :: r, n, acc, p, h => by
    unfold cellsFrom
    split
    · exact cells_acc (List.mem_cons_of_mem _ h)
    · exact cells_acc h
theorem cells_has : ∀ {names : List (Str × NameKind)} {n : Nat} {acc : List (Str × Addr)} {x : Str}, (x, .cell) ∈ names → ∃ c, (x, c) ∈ cellsFrom n names acc
  | (m, k) :: r, n, acc, x, h => by
    unfold cellsFrom
    rcases List.mem_cons.mp h with e | h
    · cases e
      exact ⟨n, cells_acc List.mem_cons_self⟩
    · split
      · exact cells_has h
      · exact cells_has h
theorem cells_inj : ∀ {names : List (Str × NameKind)} {h : Heap} {acc : List (Str × Addr)} {x y : Str} {c : Addr}, (∀ p ∈ acc, p.2 < h.objs.size) → (∀ x y c, (x, c) ∈ acc → (y, c) ∈ acc → x = y) →
    (x, c) ∈ cellsFrom h.objs.size names acc → (y, c) ∈ cellsFrom h.objs.size names acc → x = y
  | [], _, _, _, _, _, _, hi, h1, h2 => hi _ _ _ h1 h2
  | (n, k) :: r, h, acc, x, y, c, hl, hi, h1, h2 => by
    unfold cellsFrom at h1 h2
    split at h1
    · rename_i hk
      rw [if_pos hk] at h2
      rw [← Heap.size_push h { cls := .type "cell", data := .cell none }] at h1 h2
      refine cells_inj (h := h.push _) (fun p hp => ?_) (fun x y c a b => ?_) h1 h2
      · rw [Heap.size_push]
        rcases List.mem_cons.mp hp with rfl | hp
        · exact Nat.lt_succ_self _
        · exact Nat.lt_succ_of_lt (hl p hp)
      · rcases List.mem_cons.mp a with e | a <;> rcases List.mem_cons.mp b with e' | b
        · cases e; cases e'; rfl
        · cases e; exact absurd (hl _ b) (Nat.lt_irrefl _)
        · cases e'; exact absurd (hl _ a) (Nat.lt_irrefl _)
        · exact hi _ _ _ a b
    · rename_i hk
      rw [if_neg hk] at h2
      exact cells_inj hl hi h1 h2
theorem newEnv_comp {M : Model} {A : Around} {E : Value → Shared → Prop} {s : Shared} {scope : Scope} {globals : Addr} {closure : List (Str × Addr)} {qual : Str} {func : Option Addr} {code : Value} {around : Env} {builtins : Addr} {Q : Env → Shared → Prop}
    (h : Q (newEnv scope s.heap.objs.size globals (cellsFrom (s.heap.objs.size + 1) scope.names closure) qual func code (some around) builtins)
      { s with heap := pushCells (s.heap.push { cls := .type "dict", data := .dict #[] }) scope.names }) :
    wpAny M A (newFunctionEnv scope globals closure [] qual func code (some around) builtins) Q E s := by
  simp only [newFunctionEnv, Option.isSome_some, if_true]
  refine wpAny_bind (wpAny_alloc ?_)
  refine wpAny_bind (wpAny_layCells _ (fun n k c => rfl) scope.names closure _ _ ?_)
  rw [show ({ s with heap := s.heap.push { cls := .type "dict", data := .dict #[] } } : Shared).heap.objs.size = s.heap.objs.size + 1 from Heap.size_push ..]
  rw [List.forIn_nil]
  exact wpAny_bind (wpAny_pure (wpAny_pure h))
theorem lookup_relS {sc : Scope} : ∀ {names : List (Str × NameKind)} {x : Str} {k : NameKind},
    (names.map fun (n, k) => if (k == NameKind.free && sc.kind == .function && sc.names.lookup n == some .cell) then (n, NameKind.cell) else (n, k)).lookup x = some k →
    ∃ k', names.lookup x = some k' ∧ (k = k' ∨ (k' = .free ∧ k = .cell))
  | [], _, _, h => by simp at h
  | (n, k₀) :: r, x, k, h => by
    have ih := @lookup_relS sc r x k
    have h' : List.lookup x ((if (k₀ == NameKind.free && sc.kind == .function && sc.names.lookup n == some .cell) = true then (n, NameKind.cell) else (n, k₀)) :: (r.map _)) = some k := h
    cases hx : x == n with
    | true =>
      simp only [List.lookup_cons, hx]
      by_cases hc : (k₀ == NameKind.free && sc.kind == .function && sc.names.lookup n == some .cell) = true
      · rw [if_pos hc] at h'
        simp only [List.lookup_cons, hx] at h'
        cases h'
        simp only [Bool.and_eq_true, beq_iff_eq] at hc
        exact ⟨k₀, rfl, .inr ⟨hc.1.1, rfl⟩⟩
      · rw [if_neg hc] at h'
        simp only [List.lookup_cons, hx] at h'
        cases h'
        exact ⟨_, rfl, .inl rfl⟩
    | false =>
      simp only [List.lookup_cons, hx]
      by_cases hc : (k₀ == NameKind.free && sc.kind == .function && sc.names.lookup n == some .cell) = true
      · rw [if_pos hc] at h'
        simp only [List.lookup_cons, hx] at h'
        exact ih h'
      · rw [if_neg hc] at h'
        simp only [List.lookup_cons, hx] at h'
        exact ih h'
structure BlkOk (N : List Str) (sc scope : Scope) (own : List (Str × Nat)) : Prop where
  kind : scope.kind = .function
  uniq : ∀ y ∈ scope.names, scope.names.lookup y.1 = some y.2
  ix : ∀ p ∈ own, N[p.2]? = some p.1
  free : ∀ y ∈ scope.names, y.2 = .free → sc.names.lookup y.1 = some .cell ∨ sc.names.lookup y.1 = some .free
  own : ∀ y ∈ scope.names, y.2 = .local ∨ y.2 = .cell → y.1 ∈ own.map (·.1) ∨ y.1 ∉ N
def wipe (σ : St) : List Nat → St
  | [] => σ
  | v :: vs => (wipe σ vs).set v none
theorem wipe_length (σ : St) : ∀ vs : List Nat, (wipe σ vs).length = σ.length
  | [] => rfl
  | v :: vs => by unfold wipe; rw [List.length_set, wipe_length σ vs]
theorem wipe_some {σ : St} {i : Nat} {x : V} : ∀ {vs : List Nat}, (wipe σ vs)[i]? = some (some x) → σ[i]? = some (some x) ∧ i ∉ vs
  | [], h => ⟨h, by simp⟩
  | v :: vs, h => by
    unfold wipe at h
    by_cases hi : v = i
    · subst hi
      by_cases hv : v < (wipe σ vs).length
      · rw [List.getElem?_set_self hv] at h; cases h
      · rw [List.getElem?_eq_none (by simpa using hv)] at h; cases h
    · rw [List.getElem?_set_ne hi] at h
      obtain ⟨h1, h2⟩ := wipe_some h
      exact ⟨h1, by simp only [List.mem_cons, not_or]; exact ⟨fun e => hi e.symm, h2⟩⟩
abbrev Cx.blk (X : Cx) (s : Shared) (H : Hp) (scope : Scope) (cenv : Env) (fp : List Addr) : Cx := { X with s_0 := s, H_0 := H, env := cenv, outer := X.stack, ex := fp, fn := fun x => scope.names.lookup x == some .cell, pn := [], xe := fun _ _ => False }
section
variable {X : Cx} {pins : List (Addr × Obj)} {σ : St} {H : Hp} {s : Shared}
theorem block_start {scope : Scope} {own : List (Str × Nat)} {fp : List Addr} (I : Inv X pins σ H s) (ok : BlkOk X.N X.env.scope scope own) (hN : X.N.Nodup) (hfp : ∀ b ∈ fp, FpOk X pins H b ∧ b < s.heap.objs.size) :
    Inv (X.blk s H scope (compEnvC scope (cellsFrom (s.heap.objs.size + 1) scope.names (cloFrom X.env.cells scope.names [])) s.heap.objs.size X.env) fp) [] (wipe σ (own.map (·.2))) H { s with heap := pushCells (s.heap.push { cls := .type "dict", data := .dict #[] }) scope.names } := by
  have hfree : ∀ y ∈ scope.names, y.2 = .free → ∃ c, X.env.cells.lookup y.1 = some c := fun y hy e => by
    rcases ok.free y hy e with k | k
    · exact I.ok.has _ (.inl k)
    · exact I.ok.has _ (.inr k)
  generalize hcenv : compEnvC scope (cellsFrom (s.heap.objs.size + 1) scope.names (cloFrom X.env.cells scope.names [])) s.heap.objs.size X.env = cenv
  have kp : ∀ b o, s.heap.get? b = some o → (pushCells (s.heap.push { cls := .type "dict", data := .dict #[] }) scope.names).get? b = some o := fun b o e => pushCells_keeps _ _ _ _ (Heap.get?_push_of_some _ e)
  have hL : cenv.locals = s.heap.objs.size := by rw [← hcenv]; rfl
  have hcl : cenv.cells = cellsFrom (s.heap.objs.size + 1) scope.names (cloFrom X.env.cells scope.names []) := by rw [← hcenv]; rfl
  have hsc : cenv.scope = relS scope X.env.scope := by rw [← hcenv]; rfl
  rw [← Heap.size_push s.heap { cls := .type "dict", data := .dict #[] }] at hcl
  have cm : ∀ {y c}, (y, c) ∈ cloFrom X.env.cells scope.names [] → X.env.cells.lookup y = some c ∧ c < s.heap.objs.size := fun {y c} hm => by
    rcases cloFrom_mem hm with hm | ⟨h1, rfl⟩
    · cases hm
    · obtain ⟨c, hc⟩ := hfree _ h1 rfl
      rw [hc]
      obtain ⟨w, z⟩ := I.cell _ _ hc
      exact ⟨rfl, z.lt⟩
  have mem : ∀ {y c}, cenv.cells.lookup y = some c → (X.env.cells.lookup y = some c ∧ c < s.heap.objs.size) ∨ (s.heap.objs.size + 1 ≤ c ∧ CellAt (pushCells (s.heap.push { cls := .type "dict", data := .dict #[] }) scope.names) c none) := fun {y c} e => by
    rw [hcl] at e
    rcases cells_mem (PySem.mem_of_lookup e) with hm | ⟨_, h2, h3⟩
    · exact .inl (cm hm)
    · rw [Heap.size_push] at h2; exact .inr ⟨h2, h3⟩
  have look : ∀ {y}, scope.names.lookup y = some .free → ∃ c, cenv.cells.lookup y = some c ∧ X.env.cells.lookup y = some c := fun {y} hl => by
    have hy : (y, NameKind.free) ∈ scope.names := PySem.mem_of_lookup hl
    obtain ⟨c', e'⟩ := mem_lookup (cells_acc (names := scope.names) (n := (s.heap.push { cls := .type "dict", data := .dict #[] }).objs.size) (cloFrom_has (cells := X.env.cells) (acc := []) hy))
    rw [← hcl] at e'
    refine ⟨c', e', ?_⟩
    rw [hcl] at e'
    rcases cells_mem (PySem.mem_of_lookup e') with hm | ⟨h1, _, _⟩
    · exact (cm hm).1
    · have := ok.uniq _ h1
      rw [hl] at this; cases this
  have okB : (X.blk s H scope cenv fp).Ok := by
    refine ⟨I.ok.mod, by show cenv.scope.kind = _; rw [hsc]; exact ok.kind, by show cenv.globals = _; rw [← hcenv]; exact I.ok.glob, by show cenv.builtins = _; rw [← hcenv]; exact I.ok.blt, by show s.heap.objs.size ≤ cenv.locals; rw [hL]; exact Nat.le_refl _,
      fun y z c e1 e2 => ?_, fun y hy => ?_, fun y c z e => ?_, I.ok.hd, I.ok.frames, .inl rfl, fun b hb => ⟨?_, fun y c e z => ?_⟩, I.bs, Nat.le_trans I.ok.bsz I.sz, fun b o e hb => ?_, fun b hb z => ?_, I.stack, I.stkFree⟩
    · have e1 : cenv.cells.lookup y = some c := e1
      have e2 : cenv.cells.lookup z = some c := e2
      rw [hcl] at e1 e2
      refine cells_inj (fun p hp => ?_) (fun y z c a b => I.ok.inj y z c (cm a).1 (cm b).1) (PySem.mem_of_lookup e1) (PySem.mem_of_lookup e2)
      rw [Heap.size_push]
      exact Nat.lt_succ_of_lt (cm (y := p.1) (c := p.2) hp).2
    · show ∃ c, cenv.cells.lookup y = some c
      have key : ∀ k, cenv.kindOf y = some k → (k = .cell ∨ k = .free) → ∃ c, cenv.cells.lookup y = some c := fun k hk hk' => by
        unfold Env.kindOf at hk
        rw [hsc] at hk
        obtain ⟨k', e, r⟩ := lookup_relS hk
        have : k' = .cell ∨ k' = .free := by
          rcases r with rfl | ⟨rfl, _⟩
          · exact hk'
          · exact .inr rfl
        rcases this with rfl | rfl
        · obtain ⟨c, hm⟩ := cells_has (n := (s.heap.push { cls := .type "dict", data := .dict #[] }).objs.size) (acc := cloFrom X.env.cells scope.names []) (PySem.mem_of_lookup e)
          obtain ⟨c', e'⟩ := mem_lookup hm
          exact ⟨c', by rw [hcl]; exact e'⟩
        · obtain ⟨c, h1, _⟩ := look e
          exact ⟨c, h1⟩
      rcases hy with hy | hy
      · exact key _ hy (.inl rfl)
      · exact key _ hy (.inr rfl)
    · have z : (scope.names.lookup y == some NameKind.cell) = true := z
      have z : scope.names.lookup y = some .cell := by simpa using z
      have e : cenv.cells.lookup y = some c := e
      rw [hcl] at e
      rcases cells_mem (PySem.mem_of_lookup e) with hm | ⟨_, h2, _⟩
      · rcases cloFrom_mem hm with hm | ⟨h1, _⟩
        · cases hm
        · have q := ok.uniq _ h1
          rw [z] at q; cases q
      · rw [Heap.size_push] at h2
        exact Nat.le_of_succ_le h2
    · show b ≠ cenv.locals
      rw [hL]; exact Nat.ne_of_lt (hfp b hb).2
    · have e : cenv.cells.lookup y = some c := e
      rcases mem e with ⟨h1, _⟩ | ⟨h1, _⟩
      · exact (hfp b hb).1.2.2.2.2.1 y c h1 z
      · have h2 : s.heap.objs.size + 1 ≤ b := by rw [← z]; exact h1
        exact absurd (Nat.lt_of_lt_of_le (hfp b hb).2 (Nat.le_of_succ_le h2)) (Nat.lt_irrefl _)
    · rcases (hfp b hb).1.2.2.2.1 with z | z
      · exact I.ok.noex b o e z
      · exact absurd (Nat.lt_of_lt_of_le (Heap.lt_size e) (Nat.le_trans I.ok.bsz z)) (Nat.lt_irrefl _)
    · rcases List.mem_cons.mp (I.stkSub b z) with z | z
      · exact (hfp b hb).1.2.1 z
      · exact (hfp b hb).1.2.2.1 z
  refine ⟨okB, rfl, I.bare, Un.kept kp, ⟨fun _ => none, ?_, fun i y av e1 e2 e3 => ?_⟩, fun y c e => ?_, ?_, fun y c e => ?_, fun p hp => ?_, I.hok.kept kp, by rw [wipe_length]; exact I.len⟩
  · show Heap.Ns _ cenv.locals _
    rw [hL]
    exact Heap.Ns.keeps (Heap.Ns.new ..) fun b o e => pushCells_keeps _ _ _ _ e
  · obtain ⟨e2, hne⟩ := wipe_some e2
    have hfr : scope.names.lookup y = some .free ∧ (cenv.kindOf y = some .cell ∨ cenv.kindOf y = some .free) := by
      have key : ∀ k, cenv.scope.names.lookup y = some k → k = .local ∨ k = .cell ∨ k = .free → scope.names.lookup y = some .free ∧ (cenv.kindOf y = some .cell ∨ cenv.kindOf y = some .free) := fun k hk hk' => by
        have hk0 := hk
        rw [hsc] at hk
        obtain ⟨k', e, r⟩ := lookup_relS hk
        have no : ¬ (k' = .local ∨ k' = .cell) := fun hh => by
          rcases ok.own _ (PySem.mem_of_lookup e) hh with e' | e'
          · obtain ⟨p, hp, hpy⟩ := List.mem_map.mp e'
            have e3 := ok.ix p hp
            have : p.1 = y := hpy
            rw [this] at e3
            exact hne (List.mem_map.mpr ⟨p, hp, nodup_ix hN e3 e1⟩)
          · exact e' (List.mem_of_getElem? e1)
        rcases r with rfl | ⟨rfl, rfl⟩
        · rcases hk' with rfl | rfl | rfl
          · exact absurd (.inl rfl) no
          · exact absurd (.inr rfl) no
          · exact ⟨e, .inr hk0⟩
        · exact ⟨e, .inl hk0⟩
      have e3 : Vis cenv.scope y := e3
      rcases e3 with e3 | e3 | e3
      · exact key _ e3 (.inl rfl)
      · exact key _ e3 (.inr (.inl rfl))
      · exact key _ e3 (.inr (.inr rfl))
    obtain ⟨m, hn, hl⟩ := I.loc
    have hvis : Vis X.env.scope y := (ok.free _ (PySem.mem_of_lookup hfr.1) rfl).elim (fun k => .inr (.inl k)) (fun k => .inr (.inr k))
    obtain ⟨w, r, q⟩ := hl i y av e1 e2 hvis
    refine ⟨w, r, .inr ⟨hfr.2, ?_⟩⟩
    obtain ⟨c, h1, h2⟩ := look hfr.1
    rcases q with ⟨k, _⟩ | ⟨_, c', e', z⟩
    · have k : X.env.scope.names.lookup y = some .local := k
      rcases ok.free _ (PySem.mem_of_lookup hfr.1) rfl with k' | k' <;> rw [show X.env.scope.names.lookup y = _ from k'] at k <;> cases k
    · rw [h2] at e'; cases e'
      exact ⟨c, h1, z.keeps kp⟩
  · have e : cenv.cells.lookup y = some c := e
    rcases mem e with ⟨h1, _⟩ | ⟨_, z⟩
    · obtain ⟨w, z⟩ := I.cell y c h1
      exact ⟨w, z.keeps kp⟩
    · exact ⟨_, z⟩
  · show H cenv.locals = none
    rw [hL]; exact I.hok.fresh (Nat.le_refl _)
  · have e : cenv.cells.lookup y = some c := e
    rcases mem e with ⟨h1, _⟩ | ⟨h1, _⟩
    · exact I.freeC y c h1
    · exact I.hok.fresh (Nat.le_of_succ_le h1)
  · exact absurd (show p ∈ ([] : List (Addr × Obj)) ++ [] from hp) (by simp)
theorem app_ok {E : Value → Shared → Prop} {D : Addr} {xs : List V} {y : V} {v : Value} {Q : Value → Shared → Prop} (I : Inv X pins σ H s) (hD : H D = some (.lst xs)) (hz : xs.length < sizeLine) (r : RelV y v)
    (h : ∀ s', Inv X pins σ (upd H D (.lst (xs ++ [y]))) s' → Q .none s') : wpAny (model X.prog X.w) X.A (call (.builtin "list.append") [.ref D, v]) Q E s := by
  obtain ⟨hz', its, n, ri, e⟩ := I.hok D _ hD
  have hl := ri.length
  refine append_at (hsz := by rw [List.size_toArray]; omega) e fun h' sb ho' => ?_
  refine h { s with heap := h' } (I.write (t' := s.toks) (by rw [hD]; trivial) (.inl rfl) (fun b u hb q => (sb.2 b hb).trans q) ⟨_, ho'⟩ ⟨by rw [List.length_append]; exact hz, its ++ [v], n + 1, ri.append (.cons r .nil), ?_⟩)
  rw [ho']
  simp
def PTs (X : Cx) (ifs : List Expr) (t : TT) : Prop :=
  ∀ (pins : List (Addr × Obj)) (s : Shared) (σ : St) (H : Hp) (Q : Bool → Hp → Prop), Inv X pins σ H s → t σ H Q →
    wpAny (model X.prog X.w) X.A (forIn ifs true fun c r => if r = true then do let ok ← isTrue c X.env (eval c X.env); pure (ForInStep.yield ok) else pure (ForInStep.yield r)) (TP X pins σ Q) X.xe s
def tYes : TT := fun _ H Q => Q true H
theorem pts_nil : PTs X [] tYes := fun _ _ _ H _ I h => wpAny_tests_nil ⟨H, I, h⟩
theorem pts_one {c : Expr} {t : TT} (h : PT X c t) : PTs X [c] t := fun pins s σ H Q I hw => wpAny_tests_one (h pins s σ H Q I hw)
end
theorem thnF {α : Type} {t : Sem α} {Q Q' : α → Shared → Prop} {M : Model} {A : Around} {E : Value → Shared → Prop} {s : Shared} (h : wpAny M A t Q (fun _ _ => False) s) (hQ : ∀ a s, Q a s → Q' a s) : wpAny M A t Q' E s := wpAny_mono h hQ fun _ _ z => False.elim z
theorem compLoop_any {prog : Program} {w : World} {A : Around} {R : Result → Shared → Prop} {s : Shared} {elt target iter : Expr} {ifs : List Expr} {scope : Scope} {pos : Pos} {it acc : Value} {env : Env} (I : Nat → Shared → Prop)
    (turn : ∀ n s, I n s → wpAny (model prog w) A (pyNext it) (fun r s₁ => match r with
      | none => R (.ok .next) s₁
      | some v => wpAny (model prog w) A (letOwnedTupleGo target it v) (fun _ s₁' => wpAny (model prog w) A (assign target env v) (fun _ s₂ =>
          wpAny (model prog w) A (forIn ifs true fun c r => if r = true then do let ok ← isTrue c env (eval c env); pure (ForInStep.yield ok) else pure (ForInStep.yield r)) (fun ok s₃ =>
            if ok = true then wpAny (model prog w) A (eval elt env) (fun x s₄ =>
              wpAny (model prog w) A (call (.builtin "list.append") [acc, x]) (fun _ s₅ => ∃ m, m < n ∧ I m s₅) (notedBy (model prog w) A env fun e s' => R (.error e) s') s₄) (notedBy (model prog w) A env fun e s' => R (.error e) s') s₃
            else ∃ m, m < n ∧ I m s₃) (notedBy (model prog w) A env fun e s' => R (.error e) s') s₂) (notedBy (model prog w) A env fun e s' => R (.error e) s') s₁') (notedBy (model prog w) A env fun e s' => R (.error e) s') s₁) (notedBy (model prog w) A env fun e s' => R (.error e) s') s)
    (n : Nat) (h : I n s) :
    codeAny (model prog w) A (.compLoop (.ListComp elt [⟨target, iter, ifs, 0⟩] scope pos) 0 it acc env) R s := by
  refine codeAny_loop rfl I (fun n s hI => ?_) n h
  show wpAny _ A ((compTurn (.ListComp elt [⟨target, iter, ifs, 0⟩] scope pos) 0 it acc env).onRaise (fun x => do noteFrame x env; theTreesLotGoes x)) _ _ s
  refine wpAny_noted ?_
  rw [compTurn_list]
  refine wpAny_bind (wpAny_standAt (wpAny_bind (wpAny_mono (turn n s hI) (fun r s₁ h₁ => ?_) fun _ _ h' => h')))
  cases r with
  | none => exact wpAny_pure h₁
  | some v =>
    refine wpAny_bind (wpAny_mono h₁ (fun _ s₁' h₁' => ?_) fun _ _ h' => h')
    refine wpAny_bind (wpAny_mono h₁' (fun _ s₂ h₂ => wpAny_bind (wpAny_mono h₂ (fun ok s₃ h₃ => ?_) fun _ _ h' => h')) fun _ _ h' => h')
    cases ok with
    | false => exact wpAny_pure ⟨rfl, h₃⟩
    | true =>
      exact wpAny_bind (wpAny_bind (wpAny_mono h₃ (fun x s₄ h₄ => wpAny_bind (wpAny_mono h₄ (fun _ s₅ h₅ => wpAny_pure (wpAny_pure ⟨rfl, h₅⟩)) fun _ _ h' => h')) fun _ _ h' => h'))
section
variable {X : Cx}
def tLc (wi : TI) (g : TG) (tt : TT) (te : TE) (vs : List Nat) : TE := fun σ H Q => wi σ H fun J H1 => ∀ D, H1 D = none → ∃ W : Nat → Nat → Hp → Prop, (∃ m, W 0 m (upd H1 D (.lst []))) ∧ ∀ i m H, W i m H →
  (J.stop i H ∧ Q (.ref D) H) ∨ (J.go i H ∧ ∃ Nx : Hp → Prop, (∀ H', Nx H' → ∃ m', m' < m ∧ W (i + 1) m' H') ∧ ∀ x H', J.yld i H x H' → g x (wipe σ vs) H' fun σ2 H2 => wipe σ2 vs = wipe σ vs ∧ tt σ2 H2 fun b H3 =>
    if b = true then te σ2 H3 fun y H4 => ∃ acc, H4 D = some (.lst acc) ∧ acc.length < sizeLine ∧ Nx (upd H4 D (.lst (acc ++ [y]))) else Nx H3)
theorem lc_core {pins : List (Addr × Obj)} {s : Shared} {σ : St} {H : Hp} {Q : VK} {elt tg iter : Expr} {ifs : List Expr} {scope : Scope} {own : List (Str × Nat)} {pos pos' : Pos} {wi : TI} {g : TG} {tt : TT} {te : TE} {use : Option (Value → Sem Unit)} {Qf : Value → Shared → Prop}
    (hc : X.calm = true) (hN : X.N.Nodup) (I : Inv X pins σ H s) (hi : PI X tg iter wi) (ok : BlkOk X.N X.env.scope scope own)
    (hg : ∀ (s : Shared) (H : Hp) (C : Addr) (cl : List (Str × Addr)) (fp : List Addr), PG (X.blk s H scope (compEnvC scope cl C X.env) fp) tg g) (ht : ∀ (s : Shared) (H : Hp) (C : Addr) (cl : List (Str × Addr)) (fp : List Addr), PTs (X.blk s H scope (compEnvC scope cl C X.env) fp) ifs tt)
    (he : ∀ (s : Shared) (H : Hp) (C : Addr) (cl : List (Str × Addr)) (fp : List Addr), PE (X.blk s H scope (compEnvC scope cl C X.env) fp) elt te) (hs : ∀ x, foldedSetIterable iter X.env x = pure x)
    (h : tLc wi g tt te (own.map (·.2)) σ H Q)
    (hRR : ∀ D C s' m H', Inv X pins σ H' s' → Q (.ref D) H' → s'.heap.Ns C m → FpOk X pins H' C → compPost (model X.prog X.w) X.A X.xe use Qf (.ref D) C (.ok .next) s') :
    wpAny (model X.prog X.w) X.A (comprehension (.ListComp elt [⟨tg, iter, ifs, 0⟩] scope pos) scope X.env pos' (newList []) false (eval iter X.env) use) Qf X.xe s := by
  have hfree : ∀ y ∈ scope.names, y.2 = .free → ∃ c, X.env.cells.lookup y.1 = some c := fun y hy e => by
    rcases ok.free y hy e with k | k
    · exact I.ok.has _ (.inl k)
    · exact I.ok.has _ (.inr k)
  refine wpAny_comprehension_free (use := use) rfl hs (closure_ok hfree) ok.kind (fun y hy e => by rw [ok.uniq y hy, e])
    (thn (hi pins s σ H _ I h) fun xv s1 hx => thn hx fun itv s2 h2 => ?_)
  obtain ⟨it, fp, tn, J, H2, e, I2, T, st2, f2, q⟩ := h2
  subst e
  refine wpAny_newObj_type (newEnv_comp ?_) (by show 0 ≤ sizeLine; decide)
  generalize hD : s2.heap.objs.size = D
  have hDn : H2 D = none := I2.hok.fresh (Nat.le_of_eq hD)
  obtain ⟨W, ⟨m0, w0⟩, turn⟩ := q D hDn
  -- the new list
  generalize hs3 : ({ s2 with heap := s2.heap.push { cls := .type "list", data := .seq ([] : List Value).toArray } } : Shared) = s3
  have I3 : Inv X pins σ (upd H2 D (.lst [])) s3 := by
    rw [← hs3]
    refine I2.laid (t' := s2.toks) (fun b o e => Heap.get?_push_of_some _ e) (Nat.le_of_eq hD) ⟨Nat.zero_le _, [], 0, .nil, ?_⟩
    rw [← hD]
    exact Heap.get?_push_size _ rfl
  have h3 : s3.heap = s2.heap.push { cls := .type "list", data := .seq ([] : List Value).toArray } := by rw [← hs3]
  have sz : ∀ b ∈ fp, b < s2.heap.objs.size := fun b hb => by
    obtain ⟨o, e, _⟩ := T.obj _ _ st2 b hb
    exact Heap.lt_size e
  have f3 : ∀ b ∈ fp, FpOk X pins (upd H2 D (.lst [])) b ∧ b < s3.heap.objs.size := fun b hb => by
    have hlt := sz b hb
    refine ⟨⟨?_, (f2 b hb).2⟩, by rw [h3, Heap.size_push]; exact Nat.lt_succ_of_lt hlt⟩
    rw [upd_ne (by rw [← hD]; exact Nat.ne_of_lt hlt)]
    exact (f2 b hb).1
  have st3 : tn 0 s3.heap := T.keep _ _ _ st2 fun b _ o e => by rw [h3]; exact Heap.get?_push_of_some _ e
  have I4 := block_start I3 ok hN f3
  have pg := hg s3 (upd H2 D (.lst [])) s3.heap.objs.size (cellsFrom (s3.heap.objs.size + 1) scope.names (cloFrom X.env.cells scope.names [])) fp
  have pt := ht s3 (upd H2 D (.lst [])) s3.heap.objs.size (cellsFrom (s3.heap.objs.size + 1) scope.names (cloFrom X.env.cells scope.names [])) fp
  have pe := he s3 (upd H2 D (.lst [])) s3.heap.objs.size (cellsFrom (s3.heap.objs.size + 1) scope.names (cloFrom X.env.cells scope.names [])) fp
  show codeAny _ _ (.compStart (.ListComp elt [⟨tg, iter, ifs, 0⟩] scope pos) 0 (.ref it) (.ref D) (compEnvC scope (cellsFrom (s3.heap.objs.size + 1) scope.names (cloFrom X.env.cells scope.names [])) s3.heap.objs.size X.env)) (compPost (model X.prog X.w) X.A X.xe use Qf (.ref D) s3.heap.objs.size) { s3 with heap := pushCells (s3.heap.push { cls := .type "dict", data := .dict #[] }) scope.names }
  have nfp : ∀ b ∈ fp, (upd H2 D (.lst [])) b = none := fun b hb => (f3 b hb).1.1
  generalize hce : compEnvC scope (cellsFrom (s3.heap.objs.size + 1) scope.names (cloFrom X.env.cells scope.names [])) s3.heap.objs.size X.env = ce at I4 pg pt pe ⊢
  have cL : ce.locals = s3.heap.objs.size := by subst hce; rfl
  generalize hH3 : upd H2 D (.lst []) = H3 at I3 I4 pg pt pe w0 nfp f3
  generalize hs4 : ({ s3 with heap := pushCells (s3.heap.push { cls := .type "dict", data := .dict #[] }) scope.names } : Shared) = s4 at I4 ⊢
  have st4 : tn 0 s4.heap := T.keep _ _ _ st3 fun b _ o e => by rw [← hs4]; exact pushCells_keeps _ _ _ _ (Heap.get?_push_of_some _ e)
  have stat : ∀ {σ' : St} {H' : Hp} {s' : Shared}, Inv (X.blk s3 H3 scope ce fp) [] σ' H' s' → (∀ b ∈ fp, H' b = none) → ∀ b ∈ fp, FpOk (X.blk s3 H3 scope ce fp) [] H' b := fun {σ' H' s'} I' hn b hb =>
    ⟨hn b hb, (I'.ok.exf b hb).1, I'.ok.exfs b hb, .inl hb, fun x c e => (I'.ok.exf b hb).2 x c e, fun p hp => absurd (show p ∈ ([] : List (Addr × Obj)) ++ [] from hp) (by simp)⟩
  have loop : codeAny (model X.prog X.w) X.A (.compLoop (.ListComp elt [⟨tg, iter, ifs, 0⟩] scope pos) 0 (.ref it) (.ref D) ce) (compPost (model X.prog X.w) X.A X.xe use Qf (.ref D) s3.heap.objs.size) s4 := by
    refine compLoop_any (fun n s' => ∃ i H', Inv (X.blk s3 H3 scope ce fp) [] (wipe σ (own.map (·.2))) H' s' ∧ tn i s'.heap ∧ (∀ b ∈ fp, H' b = none) ∧ W i n H') ?_ m0 ⟨0, H3, I4, st4, nfp, w0⟩
    rintro n s5 ⟨i, H5, I5, st5, n5, w5⟩
    rcases turn i n H5 w5 with ⟨stop, qq⟩ | ⟨go, Nx, hNx, step⟩
    · have td := T.done (X.blk s3 H3 scope ce fp) rfl rfl rfl hc i [] s5 _ H5 (fun _ _ => False) I5 (stat I5 n5) st5 stop
      refine thnF td fun r s6 ⟨hr, I6⟩ => ?_
      subst hr
      -- back in the def's context
      have I7 : Inv X pins σ H5 s6 := I3.call' (ch := fp) I6.os I6.base I6.hok I6.bare fun b hb => ⟨(f3 b hb).1.2.2.2.1, (f3 b hb).1.2.1, (f3 b hb).1.2.2.2.2.1, (f3 b hb).1.2.2.2.2.2⟩
      have nC : H5 s3.heap.objs.size = none := by
        have z : H5 ce.locals = none := I6.free
        rw [cL] at z
        exact z
      obtain ⟨m, hn, _⟩ := I6.loc
      have hn : s6.heap.Ns ce.locals m := hn
      rw [cL] at hn
      exact hRR D s3.heap.objs.size s6 m H5 I7 qq hn (I3.fpOk (Nat.le_refl _) nC)
    · have ti := T.item (X.blk s3 H3 scope ce fp) rfl rfl rfl hc i [] s5 _ H5 (fun _ _ => False) I5 (stat I5 n5) st5 go
      refine thnF ti fun r s6 ⟨u, hr, h6⟩ => ?_
      subst hr
      refine thnF h6 fun _ s7 ⟨x, H7, I7, r7, y7, st7, n7⟩ => ?_
      have I7' := I7.pinned (stat I7 n7) (T.obj _ _ st7)
      refine thnF (pg _ s7 _ H7 x u _ I7' r7 (step x H7 y7)) fun _ s8 ⟨σ8, H8, I8, hw8, q8⟩ => ?_
      refine thnF (pt _ s8 σ8 H8 _ I8 q8) fun b s9 ⟨H9, I9, q9⟩ => ?_
      -- the turn's end
      have fin : ∀ {s' : Shared} {H' : Hp}, Inv (X.blk s3 H3 scope ce fp) ([] ++ pinsAt fp s7.heap) σ8 H' s' → Nx H' → ∃ m, m < n ∧ ∃ i H', Inv (X.blk s3 H3 scope ce fp) [] (wipe σ (own.map (·.2))) H' s' ∧ tn i s'.heap ∧ (∀ b ∈ fp, H' b = none) ∧ W i m H' := fun {s' H'} I' nx => by
        obtain ⟨m', hm, w'⟩ := hNx H' nx
        have pin' : ∀ b ∈ fp, ∀ o, s7.heap.get? b = some o → s'.heap.get? b = some o ∧ H' b = none := fun b hb o e =>
          let z := I'.pin (b, o) (List.mem_append_right _ (List.mem_append_right _ (mem_pinsAt hb e)))
          ⟨z.1, z.2.1⟩
        have hl : (wipe σ (own.map (·.2))).length = σ8.length := by rw [← hw8, wipe_length]
        refine ⟨m', hm, i + 1, H', (I'.unpinned (pins := [])).weak hl (fun j v e => ?_), T.keep _ _ _ st7 fun b hb o e => (pin' b hb o e).1, fun b hb => ?_, w'⟩
        · rw [← hw8] at e
          exact (wipe_some e).1
        · obtain ⟨o, e, _⟩ := T.obj _ _ st7 b hb
          exact (pin' b hb o e).2
      cases b with
      | false =>
        simp only [Bool.false_eq_true, if_false] at q9 ⊢
        exact fin I9 q9
      | true =>
        simp only [if_true] at q9 ⊢
        refine thnF (pe _ s9 σ8 H9 _ I9 q9) fun z s10 ⟨yv, H10, I10, r10, acc, hD10, hz10, nx⟩ => ?_
        exact app_ok (X := X.blk s3 H3 scope ce fp) I10 hD10 hz10 r10 fun s11 I11 => fin I11 nx
  exact codeAny_compStart_list loop (T.self X.A 0 _ _ _ st4 loop)
theorem pe_lc {elt tg iter : Expr} {ifs : List Expr} {scope : Scope} {own : List (Str × Nat)} {pos : Pos} {wi : TI} {g : TG} {tt : TT} {te : TE} (hc : X.calm = true) (hN : X.N.Nodup) (hi : PI X tg iter wi) (ok : BlkOk X.N X.env.scope scope own)
    (hg : ∀ (s : Shared) (H : Hp) (C : Addr) (cl : List (Str × Addr)) (fp : List Addr), PG (X.blk s H scope (compEnvC scope cl C X.env) fp) tg g) (ht : ∀ (s : Shared) (H : Hp) (C : Addr) (cl : List (Str × Addr)) (fp : List Addr), PTs (X.blk s H scope (compEnvC scope cl C X.env) fp) ifs tt)
    (he : ∀ (s : Shared) (H : Hp) (C : Addr) (cl : List (Str × Addr)) (fp : List Addr), PE (X.blk s H scope (compEnvC scope cl C X.env) fp) elt te) (hs : ∀ x, foldedSetIterable iter X.env x = pure x := by intro _; rfl) :
    PE X (.ListComp elt [⟨tg, iter, ifs, 0⟩] scope pos) (tLc wi g tt te (own.map (·.2))) := by
  intro pins s σ H Q I h
  rw [eval_ListComp]
  refine lc_core hc hN I hi ok hg ht he hs h fun D C s' m H' I' q hn f => ⟨m, hn, fun h'' sb => ?_⟩
  obtain ⟨f0, f1, f2, f3, f4, f5⟩ := f
  exact ⟨.ref D, H', I'.turned (t' := s'.toks) (fun b o hb e => (sb.2 b hb).trans e) f0 f1 f3 f4 f5, rfl, q⟩
theorem ps_setLc {i : Nat} {y : Str} {py : Pos} {elt tg iter : Expr} {ifs : List Expr} {scope : Scope} {own : List (Str × Nat)} {pos spos : Pos} {wi : TI} {g : TG} {tt : TT} {te : TE} (hc : X.calm = true) (hN : X.N.Nodup) (hy : X.N[i]? = some y) (hyl : X.env.scope.names.lookup y = some .local)
    (hsw : swapsWith (.ListComp elt [⟨tg, iter, ifs, 0⟩] scope pos) (some (.Name y py)) spos.line X.env = pure true) (hi : PI X tg iter wi) (ok : BlkOk X.N X.env.scope scope own)
    (hg : ∀ (s : Shared) (H : Hp) (C : Addr) (cl : List (Str × Addr)) (fp : List Addr), PG (X.blk s H scope (compEnvC scope cl C X.env) fp) tg g) (ht : ∀ (s : Shared) (H : Hp) (C : Addr) (cl : List (Str × Addr)) (fp : List Addr), PTs (X.blk s H scope (compEnvC scope cl C X.env) fp) ifs tt)
    (he : ∀ (s : Shared) (H : Hp) (C : Addr) (cl : List (Str × Addr)) (fp : List Addr), PE (X.blk s H scope (compEnvC scope cl C X.env) fp) elt te) (hs : ∀ x, foldedSetIterable iter X.env x = pure x := by intro _; rfl) :
    PS X (.Assign [.Name y py] (.ListComp elt [⟨tg, iter, ifs, 0⟩] scope pos) spos) (tAsg (tLc wi g tt te (own.map (·.2))) (gName i)) := by
  intro pins s σ H D I h
  rw [exec_Assign_Name_used _ _ _ _ hsw]
  refine wpAny_bind (wpAny_standAt (wpAny_bind ?_))
  show wpAny _ X.A (do let _ ← comprehension (.ListComp elt [⟨tg, iter, ifs, 0⟩] scope pos) scope X.env (firstIterPos [⟨tg, iter, ifs, 0⟩] pos) (newList []) false (eval iter X.env) (some (assign (.Name y py) X.env))) _ _ s
  have h : tLc wi g tt te (own.map (·.2)) σ H (fun x H1 => gName i x σ H1 D.nx) := h
  refine wpAny_bind (thn (lc_core (Qf := fun _ s' => SP X pins D .next s') hc hN I hi ok hg ht he hs h fun L C s' m H' I' q hn f => ?_) fun _ s' hq => wpAny_pure (wpAny_pure hq))
  show wpAny _ _ (assign (.Name y py) X.env (.ref L)) _ _ _
  refine wpAny_assign_Name (store_ok2 (v := V.ref L) I' hN hy (.inl hyl) rfl (fun s2 I2 ⟨a, sb, ha⟩ => ?_) (.inr hyl))
  obtain ⟨f0, f1, f2, f3, f4, f5⟩ := f
  have haC : C ≠ a := by
    rcases ha with z | z
    · rw [z]; exact f1
    · exact fun e => f4 y a z e.symm
  refine ⟨m, hn.sameBut sb haC, fun h3 sb3 => ?_⟩
  exact ⟨_, H', I2.turned (t' := s2.toks) (fun b o hb e => (sb3.2 b hb).trans e) f0 f1 f3 f4 f5, q⟩
theorem sw_true {elt : Expr} {gs : List Comprehension} {scope : Scope} {pos py : Pos} {y : Str} {l : Nat} {env : Env} (hk : env.scope.kind = .function) (hy : env.scope.names.lookup y = some .local) (hl : (py.line == pos.line) = true)
    (ha : (scope.names.any fun (n, k) => n == y && (k == .local || k == .cell)) = false) : swapsWith (.ListComp elt gs scope pos) (some (.Name y py)) l env = pure true := by
  have ky : env.kindOf y = some .local := hy
  have hb : env.blockKind = .function := by unfold Env.blockKind; rw [hk]; rfl
  unfold swapsWith
  simp only [hb, ky, ha, Expr.pos, hl]
  rfl
end
theorem lc_list {K : PySem.W.Frag} {a : Addr} {xs : List V} {g : TG} {tt : TT} {te : TE} {vs : List Nat} {σ : St} {H1 : Hp} {D : Addr} {Qd : Hp → Prop} (Pv : Nat → Hp → Prop) (h0 : Pv 0 (upd H1 D (.lst []))) (hl : ∀ i H, i ≤ xs.length → Pv i H → SqL K H a xs)
    (hs : ∀ i x H, xs[i]? = some x → Pv i H → g x (wipe σ vs) H fun σ2 H2 => wipe σ2 vs = wipe σ vs ∧ tt σ2 H2 fun b H3 =>
      if b = true then te σ2 H3 fun y H4 => ∃ acc, H4 D = some (.lst acc) ∧ acc.length < sizeLine ∧ Pv (i + 1) (upd H4 D (.lst (acc ++ [y]))) else Pv (i + 1) H3) (hd : ∀ H, Pv xs.length H → Qd H) :
    ∃ W : Nat → Nat → Hp → Prop, (∃ m, W 0 m (upd H1 D (.lst []))) ∧ ∀ i m H, W i m H →
      ((Itl K a).stop i H ∧ Qd H) ∨ ((Itl K a).go i H ∧ ∃ Nx : Hp → Prop, (∀ H', Nx H' → ∃ m', m' < m ∧ W (i + 1) m' H') ∧ ∀ x H', (Itl K a).yld i H x H' → g x (wipe σ vs) H' fun σ2 H2 => wipe σ2 vs = wipe σ vs ∧ tt σ2 H2 fun b H3 =>
        if b = true then te σ2 H3 fun y H4 => ∃ acc, H4 D = some (.lst acc) ∧ acc.length < sizeLine ∧ Nx (upd H4 D (.lst (acc ++ [y]))) else Nx H3) := by
  refine ⟨fun i m H => m = xs.length - i ∧ i ≤ xs.length ∧ Pv i H, ⟨xs.length, by simp, Nat.zero_le _, h0⟩, ?_⟩
  rintro i m H ⟨rfl, hi, p⟩
  have q := hl i H hi p
  by_cases hlt : i < xs.length
  · refine .inr ⟨⟨xs, xs[i], q, by simp [hlt]⟩, Pv (i + 1), fun H' p' => ⟨xs.length - (i + 1), by omega, rfl, hlt, p'⟩, fun x H' y => ?_⟩
    obtain ⟨e, y⟩ := y
    subst e
    exact hs i x _ (y xs q) p
  · have e : i = xs.length := by omega
    subst e
    exact .inl ⟨⟨xs, q, Nat.le_refl _⟩, hd H p⟩
def blkC (N : List Str) (sc scope : Scope) (own : List (Str × Nat)) : Bool :=
  (match scope.kind with | .function => true | _ => false) && (scope.names.all fun y => decide (scope.names.lookup y.1 = some y.2)) && (own.all fun p => decide (N[p.2]? = some p.1)) &&
    (scope.names.all fun y => match y.2 with
      | .free => (match sc.names.lookup y.1 with | some .cell => true | some .free => true | _ => false)
      | .local => decide (y.1 ∈ own.map (·.1)) || decide (y.1 ∉ N)
      | .cell => decide (y.1 ∈ own.map (·.1)) || decide (y.1 ∉ N)
      | _ => true)
theorem blkOk_by {N : List Str} {sc scope : Scope} {own : List (Str × Nat)} (h : blkC N sc scope own = true) : BlkOk N sc scope own := by
  unfold blkC at h
  simp only [Bool.and_eq_true, List.all_eq_true, decide_eq_true_eq] at h
  obtain ⟨⟨⟨h1, h2⟩, h3⟩, h4⟩ := h
  refine ⟨?_, h2, h3, fun y hy e => ?_, fun y hy e => ?_⟩
  · split at h1
    · assumption
    · cases h1
  · have q := h4 y hy
    simp only [e] at q
    split at q <;> first | exact .inl (by assumption) | exact .inr (by assumption) | cases q
  · have q := h4 y hy
    rcases e with e | e <;> (simp only [e, Bool.or_eq_true, decide_eq_true_eq] at q; exact q)
end L2
namespace L2
open PySem PySem.Spec PyProof.Rows
section
variable {prog : Program} {w : World} {A : Around} {R : Result → Shared → Prop} {s : Shared} {elt t0 i0 t1 i1 : Expr} {ifs0 ifs1 : List Expr} {scope : Scope} {pos : Pos} {it acc : Value} {env : Env}
end
section
variable {X : Cx}
def tLc2 (wi : TI) (g : TG) (tt : TT) (wi1 : TI) (g1 : TG) (tt1 : TT) (te : TE) (vs vs1 : List Nat) : TE := fun σ H Q => wi σ H fun J H1 => ∀ D, H1 D = none → ∃ W : Nat → Nat → Hp → Prop, (∃ m, W 0 m (upd H1 D (.lst []))) ∧ ∀ i m H, W i m H →
  (J.stop i H ∧ Q (.ref D) H) ∨ (J.go i H ∧ ∃ Nx : Hp → Prop, (∀ H', Nx H' → ∃ m', m' < m ∧ W (i + 1) m' H') ∧ ∀ x H', J.yld i H x H' → g x (wipe σ vs) H' fun σ2 H2 => wipe σ2 vs = wipe σ vs ∧ tt σ2 H2 fun b H3 =>
    if b = true then wi1 σ2 H3 fun J1 H4 => ∃ W1 : Nat → Nat → Hp → Prop, (∃ m, W1 0 m H4) ∧ ∀ j k H, W1 j k H →
      (J1.stop j H ∧ Nx H) ∨ (J1.go j H ∧ ∃ Nx1 : Hp → Prop, (∀ H', Nx1 H' → ∃ k', k' < k ∧ W1 (j + 1) k' H') ∧ ∀ x H', J1.yld j H x H' → g1 x (wipe σ2 vs1) H' fun σ3 H5 => wipe σ3 vs1 = wipe σ2 vs1 ∧ tt1 σ3 H5 fun b H6 =>
        if b = true then te σ3 H6 fun y H7 => ∃ acc, H7 D = some (.lst acc) ∧ acc.length < sizeLine ∧ Nx1 (upd H7 D (.lst (acc ++ [y]))) else Nx1 H6)
    else Nx H3)
end
end L2
namespace L2
open PySem PySem.Spec PyProof.Rows
section
variable {κ : Type} [DecidableEq κ]
def valV (kvs : List (κ × V)) (k : κ) : Option V := (kvs.find? fun kv => decide (kv.1 = k)).map (·.2)
def putK (kvs : List (κ × V)) (k : κ) (v : V) : List (κ × V) :=
  if (kvs.any fun kv => decide (kv.1 = k)) = true then kvs.map (fun kv => if kv.1 = k then (kv.1, v) else kv) else kvs ++ [(k, v)]
def dropK (kvs : List (κ × V)) (k : κ) : List (κ × V) := kvs.filter fun kv => decide (kv.1 ≠ k)
theorem valV_pos {p : κ × V} {r : List (κ × V)} {k : κ} (e : p.1 = k) : valV (p :: r) k = some p.2 := by simp [valV, List.find?_cons, e]
theorem valV_neg {p : κ × V} {r : List (κ × V)} {k : κ} (e : ¬ p.1 = k) : valV (p :: r) k = valV r k := by simp [valV, List.find?_cons, e]
theorem RelO.isSome_eq {o : Option V} {u : Option Value} (r : RelO o u) : o.isSome = u.isSome := by
  cases o with
  | none => cases u with
    | none => rfl
    | some _ => exact (show False from r).elim
  | some _ => cases u with
    | none => exact (show False from r).elim
    | some _ => rfl
theorem KV.val {kvs : List (κ × V)} {vs : List (κ × Value)} (r : KV kvs vs) (k : κ) : RelO (valV kvs k) (valueAt vs k) := by
  unfold KV at r
  induction r with
  | nil => exact True.intro
  | @cons p q ps qs h t ih =>
    obtain ⟨h1, h2⟩ := h
    by_cases e : p.1 = k
    · have e' : q.1 = k := h1.symm.trans e
      have b : valueAt (q :: qs) k = some q.2 := by simp [valueAt, List.find?_cons, e']
      rw [valV_pos e, b]; exact h2
    · have e' : ¬ q.1 = k := fun z => e (h1.trans z)
      have b : valueAt (q :: qs) k = valueAt qs k := by simp [valueAt, List.find?_cons, e']
      rw [valV_neg e, b]; exact ih
end
theorem kV_is {P : Program} {w : World} {k : Key} {u : Value} (r : RelV (kV k) u) : (mixKind P w).is k u = true := by
  cases k with
  | inl i => obtain ⟨t, e⟩ := (show ∃ t, u = Value.int i t from r); subst e; exact mixKind_int P w i t
  | inr x => obtain ⟨t, e⟩ := (show ∃ t, u = Value.str x t from r); subst e; exact mixKind_str P w x t
abbrev KT (H : Hp) : List (List Key × V) → List (List Key × Addr × Value) → Prop := Paired fun p q => p.1 = q.1 ∧ H q.2.1 = some (.tup (p.1.map kV)) ∧ RelV p.2 q.2.2
section
variable {P : Program} {w : World} {H : Hp} {h : Heap} {a : Addr}
end
def DGet (H : Hp) (a : Addr) (y : V) (r : Option V) : Prop :=
  (∃ kvs k, Rd H a (.dK kvs) ∧ y = kV k ∧ r = valV kvs k) ∨ ∃ kvs k b, Rd H a (.dT kvs) ∧ y = .ref b ∧ H b = some (.tup (k.map kV)) ∧ r = valV kvs k
def DPut (H : Hp) (a : Addr) (y v : V) (H' : Hp) : Prop :=
  (∃ kvs k, H a = some (.dK kvs) ∧ y = kV k ∧ kvs.length < sizeLine ∧ H' = upd H a (.dK (putK kvs k v))) ∨
  ∃ kvs k b, H a = some (.dT kvs) ∧ y = .ref b ∧ H b = some (.tup (k.map kV)) ∧ kvs.length < sizeLine ∧ H' = upd H a (.dT (putK kvs k v))
section
variable {X : Cx} {pins : List (Addr × Obj)} {σ : St} {H : Hp} {s : Shared} {a : Addr} {y v : V} {u r : Value} {o : Option V} {A : Around} {E : Value → Shared → Prop}
end
section
variable {X : Cx} {pins : List (Addr × Obj)} {σ : St} {H : Hp} {s : Shared} {a : Addr} {kvs : List (Key × V)} {k : Key} {u : Value} {A : Around} {E : Value → Shared → Prop}
end
def NoSl (i : Expr) : Prop := ∀ ov iv, subscripted i false ov iv = operate [ov, iv] (getItem ov iv)
theorem subD_of {prog : Program} {w : World} {A : Around} {E : Value → Shared → Prop} {s : Shared} {env : Env} {value slice : Expr} {pos : Pos} {T id : String} {Q : Value → Shared → Prop}
    (hl : typeLookup (.type T) "__getitem__" = pure (some (.builtin id))) (hs : NoSl slice)
    (h : wpAny (model prog w) A (eval value env) (fun o s₁ => wpAny (model prog w) A (eval slice env) (fun i s₂ => s₂.TypeIs o T ∧ wpAny (model prog w) A (getItem o i) Q E s₂) E s₁) E s) :
    wpAny (model prog w) A (eval (.Subscript value slice pos) env) Q E s := by
  refine Subscript_ (wpAny_mono h (fun o s₁ h₁ => wpAny_mono h₁ (fun i s₂ h₂ => ?_) fun _ _ x => x) fun _ _ x => x)
  obtain ⟨hT, h₂⟩ := h₂
  unfold subscriptTail
  refine wpAny_bind ?_
  rw [getitemInPython_of_ne hT.not_modules]
  refine wpAny_bind (wpAny_specialOf hT hl ?_)
  have fin : wpAny (model prog w) A (subscripted slice false o i) (fun r s₃ => wpAny (model prog w) A (letTemporaryGo value o r >>= fun _ => pure r) Q E s₃) E s₂ := by
    rw [hs o i]
    exact wpAny_operating (wpAny_mono h₂ (fun r s₃ h₃ => wpAny_bind (wpAny_letTemporaryGo (wpAny_pure h₃))) fun _ _ x => x)
  first
    | exact wpAny_pure (wpAny_bind fin)
    | exact wpAny_bind (wpAny_pure (wpAny_bind fin))
    | exact wpAny_bind fin
def tDGet (td ty : TE) : TE := fun σ H Q => td σ H fun x H1 => ty σ H1 fun y H2 => ∃ a v, x = .ref a ∧ DGet H2 a y (some v) ∧ Q v H2
def tDIn (ty td : TE) : TE := fun σ H Q => ty σ H fun y H1 => td σ H1 fun x H2 => ∃ a o, x = .ref a ∧ DGet H2 a y o ∧ Q (.bl o.isSome) H2
def tDNotIn (ty td : TE) : TE := fun σ H Q => ty σ H fun y H1 => td σ H1 fun x H2 => ∃ a o, x = .ref a ∧ DGet H2 a y o ∧ Q (.bl (!o.isSome)) H2
def sDPut (td ty tv : TE) : TS := fun D σ H => tv σ H fun v H1 => td σ H1 fun x H2 => ty σ H2 fun y H3 => ∃ a H4, x = .ref a ∧ DPut H3 a y v H4 ∧ D.nx σ H4
def sDAug (td ty tv : TE) (rd : V → V → Hp → VK → Prop) : TS := fun D σ H => td σ H fun x H1 => ty σ H1 fun y H2 => ∃ a v, x = .ref a ∧ DGet H2 a y (some v) ∧
  tv σ H2 fun y2 H3 => rd v y2 H3 fun z H4 => ∃ H5, DPut H4 a y z H5 ∧ D.nx σ H5
def sDDel (td ty : TE) : TS := fun D σ H => td σ H fun x H1 => ty σ H1 fun y H2 => ∃ a kvs k, x = .ref a ∧ H2 a = some (.dK kvs) ∧ y = kV k ∧ (valV kvs k).isSome = true ∧ D.nx σ (upd H2 a (.dK (dropK kvs k)))
section
variable {X : Cx} {o i e value : Expr} {pos pos' tpos : Pos} {td ty tv : TE}
end
def tDNewK : TE := fun _ H Q => ∀ p, H p = none → Q (.ref p) (upd H p (.dK []))
def tDNewT : TE := fun _ H Q => ∀ p, H p = none → Q (.ref p) (upd H p (.dT []))
section
variable {X : Cx} {pos : Pos}
end
def tPairs : List (TE × TE) → St → Hp → (List (V × V) → Hp → Prop) → Prop
  | [], _, H, Q => Q [] H
  | (tk, tv) :: r, σ, H, Q => tk σ H fun x H1 => tv σ H1 fun y H2 => tPairs r σ H2 fun ps H3 => Q ((x, y) :: ps) H3
abbrev VV : List (V × V) → List (Value × Value) → Prop := Paired fun p q => RelV p.1 q.1 ∧ RelV p.2 q.2
def PPs (X : Cx) (pos : Pos) (keys : List (Option Expr)) (values : List Expr) (trs : List (TE × TE)) : Prop :=
  ∀ (pins : List (Addr × Obj)) (s : Shared) (σ : St) (H : Hp) (Q : List (V × V) → Hp → Prop), Inv X pins σ H s → tPairs trs σ H Q →
    wpAny (model X.prog X.w) X.A (evalPairs (pairTrees keys values X.env pos)) (fun vs s' => ∃ ps H', Inv X pins σ H' s' ∧ VV ps vs ∧ Q ps H') X.xe s
def mergeK (kvs more : List (Key × V)) : List (Key × V) := more.foldl (fun acc kv => putK acc kv.1 kv.2) kvs
def tDisp (trs : List (TE × TE)) : TE := fun σ H Q => ∀ p, H p = none → tPairs trs σ (upd H p (.dK [])) fun ps H2 => H2 p = some (.dK []) ∧ ∃ kvs : List (Key × V), ps = kvs.map (fun kv => (kV kv.1, kv.2)) ∧ kvs.length ≤ 15 ∧ Q (.ref p) (upd H2 p (.dK (mergeK [] kvs)))
structure M1 (X : Cx) (o : Expr) (m : Str) (apos : Pos) (e : Expr) (cpos : Pos) : Prop where
  base : attributeBase o m X.env (eval o X.env) = eval o X.env
  few : ((backTo cpos (starEach [e] X.env)).all (fun x => !x.1) && (backToKw cpos (keywordEach [] X.env)).all (fun x => x.1.isSome)
    && decide (([e] : List Expr).length + ([] : List Keyword).length + (if ([] : List Keyword).isEmpty then 0 else 1) < 30)) = true
  line : (apos.endLine == cpos.line) = true
  trees : backTo cpos (starEach [e] X.env) = [(false, eval e X.env)]
structure M2 (X : Cx) (o : Expr) (m : Str) (apos : Pos) (e f : Expr) (cpos : Pos) : Prop where
  base : attributeBase o m X.env (eval o X.env) = eval o X.env
  few : ((backTo cpos (starEach [e, f] X.env)).all (fun x => !x.1) && (backToKw cpos (keywordEach [] X.env)).all (fun x => x.1.isSome)
    && decide (([e, f] : List Expr).length + ([] : List Keyword).length + (if ([] : List Keyword).isEmpty then 0 else 1) < 30)) = true
  line : (apos.endLine == cpos.line) = true
  trees : backTo cpos (starEach [e, f] X.env) = [(false, eval e X.env), (false, eval f X.env)]
def IsD (H : Hp) (a : Addr) : Prop := (∃ kvs, Rd H a (.dK kvs)) ∨ ∃ kvs, Rd H a (.dT kvs)
section
variable {X : Cx} {pins : List (Addr × Obj)} {σ : St} {H : Hp} {s : Shared} {a : Addr} {y d : V} {u r : Value} {o : Option V} {A : Around} {E : Value → Shared → Prop}
end
def tDGet1 (td ty : TE) : TE := fun σ H Q => td σ H fun x H1 => ∃ a, x = .ref a ∧ IsD H1 a ∧ ty σ H1 fun y H2 => ∃ o, DGet H2 a y o ∧ Q (o.getD .non) H2
def tDGet2 (td ty tx : TE) : TE := fun σ H Q => td σ H fun x H1 => ∃ a, x = .ref a ∧ IsD H1 a ∧ ty σ H1 fun y H2 => tx σ H2 fun z H3 => ∃ o, DGet H3 a y o ∧ Q (o.getD z) H3
def tDPop1 (td ty : TE) : TE := fun σ H Q => td σ H fun x H1 => ∃ a, x = .ref a ∧ IsD H1 a ∧ ty σ H1 fun y H2 => ∃ kvs k v, H2 a = some (.dK kvs) ∧ y = kV k ∧ valV kvs k = some v ∧ Q v (upd H2 a (.dK (dropK kvs k)))
def tDPop2 (td ty tx : TE) : TE := fun σ H Q => td σ H fun x H1 => ∃ a, x = .ref a ∧ IsD H1 a ∧ ty σ H1 fun y H2 => tx σ H2 fun z H3 => ∃ kvs k, H3 a = some (.dK kvs) ∧ y = kV k ∧
  (∀ v, valV kvs k = some v → Q v (upd H3 a (.dK (dropK kvs k)))) ∧ (valV kvs k = none → Q z H3)
section
variable {X : Cx} {o e f : Expr} {apos cpos : Pos} {td ty tx : TE}
end
section
variable {X : Cx} {pins : List (Addr × Obj)} {σ : St} {H : Hp} {s : Shared} {a : Addr} {kvs : List (Key × V)} {A : Around} {E : Value → Shared → Prop}
end
section
variable {X : Cx} {pins : List (Addr × Obj)} {σ : St} {H : Hp} {s : Shared} {a : Addr} {y : V} {u : Value} {A : Around} {E : Value → Shared → Prop}
end
end L2
namespace L2
open PySem PySem.Spec PyProof.Rows
section
variable {prog : Program} {w : World} {A : Around} {E : Value → Shared → Prop}
end
section
variable {X : Cx}
end
end L2
namespace L2
open PySem PySem.Spec PyProof.Rows
section
variable {X : Cx} {pins : List (Addr × Obj)} {σ : St} {H : Hp} {s : Shared} {h' : Heap}
theorem Inv.turnedNew {t' : Nat} {ch : List Addr} {T : Addr} {ob : HO} (I : Inv X pins σ H s) (k : ∀ b o, b ∉ ch → s.heap.get? b = some o → h'.get? b = some o) (hf : ∀ b ∈ ch, FpOk X pins H b) (hT : s.heap.objs.size ≤ T)
    (new : ObjOk X.prog X.w (upd H T ob) h' T ob) : Inv X pins σ (upd H T ob) { s with heap := h', toks := t' } := by
  have hn : H T = none := I.hok.fresh hT
  have nit : ∀ b u, H b = some u → b ∉ ch := fun b u e z => by
    have q := (hf b z).1
    rw [q] at e; cases e
  refine I.step (g' := s.gens) (d' := s.drawn) (ch := ch) (fun b hb => ⟨(hf b hb).2.2.2.1, (hf b hb).2.1, (hf b hb).2.2.2.2.1, (hf b hb).2.2.2.2.2⟩) (fun b o _ _ hc e _ => k b o hc e) (fun b o _ _ hc e _ => ⟨o.slots, k b o hc e⟩)
    (fun b o _ e n => ?_) (fun b o hc e => ⟨o, k b o hc e⟩) (fun b xs e => ?_) (fun b o u e => ?_) (fun b ps e => ⟨#[], ?_⟩) (fun m hm => ?_) (fun b u e => ?_) I.bare
  · rw [upd_ne (Nat.ne_of_lt (Nat.lt_of_lt_of_le (Heap.lt_size e) hT))]; exact n
  · rw [upd_ne (ne_of_none e hn)]; exact e
  · rw [upd_ne (ne_of_none e hn)]; exact e
  · rw [upd_ne (ne_of_none e hn), e]; simp
  · obtain ⟨o, es, ep, ho, r⟩ := hm
    exact ⟨o, es, ep, k _ o (fun z => (hf _ z).2.1 rfl) ho, r⟩
  · by_cases hb : b = T
    · subst hb
      rw [upd_same] at e
      cases e
      exact new
    · rw [upd_ne hb] at e
      refine (I.hok b u e).stay (fun c v hc q => k c v ?_ q) (fun c q => by rw [upd_ne (ne_of_none q hn)]; exact q) fun c xs q => by rw [upd_ne (ne_of_none q hn)]; exact q
      rcases hc with z | z
      · rw [z]; exact nit b u e
      · exact nit c _ z
end
def tLock (t : TS) : TS := fun D σ H => ∃ d u, H d = some u ∧ Mut (some u) ∧ ∀ od, t ⟨fun σ' H' => H' d = some (.frz od u) ∧ D.nx σ' (upd H' d u), fun v H' => H' d = some (.frz od u) ∧ D.rt v (upd H' d u), fun σ' H' => H' d = some (.frz od u) ∧ D.bk σ' (upd H' d u), fun σ' H' => H' d = some (.frz od u) ∧ D.ct σ' (upd H' d u)⟩ σ (upd H d (.frz od u))
def tLockE (t : TE) : TE := fun σ H Q => ∃ d u, H d = some u ∧ Mut (some u) ∧ ∀ od, t σ (upd H d (.frz od u)) fun v H' => H' d = some (.frz od u) ∧ Q v (upd H' d u)
section
variable {X : Cx}
theorem pi_one {tg : Expr} {pins : List (Addr × Obj)} {σ : St} {H : Hp} {s : Shared} {R : It → Hp → Prop} {J : It} {tn : Nat → Heap → Prop} {tk : Nat} (I : Inv X pins σ H s) (o : Obj)
    (T : Turn X.prog X.w X.K tg J [s.heap.objs.size] s.heap.objs.size tn) (st : tn 0 (s.heap.push o)) (q : R J H) : PIE X pins σ tg R (.ref s.heap.objs.size) { s with heap := s.heap.push o, toks := tk } := by
  refine ⟨s.heap.objs.size, [s.heap.objs.size], tn, J, H, rfl, I.kept fun b ob e => Heap.get?_push_of_some _ e, T, st, fun b hb => ?_, q⟩
  have e : b = s.heap.objs.size := by simpa using hb
  subst e
  exact I.fpOk (Nat.le_refl _) (I.hok.fresh (Nat.le_refl _))
end
def Itc (lo c : Int) (n : Nat) : It := ⟨fun i _ => i < n, fun i H x H' => H' = H ∧ x = .int (lo + (i : Nat) * c), fun i _ => n ≤ i⟩
def RgC (i j c : Int) (n : Nat) : Prop := c ≠ 0 ∧ c.natAbs < 1073741824 ∧ Builtin.Range.small i j c = true ∧ Builtin.Range.rangeSize i j c = n
def iRng3 (ta : TA) : TI := fun σ H R => ta σ H fun vs H1 => ∃ (i j c : Int) (n : Nat), vs = [.int i, .int j, .int c] ∧ RgC i j c n ∧ R (Itc i c n) H1
section
variable {X : Cx} {tg : Expr}
end
def Itv (K : PySem.W.Frag) (a : Addr) (n : Nat) : It :=
  ⟨fun i H => i < n ∧ ∃ (xs : List V) (x : V), SqL K H a xs ∧ xs[n - 1 - i]? = some x, fun i H x H' => H' = H ∧ ∀ xs, SqL K H a xs → xs[n - 1 - i]? = some x, fun i _ => n ≤ i⟩
def iRev (K : PySem.W.Frag) (ta : TA) : TI := fun σ H R => ta σ H fun vs H1 => ∃ (a : Addr) (xs : List V), vs = [.ref a] ∧ SqL K H1 a xs ∧ R (Itv K a xs.length) H1
section
variable {X : Cx} {tg : Expr}
end
def Its (x : Str) : It := ⟨fun i _ => i < x.cps.size, fun i H v H' => H' = H ∧ ∃ c, x.cps[i]? = some c ∧ v = .str ⟨#[c]⟩, fun i _ => x.cps.size ≤ i⟩
theorem turn_str {P : Program} {w : World} {K : PySem.W.Frag} {tg : Expr} (it : Addr) (x : Str) (t : Tok) (ty : String) (hty : ty = "str_ascii_iterator" ∨ ty = "str_iterator") :
    Turn P w K tg (Its x) [it] it (fun i h => h.IsStrIter it ty x t i) where
  mem := by simp
  obj := fun i h st b hb => by
    have e : b = it := by simpa using hb
    subst e
    obtain ⟨o, e, c, d⟩ := st
    exact ⟨o, e, fun v z => by rw [d] at z; cases z⟩
  keep := fun i h h' st k => let ⟨o, ho, r⟩ := st; ⟨o, k it (by simp) o ho, r⟩
  item := by
    intro X hP hw hK hc i pins s σ H E I hf st hg
    subst hP hw hK
    obtain ⟨f0, f1, f2, f3, f4, f5⟩ := hf it (by simp)
    have W : Walks X.prog X.w X.A it [it] [it] x.cps.size (SignAt x) (fun i h => h.IsStrIter it ty x t i) := by
      rcases hty with e | e
      · rw [e]; exact Walks.strAscii (I.ok.hd hc) it x t
      · rw [e]; exact Walks.strWide (I.ok.hd hc) it x t
    have hno : ["enumerate", "zip", "dict_itemiterator", "dict_reverseitemiterator", "odict_iterator", "itertools.zip_longest", "itertools.pairwise"].contains ty = false := by
      rcases hty with e | e
      · rw [e]; decide
      · rw [e]; decide
    refine W.item i s _ _ hg st fun v h' tk hv st' kk => ?_
    obtain ⟨c, u, hcx, rfl⟩ := hv
    have I1 : Inv X pins σ H { s with heap := h', toks := tk } := I.turned (fun b o hb e => kk b o (by simpa using hb) e) f0 f1 f3 f4 f5
    obtain ⟨oi, e, cc, dd⟩ := id st'
    exact ⟨_, rfl, go_of (s := { s with heap := h', toks := tk }) e cc dd hno ⟨.str ⟨#[c]⟩, H, I1, ⟨u, rfl⟩, ⟨rfl, c, hcx, rfl⟩, st', fun b hb => (hf b hb).1⟩⟩
  done := by
    intro X hP hw hK hc i pins s σ H E I hf st hg
    subst hP hw hK
    obtain ⟨f0, f1, f2, f3, f4, f5⟩ := hf it (by simp)
    have hx : x.cps[i]? = none := Array.getElem?_eq_none hg
    rcases hty with e | e
    · rw [e] at st
      exact wpAny_pyNext_ascii_end (I.ok.hd hc) st hx fun h' eb => ⟨rfl, I.turned (t' := s.toks) (fun b o hb e => eb b o hb e) f0 f1 f3 f4 f5⟩
    · rw [e] at st
      exact wpAny_pyNext_wide_end (I.ok.hd hc) st hx fun h' eb => ⟨rfl, I.turned (t' := s.toks) (fun b o hb e => eb b o hb e) f0 f1 f3 f4 f5⟩
  self := fun A i s Q E st h => by
    rcases hty with e | e
    · rw [e] at st; exact wpAny_pyIter_striter_ascii st h
    · rw [e] at st; exact wpAny_pyIter_striter_wide st h
def iStr (te : TE) : TI := fun σ H R => te σ H fun v H1 => ∃ x, v = .str x ∧ R (Its x) H1
theorem pi_str {X : Cx} {tg e : Expr} {te : TE} (he : PE X e te) : PI X tg e (iStr te) := by
  intro pins s σ H R I h
  refine thn (he pins s σ H _ I h) fun v s1 ⟨y, H1, I1, r1, x, ex, q⟩ => ?_
  subst ex
  obtain ⟨t, rfl⟩ := r1
  cases ha : x.cps.all (· < 128)
  · exact wpAny_pyIter_wide ha (pi_one (tk := s1.toks) I1 _ (turn_str _ x t "str_iterator" (.inr rfl)) ⟨_, Heap.get?_push_size _ rfl, rfl, rfl⟩ q)
  · exact wpAny_pyIter_ascii ha (pi_one (tk := s1.toks) I1 _ (turn_str _ x t "str_ascii_iterator" (.inl rfl)) ⟨_, Heap.get?_push_size _ rfl, rfl, rfl⟩ q)
section
variable {prog : Program} {w : World} {A : Around} {E : Value → Shared → Prop} {s : Shared}
theorem iter_keys {d : Addr} {o : Obj} {es : Array DictEntry} {ep : Nat} {Q : Value → Shared → Prop} (hd : (d == sysModules) = false) (ho : s.heap.get? d = some o) (hc : o.ExactDict) (hdat : o.data = .dict es ep)
    (hQ : Q (.ref s.heap.objs.size) { s with heap := s.heap.push { cls := .type "dict_keyiterator", data := .fields #[.ref d, .int 0 0, .int es.size 0, .int ep 0] } }) :
    wpAny (model prog w) A (pyIter (.ref d)) Q E s := by
  have hT : s.TypeIs (.ref d) "dict" := ⟨o, ho, hc.1⟩
  refine wpAny_pyIter_slot hT F.slot_dict_iter (wpAny_call_entry F.slot_dict_iter hT F.entry_dict_iter ?_ (F.args_dict_iter_1 _))
  unfold Builtin.«dict.__iter__»
  refine wpAny_bind ?_
  unfold Builtin.Dict.dictSlotNone
  refine wpAny_bind (wpAny_notOrdered_dict hT ?_)
  show wpAny _ _ (pure (Value.ref d)) _ _ s
  refine wpAny_pure ?_
  show wpAny _ _ (Builtin.Dict.showsAll d >>= _) _ _ s
  unfold Builtin.Dict.showsAll
  rw [if_neg (by rw [hd]; exact Bool.false_ne_true)]
  refine wpAny_bind (wpAny_pure ?_)
  refine wpAny_bind (wpAny_dictEntries ho hdat ?_)
  refine wpAny_bind (wpAny_dictEpoch ho hdat ?_)
  refine wpAny_bind (wpAny_newObj_type (wpAny_pure ⟨_, rfl, "dict_keyiterator", _, ⟨_, Heap.get?_push_size _ rfl, rfl⟩, F.slot_dict_keyiterator_next.lookup, ?_⟩))
  simpa [rawInt] using hQ
theorem next_key_end {it d : Addr} {i n ep : Nat} {od : Obj} {es : Array DictEntry} {Q : Option Value → Shared → Prop} (hh : A.handled = none) (hit : s.heap.IsKeyIter it d i n ep) (hod : s.heap.get? d = some od) (hdd : od.data = .dict es ep)
    (hsz : es.size = n) (hge : n ≤ i) (hQ : ∀ h', Heap.ExtBut it s.heap h' → Q none { s with heap := h' }) : wpAny (model prog w) A (pyNext (.ref it)) Q E s := by
  obtain ⟨o, ho, hc, hd⟩ := id hit
  unfold pyNext
  refine wpAny_bind (wpAny_attempt (wpAny_callSpecial?_slot (name := Str.ofString "__next__") hit.typeIs F.slot_dict_keyiterator_next
    (wpAny_call_entry F.slot_dict_keyiterator_next hit.typeIs F.entry_dict_keyiterator_next ?_ (F.args_dict_keyiterator_next_1 _))))
  refine wpAny_bind (wpAny_pure ?_)
  refine wpAny_bind ?_
  refine wpAny_bind ?_
  first | refine wpAny_bind (wpAny_typeNameOfWhole_keyiter hit.typeIs (wpAny_pure ?_)) | refine wpAny_bind (wpAny_typeNameOf_keyiter hit.typeIs (wpAny_pure ?_))
  refine wpAny_bind (wpAny_fieldsOf ho hd ?_)
  have hown : Builtin.Dict_items.ownsTuple "dict_keyiterator" = false := by decide
  simp only [hown, Bool.false_eq_true, if_false]
  show wpAny _ _ (if (Value.ref d == Value.none) = true then _ else _) _ _ s
  rw [if_neg (show ¬ ((Value.ref d == Value.none) = true) from Bool.false_ne_true)]
  refine wpAny_bind (wpAny_pure ?_)
  refine wpAny_bind (wpAny_dictEntries hod hdd ?_)
  rw [if_neg (by rw [hsz]; simp)]
  refine wpAny_bind (wpAny_pure ?_)
  refine wpAny_bind (wpAny_dictEpoch hod hdd ?_)
  rw [if_neg (by simp)]
  refine wpAny_pure ?_
  have hge' : es.size ≤ i := by rw [hsz]; exact hge
  simp only [show ¬ ((i : Int) < 0) from by omega, if_false, Int.toNat_natCast, Array.getElem?_eq_none hge']
  refine wpAny_bind ?_
  first | refine wpAny_bind (wpAny_typeNameOfWhole_keyiter hit.typeIs (wpAny_pure ?_)) | refine wpAny_bind (wpAny_typeNameOf_keyiter hit.typeIs (wpAny_pure ?_))
  show wpAny _ _ (setField (.ref it) 0 .none >>= _) _ _ s
  refine wpAny_bind (wpAny_setField ho hd (by simp) ?_)
  show wpAny _ _ (newExc (.type "StopIteration") [] >>= _) _ _ _
  refine wpAny_bind ?_
  simp only [newExc, newTuple]
  refine wpAny_bind (wpAny_newObj_type ?_ (by size_fits))
  refine wpAny_bind (m := firstArgMember _ _) (wpAny_of_eq (a := Value.none) (by first | rfl | (simp only [firstArgMember]; rfl)) ?_)
  refine wpAny_newObj_type ?_ (by size_fits)
  simp only [raiseNew]
  refine wpAny_bind (wpAny_handled ?_)
  rw [show A.in1.handled = none from hh]
  refine wpAny_bind (wpAny_pure (wpAny_throw ?_))
  refine wpAny_bind (wpAny_isInstance (T := "StopIteration") (b := true) ⟨_, Heap.get?_push_size _ rfl, rfl⟩ isSubtype_stop ?_)
  exact wpAny_pure (hQ _ (((Heap.SameBut.update ..).extBut.push _).push _))
end
theorem kv_get {κ : Type} {kvs : List (κ × V)} {vs : List (κ × Value)} (h : KV kvs vs) : ∀ {i : Nat} {k : κ} {v : V}, kvs[i]? = some (k, v) → ∃ u, vs[i]? = some (k, u) ∧ RelV v u := by
  unfold KV at h
  induction h with
  | nil => intro i k v e; simp at e
  | @cons a b l₁ l₂ r t ih =>
    intro i k v e
    cases i with
    | zero =>
      simp only [List.getElem?_cons_zero, Option.some.injEq] at e
      subst e
      refine ⟨b.2, ?_, r.2⟩
      simp only [List.getElem?_cons_zero]
      exact congrArg some (Prod.ext r.1.symm rfl)
    | succ j =>
      simp only [List.getElem?_cons_succ] at e ⊢
      exact ih e
theorem relV_key {k : Key} {u : Value} (h : keyIs k u = true) : RelV (kV k) u := by
  rcases keyIs_shape h with ⟨i, t, rfl, rfl⟩ | ⟨x, t, rfl, rfl⟩
  · exact ⟨t, rfl⟩
  · exact ⟨t, rfl⟩
section
variable {X : Cx} {pins : List (Addr × Obj)} {σ : St} {H : Hp} {s : Shared} {d : Addr} {o : Obj}
end
def Itk (d : Addr) (o : Obj) (kvs : List (Key × V)) : It :=
  ⟨fun i H => H d = some (.frz o (.dK kvs)) ∧ i < kvs.length, fun i H x H' => H' = H ∧ ∃ k v, kvs[i]? = some (k, v) ∧ x = kV k, fun i H => H d = some (.frz o (.dK kvs)) ∧ kvs.length ≤ i⟩
def Itkt (d : Addr) (o : Obj) (kvs : List (List Key × V)) : It :=
  ⟨fun i H => H d = some (.frz o (.dT kvs)) ∧ i < kvs.length, fun i H x H' => H' = H ∧ ∃ (k : List Key) (v : V) (q : Addr), kvs[i]? = some (k, v) ∧ x = .ref q ∧ H q = some (.tup (k.map kV)), fun i H => H d = some (.frz o (.dT kvs)) ∧ kvs.length ≤ i⟩
def Itd (d : Addr) (o : Obj) (kvs : List (Key × V)) : It :=
  ⟨fun i H => H d = some (.frz o (.dK kvs)) ∧ i < kvs.length, fun i H x H' => H' = H ∧ ∃ k, kvs[i]? = some (k, x), fun i H => H d = some (.frz o (.dK kvs)) ∧ kvs.length ≤ i⟩
def Iti (d : Addr) (o : Obj) (kvs : List (Key × V)) : It :=
  ⟨fun i H => H d = some (.frz o (.dK kvs)) ∧ i < kvs.length, fun i H x H' => ∃ T k v, kvs[i]? = some (k, v) ∧ x = .ref T ∧ H T = none ∧ H' = upd H T (.tup [kV k, v]), fun i H => H d = some (.frz o (.dK kvs)) ∧ kvs.length ≤ i⟩
theorem dict_ep {o : Obj} {es es' : Array DictEntry} {ep ep' : Nat} (h : o.data = .dict es ep) (h' : o.data = .dict es' ep') : es' = es ∧ ep' = ep := by
  rw [h] at h'
  cases h'
  exact ⟨rfl, rfl⟩
section
variable {P : Program} {w : World} {K : PySem.W.Frag} {tg : Expr} {d : Addr} {o : Obj} {es : Array DictEntry} {ep : Nat}
end
def iKeys (td : TE) : TI := fun σ H R => td σ H fun x H1 => ∃ d o, x = .ref d ∧ ((∃ kvs, H1 d = some (.frz o (.dK kvs)) ∧ R (Itk d o kvs) H1) ∨ ∃ kvs, H1 d = some (.frz o (.dT kvs)) ∧ R (Itkt d o kvs) H1)
def iVals (td : TE) : TI := fun σ H R => td σ H fun x H1 => ∃ d o kvs, x = .ref d ∧ H1 d = some (.frz o (.dK kvs)) ∧ R (Itd d o kvs) H1
def iItems (td : TE) : TI := fun σ H R => td σ H fun x H1 => ∃ d o kvs, x = .ref d ∧ H1 d = some (.frz o (.dK kvs)) ∧ R (Iti d o kvs) H1
def iKeysM (td : TE) : TI := fun σ H R => td σ H fun x H1 => ∃ d o kvs, x = .ref d ∧ H1 d = some (.frz o (.dK kvs)) ∧ R (Itk d o kvs) H1
section
variable {X : Cx} {tg e : Expr} {td : TE} {apos cpos : Pos}
end
def Ite (K : PySem.W.Frag) (a : Addr) : It :=
  ⟨fun i H => ∃ (xs : List V) (x : V), SqL K H a xs ∧ xs[i]? = some x, fun i H v H' => ∃ T x, v = .ref T ∧ H T = none ∧ H' = upd H T (.tup [.int (i : Nat), x]) ∧ ∀ xs, SqL K H a xs → xs[i]? = some x, fun i H => ∃ xs : List V, SqL K H a xs ∧ xs.length ≤ i⟩
theorem turn_enum {P : Program} {w : World} {K : PySem.W.Frag} {elts : List Expr} {kk : Nat} {tpos : Pos} (a e it : Addr) :
    Turn P w K (.Tuple elts kk tpos) (Ite K a) [e, it] e (fun i h => (∃ old, IsEnum h e it ((i : Nat) : Int) old) ∧ h.IsListIter it a i ∧ e ≠ it) where
  mem := by simp
  obj := fun i h st b hb => by
    obtain ⟨⟨old, he⟩, ⟨o, ho, hc, hd⟩, _⟩ := st
    have e' : b = e ∨ b = it := by simpa using hb
    rcases e' with z | z
    · rw [z]; exact ⟨_, he, fun v q => nomatch q⟩
    · rw [z]; exact ⟨o, ho, fun v q => by rw [hd] at q; cases q⟩
  keep := fun i h h' st k => let ⟨⟨old, he⟩, hi, hne⟩ := st; ⟨⟨old, k e (by simp) _ he⟩, hi.at fun o q => k it (by simp) o q, hne⟩
  item := by
    intro X hP hw hK hc i pins s σ H E I hf st hg
    subst hP hw hK
    obtain ⟨⟨old, he⟩, hit, hne⟩ := st
    obtain ⟨xs, x, hq, hx⟩ := hg
    obtain ⟨its, rv, p, hz⟩ := I.list hq
    obtain ⟨u, hu, ru⟩ := rv.get hx
    have hel : e < s.heap.objs.size := Heap.lt_size he
    have hil : it < s.heap.objs.size := by obtain ⟨_, q, _⟩ := hit; exact Heap.lt_size q
    refine wpAny_pyNext_enum_item he hit p.isList (x := u) (by simpa using hu) hne fun h' ho hit' hT hsz hk => ?_
    refine ⟨_, rfl, wpAny_letOwnedTupleGo_enum (s := { s with heap := h', toks := s.toks + 1 }) ho fun h'' he' sb => ?_⟩
    have hT2 : h''.get? s.heap.objs.size = some { cls := .type "tuple", data := .seq #[.int i s.toks, u] } := (sb.2 _ (Nat.ne_of_gt hel)).trans hT
    have new : ObjOk X.prog X.w (upd H s.heap.objs.size (.tup [.int (i : Nat), x])) h'' s.heap.objs.size (.tup [.int (i : Nat), x]) :=
      ⟨by show 2 ≤ sizeLine; decide, [.int i s.toks, u], .cons ⟨_, rfl⟩ (.cons ru .nil), ⟨_, hT2, rfl, _, rfl⟩⟩
    have I1 : Inv X pins σ (upd H s.heap.objs.size (.tup [.int (i : Nat), x])) { s with heap := h'', toks := s.toks + 1 } :=
      I.turnedNew (ch := [e, it]) (fun b ob hb q => (sb.2 b (fun z => hb (by simp [z]))).trans (hk b ob (fun z => hb (by simp [z])) (fun z => hb (by simp [z])) q)) hf (Nat.le_refl _) new
    refine ⟨.ref s.heap.objs.size, _, I1, rfl, ⟨_, x, rfl, I.hok.fresh (Nat.le_refl _), rfl, fun ys hy => by rw [I.list_inj hy hq]; exact hx⟩, ⟨⟨u, ?_⟩, hit'.at fun o q => (sb.2 it (Ne.symm hne)).trans q, hne⟩, fun b hb => ?_⟩
    · have e1 : ((i + 1 : Nat) : Int) = (i : Int) + 1 := by omega
      rw [e1]; exact he'
    · have hb' : b < s.heap.objs.size := by
        have e' : b = e ∨ b = it := by simpa using hb
        rcases e' with z | z
        · rw [z]; exact hel
        · rw [z]; exact hil
      rw [upd_ne (Nat.ne_of_lt hb')]
      exact (hf b hb).1
  done := by
    intro X hP hw hK hc i pins s σ H E I hf st hg
    subst hP hw hK
    obtain ⟨⟨old, he⟩, hit, hne⟩ := st
    obtain ⟨xs, hq, hx⟩ := hg
    obtain ⟨its, rv, p, hz⟩ := I.list hq
    obtain ⟨f0, f1, f2, f3, f4, f5⟩ := hf it (by simp)
    have hl := rv.length
    exact wpAny_pyNext_enum_end (I.ok.hd hc) he hit p.isList (by simp; omega) fun h' eb => ⟨rfl, I.turned (t' := s.toks) (fun b o hb q => eb b o hb q) f0 f1 f3 f4 f5⟩
  self := fun A i s Q E st h => let ⟨⟨_, he⟩, _⟩ := st; wpAny_pyIter_enum he h
def iEnum (K : PySem.W.Frag) (ta : TA) : TI := fun σ H R => ta σ H fun vs H1 => ∃ a xs, vs = [.ref a] ∧ SqL K H1 a xs ∧ R (Ite K a) H1
theorem pi_enum {X : Cx} {e : Expr} {ta : TA} {p pos tpos : Pos} {elts : List Expr} {kk : Nat} (hg : Gl X "enumerate") (hm : X.mg "enumerate" = none) (ha : PA X [e] ta) (hs : starEach [e] X.env = [(false, eval e X.env)] := by rfl) :
    PI X (.Tuple elts kk tpos) (.Call (.Name "enumerate" p) [e] [] pos) (iEnum X.K ta) := by
  intro pins s σ H R I h
  refine Call_ (ld_blt I hg hm boot_enumerate (PyProof.Rows.callWith_type1 (thn (ha pos pins s σ H _ I h) fun us s1 ⟨vs, H1, I1, r1, q1⟩ => ?_) hs rfl))
  obtain ⟨a, xs, ex, hq, q⟩ := q1
  subst ex
  cases r1 with
  | cons r rr =>
    cases rr
    cases r
    obtain ⟨its, rv, p', hz⟩ := I1.list hq
    refine call_enumerate_list p'.isList fun h' he hit hsz hk => wpAny_pyIter_enum he ?_
    have I2 : Inv X pins σ H1 { s1 with heap := h' } := I1.kept (t' := s1.toks) hk
    refine ⟨s1.heap.objs.size + 1, [s1.heap.objs.size + 1, s1.heap.objs.size], _, _, H1, rfl, I2, turn_enum a (s1.heap.objs.size + 1) s1.heap.objs.size, ⟨⟨.none, he⟩, hit, Nat.succ_ne_self _⟩, fun b hb => ?_, q⟩
    have e' : b = s1.heap.objs.size + 1 ∨ b = s1.heap.objs.size := by simpa using hb
    have hle : s1.heap.objs.size ≤ b := by
      rcases e' with z | z
      · rw [z]; exact Nat.le_add_right _ _
      · rw [z]; exact Nat.le_refl _
    exact I1.fpOk hle (I1.hok.fresh hle)
def Itz (K : PySem.W.Frag) (a b : Addr) : It :=
  ⟨fun i H => ∃ (xs ys : List V) (x y : V), SqL K H a xs ∧ SqL K H b ys ∧ xs[i]? = some x ∧ ys[i]? = some y,
    fun i H v H' => ∃ T x y, v = .ref T ∧ H T = none ∧ H' = upd H T (.tup [x, y]) ∧ (∀ xs, SqL K H a xs → xs[i]? = some x) ∧ ∀ ys, SqL K H b ys → ys[i]? = some y,
    fun i H => ∃ xs ys : List V, SqL K H a xs ∧ SqL K H b ys ∧ (xs.length ≤ i ∨ ys.length ≤ i)⟩
def iZip (K : PySem.W.Frag) (ta : TA) : TI := fun σ H R => ta σ H fun vs H1 => ∃ a b xs ys, vs = [.ref a, .ref b] ∧ SqL K H1 a xs ∧ SqL K H1 b ys ∧ R (Itz K a b) H1
end L2
section 
namespace Bits
open PySem PyProof.Rows
end Bits
end 
section 
namespace TL
open PySem PySem.Builtin PySem.Builtin.Str PySem.StrLaws
abbrev tl (x : Str) : List Nat := x.cps.toList
def pre (S l : List Nat) : Bool := l.take S.length == S
def spl (S : List Nat) : Nat → List Nat → List Nat → List (List Nat)
  | _, acc, [] => [acc]
  | 0, acc, c :: r => if pre S (c :: r) = true then acc :: spl S (S.length - 1) [] r else spl S 0 (acc ++ [c]) r
  | k + 1, acc, _ :: r => spl S k acc r
def par (S : List Nat) : List Nat → List Nat → Option (List Nat × List Nat)
  | _, [] => none
  | acc, c :: r => if pre S (c :: r) = true then some (acc, (c :: r).drop S.length) else par S (acc ++ [c]) r
def joinL (S : List Nat) : List (List Nat) → List Nat
  | [] => []
  | [p] => p
  | p :: q :: r => p ++ (S ++ joinL S (q :: r))
def numL (n : Nat) : List Nat := (Nat.toDigits 10 n).map Char.toNat
def wstep (st : List (List Nat) × List Nat) (c : Nat) : List (List Nat) × List Nat :=
  if Unicode.isSpace c = true then (if st.2 = [] then st else (st.1 ++ [st.2], [])) else (st.1, st.2 ++ [c])
def wfin (st : List (List Nat) × List Nat) : List (List Nat) := if st.2 = [] then st.1 else st.1 ++ [st.2]
end TL
end 
namespace L2
open PySem PySem.Spec PyProof.Rows
def rNewStrs (ys : List Str) : Hp → VK → Prop := fun H Q => ∀ p, H p = none → Q (.ref p) (upd H p (.lst (ys.map V.str)))
section
variable {X : Cx} {pins : List (Addr × Obj)} {σ : St} {H : Hp} {s : Shared} {Q : VK}
end
section
variable {X : Cx}
end
section
variable {X : Cx} {o e : Expr} {to te : TE}
def tM0 (r : V → List V → Hp → VK → Prop) (to : TE) : TE := fun σ H Q => to σ H fun x H1 => (∃ a, x = .str a) ∧ r x [] H1 Q
def tM1 (r : V → List V → Hp → VK → Prop) (to te : TE) : TE := fun σ H Q => to σ H fun x H1 => (∃ a, x = .str a) ∧ te σ H1 fun y H2 => r x [y] H2 Q
end
end L2
namespace L2
open PySem PySem.Spec PyProof.Rows
section
variable {X : Cx}
end
def clipS (n d : Nat) : Option Int → Int
  | none => (d : Int)
  | some i => max 0 (min (if i < 0 then i + (n : Int) else i) (n : Int))
def cutS (z : Str) (lo hi : Option Int) : Str :=
  ⟨((z.cps.toList.drop (HT.sIx z.length 0 lo)).take (HT.sIx z.length z.length hi - HT.sIx z.length 0 lo)).toArray⟩
def rSlS : V → Option Int → Option Int → Hp → VK → Prop := fun x lo hi H Q => ∃ z, x = .str z ∧ z.length ≤ sizeLine ∧ Q (.str (cutS z lo hi)) H
end L2
namespace Att
open PySem PySem.W PySem.Calls PyProof.Rows
section
variable {prog : Program} {w : World} {A : Around} {E : Value → Shared → Prop} {s : Shared} {K : Frag}
def noObjs (h : Heap) : Heap := { h with objs := #[] }
def ledger (h : Heap) (L d : Addr) : List (Addr × Obj) := (List.range h.objs.size).filterMap fun a => if a = L ∨ a = d then none else (h.get? a).map fun o => (a, o)
end
end Att
namespace L2
open PySem PySem.Spec PyProof.Rows
def Only (H : Hp) : Prop := ∀ b, H b = none ∨ ∃ o xs, H b = some (.frz o (.lst xs))
end L2
namespace L2
open PySem PySem.Spec PyProof.Rows
abbrev KOf {K : PySem.W.Frag} {h : Heap} (_ : K.In h) : PySem.W.Frag := K
end L2
namespace L2
open PySem PySem.Spec PyProof.Rows
def inClass (s : Stmt) (j : Nat) : Stmt := match s with
  | .ClassDef _ _ _ body _ _ _ _ _ _ _ => body.getD j (.Pass ⟨0, 0, 0, 0⟩)
  | _ => .Pass ⟨0, 0, 0, 0⟩
def defArgs (s : Stmt) : Arguments := match s with
  | .FunctionDef _ a _ _ _ _ _ _ _ _ => a
  | _ => { posonlyargs := [], args := [], vararg := none, kwonlyargs := [], kw_defaults := [], kwarg := none, defaults := [] }
def defBody (s : Stmt) : List Stmt := match s with
  | .FunctionDef _ _ b _ _ _ _ _ _ _ => b
  | _ => []
def defScope (s : Stmt) : Scope := match s with
  | .FunctionDef _ _ _ _ _ _ sc _ _ _ => sc
  | _ => { kind := .function, names := [], isGenerator := false, isCoroutine := false }
abbrev CX0 : CXT := fun _ _ _ _ _ _ => False
abbrev E0 : XK := fun _ _ _ => False
theorem pass0 {X : Cx} : Passes CX0 X E0 := fun _ _ _ _ _ _ _ h => h.elim
structure Fun (K : PySem.W.Frag) (x qual : Str) (st : Stmt) (f : Addr) (fd : FuncData) : Prop where
  ex : ∃ (oc : Value) (od : Option Addr) (kV doc pm : Value) (an : Option Addr) (cdv ct : Value) (osl : Array (Option Value)),
    fd = PySem.W.fnOf x qual (defArgs st) (defBody st) (defScope st) .none kV doc pm an cdv ct ∧ K.lookup f = some ⟨oc, od, .func fd, osl⟩ ∧ PySem.W.codeIn K cdv qual = true
  kp : PySem.W.keepIn K (.ref f) = true
section
variable {P : Program} {w : World} {K : PySem.W.Frag} {mg : Str → Option Value} {base : Heap}
theorem Fun.ok {x qual : Str} {st : Stmt} {f : Addr} {fd : FuncData} {N ps : List Str} {k : Nat} {sp : Sp} (F : Fun K x qual st f fd) (S : FnScope N ps (defScope st)) (len : ∀ vs H Q E, sp vs H Q E → vs.length = ps.length)
    (hbody : ∀ (cdv : Value) (A : Around) (outer : List Env) (s : Shared) (H : Hp) (vs : List V) (Q : VK) (E : XK), Room k (A.deeper (envOfC qual (defScope st) s.heap.objs.size f cdv)) → sp vs H Q E →
      ∃ t, PSs (cxOf CX0 P w K mg base N qual (defScope st) f cdv A outer s H E).nox (defBody st) t ∧ t { nx := fun _ H' => Q .non H', rt := Q } (start N vs) H) : FnOk P w K mg base CX0 (k + 1) f fd ps sp := by
  obtain ⟨oc, od, kV, doc, pm, an, cdv, ct, osl, rfl, lk, hcd⟩ := F.ex
  refine fn_of lk hcd S len fun A outer s H vs Q E hr hsp => ?_
  obtain ⟨t, h, q⟩ := hbody cdv A outer s H vs Q E hr hsp
  exact ⟨t, h.nox, q⟩
theorem Fun.binds {x qual : Str} {st : Stmt} {f : Addr} {fd : FuncData} {ps : List Str} (F : Fun K x qual st f fd)
    (h : ∀ (kV doc pm : Value) (an : Option Addr) (cdv ct : Value) (us : List Value), us.length = ps.length → bindArgs (PySem.W.fnOf x qual (defArgs st) (defBody st) (defScope st) .none kV doc pm an cdv ct) ⟨us, []⟩ = pure (ps.zip us)) : Binds K fd ps [] := by
  obtain ⟨oc, od, kV, doc, pm, an, cdv, ct, osl, rfl, lk, hcd⟩ := F.ex
  exact .all (h kV doc pm an cdv ct)
theorem fun_mk {x qual : Str} {st : Stmt} {f : Addr} {oc : Value} {od an : Option Addr} {osl : Array (Option Value)} {kV doc pm cdv ct : Value} (l : K.lookup f = some ⟨oc, od, .func (PySem.W.fnOf x qual (defArgs st) (defBody st) (defScope st) .none kV doc pm an cdv ct), osl⟩)
    (c : PySem.W.codeIn K cdv qual = true) (k : PySem.W.keepIn K (.ref f) = true) : Fun K x qual st f (PySem.W.fnOf x qual (defArgs st) (defBody st) (defScope st) .none kV doc pm an cdv ct) := ⟨⟨oc, od, kV, doc, pm, an, cdv, ct, osl, rfl, l, c⟩, k⟩
end
theorem small1000 {n : Nat} (h : n ≤ 1000) : n < sizeLine := Nat.lt_of_le_of_lt h (by decide)
section
variable {X : Cx}
theorem pv (i : Nat) {x : Str} {pos : Pos} (hN : X.N[i]? = some x := by rfl) (hv : Vis X.env.scope x := by first | exact Or.inl rfl | exact Or.inr (Or.inl rfl) | exact Or.inr (Or.inr rfl)) (hd : (x == ("__debug__" : Str)) = false := by decide)
    (hcd : (x == ("__classdict__" : Str)) = false := by decide) : PE X (.Name x pos) (tVar i) := pe_var hN hv hd hcd
end
theorem iteF {A B : Prop} (h : B) : if false = true then A else B := by
  rw [if_neg Bool.false_ne_true]
  exact h
theorem iteT {A B : Prop} (h : A) : if true = true then A else B := by
  rw [if_pos rfl]
  exact h
theorem ite2 {c A B : Prop} [Decidable c] (h1 : c → A) (h2 : ¬ c → B) : if c then A else B := by
  by_cases h : c
  · rw [if_pos h]
    exact h1 h
  · rw [if_neg h]
    exact h2 h
def Same (H H' : Hp) : Prop := ∀ b o, H b = some o → H' b = some o
theorem Same.refl (H : Hp) : Same H H := fun _ _ h => h
theorem Same.trans {H H1 H2 : Hp} (a : Same H H1) (b : Same H1 H2) : Same H H2 := fun c o h => b c o (a c o h)
theorem Same.free {H H' : Hp} (e : Same H H') {l : Addr} (h : H' l = Option.none) : H l = Option.none := by
  cases q : H l with
  | none => rfl
  | some o =>
    rw [e l o q] at h
    cases h
theorem Same.seq {K : PySem.W.Frag} {H H' : Hp} {a : Addr} {xs : List V} (e : Same H H') (h : SqL K H a xs) : SqL K H' a xs := by
  rcases h with (h | ⟨o, h⟩) | h
  · exact .inl (.inl (e _ _ h))
  · exact .inl (.inr ⟨o, e _ _ h⟩)
  · exact .inr h
section
variable {κ : Type} [DecidableEq κ]
end
theorem at_of {xs : List V} {z : Int} {j : Nat} {v : V} (e : z = (j : Int)) (h : xs[j]? = some v) : atI xs z = some v := by
  rw [e]
  exact atI_nat h
end L2
section
set_option Elab.async false
set_option linter.all false
set_option maxRecDepth 100000
set_option maxHeartbeats 2000000
namespace L2
open PySem PySem.Spec PyProof.Rows
open PySem.W (WData Codec OpenSpec Well WellAll ReadsW ReadsAllW)
mutual
inductive Dw (K : PySem.W.Frag) (H : Hp) : V → WData → Prop
  | non : Dw K H .non .none
  | bl (b : Bool) : Dw K H (.bl b) (.bool b)
  | int (i : Int) : Dw K H (.int i) (.int i)
  | str (x : Str) : Dw K H (.str x) (.str x)
  | byt (b : Array UInt8) : Dw K H (.byt b) (.bytes b.toList)
  | lst {a : Addr} {xs : List V} {ds : List WData} : SqL K H a xs → DwAll K H xs ds → Dw K H (.ref a) (.list ds)
  | tup {a : Addr} {xs : List V} {ds : List WData} : SqT K H a xs → DwAll K H xs ds → Dw K H (.ref a) (.tuple ds)
inductive DwAll (K : PySem.W.Frag) (H : Hp) : List V → List WData → Prop
  | nil : DwAll K H [] []
  | cons {v : V} {vs : List V} {d : WData} {ds : List WData} : Dw K H v d → DwAll K H vs ds → DwAll K H (v :: vs) (d :: ds)
end
theorem dw_ints {K : PySem.W.Frag} {H : Hp} : ∀ ns : List Int, DwAll K H (ns.map V.int) (ns.map WData.int)
  | [] => .nil
  | n :: r => .cons (.int n) (dw_ints r)
theorem ints_dw {K : PySem.W.Frag} {H : Hp} : ∀ (ns : List Int) (xs : List V), DwAll K H xs (ns.map WData.int) → xs = ns.map V.int
  | [], xs, h => by
    cases h
    rfl
  | n :: r, xs, h => by
    cases h with
    | cons h1 h2 =>
      cases h1
      rw [ints_dw r _ h2] <;> rfl
section
variable {P : Program} {w : World} {K : PySem.W.Frag} {H : Hp} {h : Heap} {R : PySem.W.WRecords} {cl : Str → Option Addr}
theorem sqL_at {a : Addr} {xs : List V} (hok : HOk P w H h) (KX : K.In h) (q : SqL K H a xs) : ∃ (its : List Value) (o : Obj) (n : Nat), Vals xs its ∧ h.get? a = some o ∧ o.cls = .type "list" ∧ o.data = .seq its.toArray n := by
  rcases q with q | ⟨o, its, n, e, hc, _, hd, _, hv⟩
  · obtain ⟨_, its, n, hv, e⟩ := (show ObjOk P w H h a (.lst xs) from q.ok hok)
    exact ⟨its, _, n, hv, e, rfl, rfl⟩
  · exact ⟨its.toList, o, n, hv, KX _ _ e, hc, by simp [hd]⟩
theorem sqT_at {a : Addr} {xs : List V} (hok : HOk P w H h) (KX : K.In h) (q : SqT K H a xs) : ∃ (its : List Value) (o : Obj) (n : Nat), Vals xs its ∧ h.get? a = some o ∧ o.cls = .type "tuple" ∧ o.data = .seq its.toArray n := by
  rcases q with q | ⟨o, its, n, e, hc, hd, _, hv⟩
  · obtain ⟨_, its, hv, o, e, hc, n, hd⟩ := (show ObjOk P w H h a (.tup xs) from q.ok hok)
    exact ⟨its, o, n, hv, e, hc, hd⟩
  · exact ⟨its.toList, o, n, hv, KX _ _ e, hc, by simp [hd]⟩
mutual
theorem Dw.reads (hok : HOk P w H h) (KX : K.In h) : ∀ (d : WData) (v : V) (u : Value), Dw K H v d → RelV v u → ∃ as, ReadsW R cl h u d as
  | .none, _, _, x, r => by
    cases x
    cases r
    exact ⟨_, ReadsW.none⟩
  | .bool b, _, _, x, r => by
    cases x
    cases r
    exact ⟨_, ReadsW.bool b⟩
  | .int i, _, _, x, r => by
    cases x
    obtain ⟨t, rfl⟩ := r
    exact ⟨_, ReadsW.int i t⟩
  | .str s, _, _, x, r => by
    cases x
    obtain ⟨t, rfl⟩ := r
    exact ⟨_, ReadsW.str s t⟩
  | .bytes b, _, _, x, r => by
    cases x
    obtain ⟨t, rfl⟩ := r
    exact ⟨_, ReadsW.bytes _ t⟩
  | .list ds, _, _, x, r => by
    cases x with
    | lst hs ha =>
      cases r
      obtain ⟨its, o, n, rv, ho, hc, hd⟩ := sqL_at hok KX hs
      obtain ⟨as, hr⟩ := Dw.readsAll hok KX ds _ its ha rv
      exact ⟨_, ReadsW.list ho hc hd hr⟩
  | .tuple ds, _, _, x, r => by
    cases x with
    | tup hs ha =>
      cases r
      obtain ⟨its, o, n, rv, ho, hc, hd⟩ := sqT_at hok KX hs
      obtain ⟨as, hr⟩ := Dw.readsAll hok KX ds _ its ha rv
      exact ⟨_, ReadsW.tuple ho hc hd hr⟩
  | .float _, _, _, x, _ => by cases x
  | .dict _, _, _, x, _ => by cases x
  | .bytearray _, _, _, x, _ => by cases x
  | .set _, _, _, x, _ => by cases x
  | .frozenset _, _, _, x, _ => by cases x
  | .obj _ _, _, _, x, _ => by cases x
theorem Dw.readsAll (hok : HOk P w H h) (KX : K.In h) : ∀ (ds : List WData) (vs : List V) (us : List Value), DwAll K H vs ds → Vals vs us → ∃ as, ReadsAllW R cl h us ds as
  | [], _, _, x, r => by
    cases x
    cases r
    exact ⟨_, ReadsAllW.nil⟩
  | d :: ds, _, _, x, r => by
    cases x with
    | cons h1 h2 =>
      cases r with
      | cons r1 r2 =>
        obtain ⟨as, q1⟩ := Dw.reads hok KX d _ _ h1 r1
        obtain ⟨bs, q2⟩ := Dw.readsAll hok KX ds _ _ h2 r2
        exact ⟨_, ReadsAllW.cons q1 q2⟩
end
end
mutual
def plW : WData → Bool
  | .none => true
  | .bool _ => true
  | .int _ => true
  | .str _ => true
  | .bytes _ => true
  | .list xs => plWs xs
  | .tuple xs => plWs xs
  | _ => false
def plWs : List WData → Bool
  | [] => true
  | x :: r => plW x && plWs r
end
theorem plWs_map {α : Type} {f : α → WData} (h : ∀ a, plW (f a) = true) : ∀ l : List α, plWs (l.map f) = true
  | [] => rfl
  | x :: r => by
    show (plW (f x) && plWs (r.map f)) = true
    rw [h x, plWs_map h r] <;> rfl
theorem pl_enc : ∀ (c : Codec) (a : c.denote), plW (c.enc a) = true
  | .unit, _ => rfl
  | .bool, _ => rfl
  | .int _ _, _ => rfl
  | .nat _ _, _ => rfl
  | .u8, _ => rfl
  | .bytes _ _, _ => rfl
  | .text _ _ _ _, _ => rfl
  | .list _ _ c, a => plWs_map (fun x => pl_enc c x) a
  | .pair c d, a => by
    show (plW (c.enc a.1) && (plW (d.enc a.2) && true)) = true
    rw [pl_enc c a.1, pl_enc d a.2] <;> rfl
  | .triple c d e, a => by
    show (plW (c.enc a.1) && (plW (d.enc a.2.1) && (plW (e.enc a.2.2) && true))) = true
    rw [pl_enc c a.1, pl_enc d a.2.1, pl_enc e a.2.2] <;> rfl
  | .option c, none => rfl
  | .option c, some x => pl_enc c x
theorem pl_encAll : ∀ (cs : List Codec) (a : Codec.denoteAll cs), plWs (Codec.encAll cs a) = true
  | [], _ => rfl
  | c :: cs, a => by
    show (plW (c.enc a.1) && plWs (Codec.encAll cs a.2)) = true
    rw [pl_enc c a.1, pl_encAll cs a.2] <;> rfl
theorem weight_mem : ∀ {xs : List WData} {d : WData}, d ∈ xs → d.weight ≤ WData.weightAll xs
  | [], d, h => absurd h (by simp)
  | x :: r, d, h => by
    show d.weight ≤ x.weight + 1 + WData.weightAll r
    rcases List.mem_cons.mp h with e | m
    · rw [e]
      omega
    · have z := weight_mem m
      omega
def toV : Value → V
  | .none => .non
  | .bool b => .bl b
  | .int i _ => .int i
  | .str x _ => .str x
  | .bytes b _ => .byt b
  | .ref a => .ref a
  | _ => .non
def OkU (A : List Addr) : Value → Prop
  | .none => True
  | .bool _ => True
  | .int _ _ => True
  | .str _ _ => True
  | .bytes _ _ => True
  | .ref a => a ∈ A
  | _ => False
theorem OkU.mono {A B : List Addr} (h : ∀ a ∈ A, a ∈ B) : ∀ {u : Value}, OkU A u → OkU B u := fun {u} x => by
  cases u with
  | ref a => exact h a x
  | none => trivial
  | bool b => trivial
  | int i t => trivial
  | str s t => trivial
  | bytes b t => trivial
  | _ => exact False.elim x
theorem relV_toV {A : List Addr} {u : Value} (x : OkU A u) : RelV (toV u) u := by
  cases u with
  | ref a => rfl
  | none => rfl
  | bool b => rfl
  | int i t => exact ⟨t, rfl⟩
  | str s t => exact ⟨t, rfl⟩
  | bytes b t => exact ⟨t, rfl⟩
  | _ => exact False.elim x
theorem vals_toV {A : List Addr} : ∀ {vs : List Value}, (∀ u ∈ vs, OkU A u) → Vals (vs.map toV) vs
  | [], _ => .nil
  | u :: r, h => .cons (relV_toV (h u (List.mem_cons_self ..))) (vals_toV fun x hx => h x (List.mem_cons_of_mem _ hx))
def ArgOb (h : Heap) (A : List Addr) (a : Addr) : Prop := ∃ vs : List Value, vs.length ≤ sizeLine ∧ (∀ u ∈ vs, OkU A u) ∧
  (h.get? a = some { cls := .type "list", data := .seq vs.toArray } ∨ h.get? a = some { cls := .type "tuple", data := .seq vs.toArray })
theorem ArgOb.mono {h : Heap} {A B : List Addr} {a : Addr} (k : ∀ a ∈ A, a ∈ B) (x : ArgOb h A a) : ArgOb h B a := by
  obtain ⟨vs, h1, h2, h3⟩ := x
  exact ⟨vs, h1, fun u hu => (h2 u hu).mono k, h3⟩
theorem wellAll_len {P : Params} {h : Heap} : ∀ {vs : List Value} {ds : List WData}, WellAll P h vs ds → vs.length = ds.length
  | _, _, .nil => rfl
  | _, _, .cons _ b => by
    show _ + 1 = _ + 1
    rw [wellAll_len b]
theorem well_list {P : Params} {h : Heap} {v : Value} {ds : List WData} (x : Well P h v (.list ds)) : ∃ (a : Addr) (vs : List Value), v = .ref a ∧ h.get? a = some { cls := .type "list", data := .seq vs.toArray } ∧ WellAll P h vs ds := by
  cases x with
  | list ho hall => exact ⟨_, _, rfl, ho, hall⟩
theorem well_tuple {P : Params} {h : Heap} {v : Value} {ds : List WData} (x : Well P h v (.tuple ds)) : ∃ (a : Addr) (vs : List Value), v = .ref a ∧ h.get? a = some { cls := .type "tuple", data := .seq vs.toArray } ∧ WellAll P h vs ds := by
  cases x with
  | tuple ho hall => exact ⟨_, _, rfl, ho, hall⟩
theorem well_cons {P : Params} {h : Heap} {us : List Value} {d : WData} {ds : List WData} (x : WellAll P h us (d :: ds)) : ∃ (v : Value) (vs : List Value), us = v :: vs ∧ Well P h v d ∧ WellAll P h vs ds := by
  cases x with
  | cons a b => exact ⟨_, _, rfl, a, b⟩
theorem line_of {n : Nat} (h : n ≤ 1048576) : n ≤ sizeLine := Nat.le_trans h (by decide)
section
variable {P : Params} {h : Heap}
mutual
theorem area_one : ∀ (d : WData) (v : Value), Well P h v d → plW d = true → d.weight ≤ 1048576 → ∃ A : List Addr, OkU A v ∧ ∀ a ∈ A, ArgOb h A a
  | .none, _, x, _, _ => by
    cases x
    exact ⟨[], trivial, fun a m => absurd m (by simp)⟩
  | .bool b, _, x, _, _ => by
    cases x
    exact ⟨[], trivial, fun a m => absurd m (by simp)⟩
  | .int i, _, x, _, _ => by
    cases x
    exact ⟨[], trivial, fun a m => absurd m (by simp)⟩
  | .str s, _, x, _, _ => by
    cases x
    exact ⟨[], trivial, fun a m => absurd m (by simp)⟩
  | .bytes b, _, x, _, _ => by
    cases x
    exact ⟨[], trivial, fun a m => absurd m (by simp)⟩
  | .list ds, _, x, p, z => by
    obtain ⟨a, vs, rfl, ho, hall⟩ := well_list x
    have z2 : WData.weightAll ds ≤ 1048576 := z
    obtain ⟨A, h1, h2⟩ := area_all ds _ hall p fun d hd => Nat.le_trans (weight_mem hd) z2
    have k : ∀ b ∈ A, b ∈ a :: A := fun b hb => List.mem_cons_of_mem _ hb
    refine ⟨a :: A, List.mem_cons_self .., fun b hb => ?_⟩
    rcases List.mem_cons.mp hb with e | m
    · rw [e]
      exact ⟨vs, line_of (by rw [wellAll_len hall]; exact Nat.le_trans (PySem.W.length_le_weightAllW ds) z2), fun u hu => (h1 u hu).mono k, .inl ho⟩
    · exact (h2 b m).mono k
  | .tuple ds, _, x, p, z => by
    obtain ⟨a, vs, rfl, ho, hall⟩ := well_tuple x
    have z2 : WData.weightAll ds ≤ 1048576 := z
    obtain ⟨A, h1, h2⟩ := area_all ds _ hall p fun d hd => Nat.le_trans (weight_mem hd) z2
    have k : ∀ b ∈ A, b ∈ a :: A := fun b hb => List.mem_cons_of_mem _ hb
    refine ⟨a :: A, List.mem_cons_self .., fun b hb => ?_⟩
    rcases List.mem_cons.mp hb with e | m
    · rw [e]
      exact ⟨vs, line_of (by rw [wellAll_len hall]; exact Nat.le_trans (PySem.W.length_le_weightAllW ds) z2), fun u hu => (h1 u hu).mono k, .inr ho⟩
    · exact (h2 b m).mono k
  | .float _, _, _, p, _ => Bool.noConfusion (show false = true from p)
  | .dict _, _, _, p, _ => Bool.noConfusion (show false = true from p)
  | .bytearray _, _, _, p, _ => Bool.noConfusion (show false = true from p)
  | .set _, _, _, p, _ => Bool.noConfusion (show false = true from p)
  | .frozenset _, _, _, p, _ => Bool.noConfusion (show false = true from p)
  | .obj _ _, _, _, p, _ => Bool.noConfusion (show false = true from p)
theorem area_all : ∀ (ds : List WData) (vs : List Value), WellAll P h vs ds → plWs ds = true → (∀ d ∈ ds, d.weight ≤ 1048576) → ∃ A : List Addr, (∀ u ∈ vs, OkU A u) ∧ ∀ a ∈ A, ArgOb h A a
  | [], _, x, _, _ => by
    cases x
    exact ⟨[], fun u m => absurd m (by simp), fun a m => absurd m (by simp)⟩
  | d :: ds, _, x, p, z => by
    obtain ⟨v, vs, rfl, x1, x2⟩ := well_cons x
    have q : plW d = true ∧ plWs ds = true := Bool.and_eq_true_iff.mp p
    obtain ⟨A, a1, a2⟩ := area_one d v x1 q.1 (z d (List.mem_cons_self ..))
    obtain ⟨B, b1, b2⟩ := area_all ds vs x2 q.2 fun e he => z e (List.mem_cons_of_mem _ he)
    have kA : ∀ b ∈ A, b ∈ A ++ B := fun b hb => List.mem_append.mpr (.inl hb)
    have kB : ∀ b ∈ B, b ∈ A ++ B := fun b hb => List.mem_append.mpr (.inr hb)
    refine ⟨A ++ B, fun u hu => ?_, fun b hb => ?_⟩
    · rcases List.mem_cons.mp hu with e | m
      · rw [e]
        exact a1.mono kA
      · exact (b1 u m).mono kB
    · rcases List.mem_append.mp hb with m | m
      · exact (a2 b m).mono kA
      · exact (b2 b m).mono kB
end
end
def hoOf (o : Obj) : Option HO := match o.data with
  | .seq vs _ => if (o.cls == Value.type "list") = true then some (.frz o (.lst (vs.toList.map toV))) else some (.frz o (.tup (vs.toList.map toV)))
  | _ => none
def argH (K : PySem.W.Frag) (h : Heap) (A : List Addr) : Hp := fun b => if b ∈ A then (if (K.lookup b).isNone = true then (h.get? b).bind hoOf else none) else none
def OnlyF (H : Hp) : Prop := ∀ b, H b = none ∨ ∃ o u, H b = some (.frz o u)
theorem hoOf_lst (vs : List Value) : hoOf { cls := .type "list", data := .seq vs.toArray } = some (.frz { cls := .type "list", data := .seq vs.toArray } (.lst (vs.map toV))) := by
  show (if (Value.type "list" == Value.type "list") = true then some (HO.frz { cls := .type "list", data := .seq vs.toArray } (.lst (vs.toArray.toList.map toV))) else some (HO.frz { cls := .type "list", data := .seq vs.toArray } (.tup (vs.toArray.toList.map toV)))) = _
  rw [if_pos (beq_self_eq_true _)]
theorem hoOf_tup (vs : List Value) : hoOf { cls := .type "tuple", data := .seq vs.toArray } = some (.frz { cls := .type "tuple", data := .seq vs.toArray } (.tup (vs.map toV))) := by
  show (if (Value.type "tuple" == Value.type "list") = true then some (HO.frz { cls := .type "tuple", data := .seq vs.toArray } (.lst (vs.toArray.toList.map toV))) else some (HO.frz { cls := .type "tuple", data := .seq vs.toArray } (.tup (vs.toArray.toList.map toV)))) = _
  rw [if_neg (by decide)]
section
variable {P : Program} {w : World} {K : PySem.W.Frag} {h : Heap} {A : List Addr}
theorem argH_at {b : Addr} {o : Obj} (hb : b ∈ A) (hk : K.lookup b = none) (e : h.get? b = some o) : argH K h A b = hoOf o := by
  unfold argH
  rw [if_pos hb, hk, if_pos (show (none : Option Obj).isNone = true from rfl), e] <;> rfl
theorem of_argH {b : Addr} {u : HO} (q : argH K h A b = some u) : b ∈ A ∧ K.lookup b = none := by
  unfold argH at q
  by_cases hb : b ∈ A
  · rw [if_pos hb] at q
    cases hk : K.lookup b with
    | none => exact ⟨hb, rfl⟩
    | some o =>
      rw [hk, if_neg (by simp)] at q
      cases q
  · rw [if_neg hb] at q
    cases q
theorem argH_is (ar : ∀ a ∈ A, ArgOb h A a) {b : Addr} {u : HO} (q : argH K h A b = some u) : K.lookup b = none ∧ ∃ vs : List Value, vs.length ≤ sizeLine ∧ (∀ u ∈ vs, OkU A u) ∧
    ((h.get? b = some { cls := .type "list", data := .seq vs.toArray } ∧ u = .frz { cls := .type "list", data := .seq vs.toArray } (.lst (vs.map toV))) ∨
     (h.get? b = some { cls := .type "tuple", data := .seq vs.toArray } ∧ u = .frz { cls := .type "tuple", data := .seq vs.toArray } (.tup (vs.map toV)))) := by
  obtain ⟨hb, hk⟩ := of_argH q
  obtain ⟨vs, h1, h2, h3⟩ := ar b hb
  refine ⟨hk, vs, h1, h2, ?_⟩
  rcases h3 with e | e
  · rw [argH_at hb hk e, hoOf_lst] at q
    exact .inl ⟨e, (Option.some.inj q).symm⟩
  · rw [argH_at hb hk e, hoOf_tup] at q
    exact .inr ⟨e, (Option.some.inj q).symm⟩
theorem argH_only (ar : ∀ a ∈ A, ArgOb h A a) : OnlyF (argH K h A) := fun b => by
  cases q : argH K h A b with
  | none => exact .inl rfl
  | some u =>
    obtain ⟨_, vs, _, _, ⟨_, e⟩ | ⟨_, e⟩⟩ := argH_is ar q
    · exact .inr ⟨_, _, by rw [e]⟩
    · exact .inr ⟨_, _, by rw [e]⟩
theorem argH_ok (ar : ∀ a ∈ A, ArgOb h A a) : HOk P w (argH K h A) h := fun b u q => by
  obtain ⟨_, vs, h1, h2, ⟨e, rfl⟩ | ⟨e, rfl⟩⟩ := argH_is ar q
  · exact ⟨e, by rw [List.length_map]; exact h1, vs, _, vals_toV h2, e⟩
  · exact ⟨e, by rw [List.length_map]; exact h1, vs, vals_toV h2, _, e, rfl, _, rfl⟩
theorem seq_inj {c c' : Value} {vs us : List Value} (e : (some { cls := c, data := .seq vs.toArray } : Option Obj) = some { cls := c', data := .seq us.toArray }) : c = c' ∧ vs = us := by
  have e1 := Option.some.inj e
  have e2 : c = c' := congrArg Obj.cls e1
  have e3 : Data.seq vs.toArray = Data.seq us.toArray := congrArg Obj.data e1
  injection e3 with e4
  refine ⟨e2, ?_⟩
  have e5 := congrArg Array.toList e4
  simpa using e5
theorem argL (KX : K.In h) (ar : ∀ a ∈ A, ArgOb h A a) {a : Addr} {vs : List Value} (ha : a ∈ A) (e : h.get? a = some { cls := .type "list", data := .seq vs.toArray }) : (∀ u ∈ vs, OkU A u) ∧ SqL K (argH K h A) a (vs.map toV) := by
  obtain ⟨us, h1, h2, h3⟩ := ar a ha
  have hu : us = vs := by
    rcases h3 with q | q
    · rw [e] at q
      exact (seq_inj q).2.symm
    · rw [e] at q
      exact absurd (Value.type.inj (seq_inj q).1) (by decide)
  subst hu
  refine ⟨h2, ?_⟩
  cases hk : K.lookup a with
  | none => exact .inl (.inr ⟨_, by rw [argH_at ha hk e, hoOf_lst]⟩)
  | some o =>
    have e2 := KX a o hk
    rw [e] at e2
    obtain rfl := Option.some.inj e2
    exact .inr ⟨_, us.toArray, _, hk, rfl, rfl, rfl, by rw [List.size_toArray]; exact h1, by simpa using vals_toV h2⟩
theorem argT (KX : K.In h) (ar : ∀ a ∈ A, ArgOb h A a) {a : Addr} {vs : List Value} (ha : a ∈ A) (e : h.get? a = some { cls := .type "tuple", data := .seq vs.toArray }) : (∀ u ∈ vs, OkU A u) ∧ SqT K (argH K h A) a (vs.map toV) := by
  obtain ⟨us, h1, h2, h3⟩ := ar a ha
  have hu : us = vs := by
    rcases h3 with q | q
    · rw [e] at q
      exact absurd (Value.type.inj (seq_inj q).1) (by decide)
    · rw [e] at q
      exact (seq_inj q).2.symm
  subst hu
  refine ⟨h2, ?_⟩
  cases hk : K.lookup a with
  | none => exact .inl (.inr ⟨_, by rw [argH_at ha hk e, hoOf_tup]⟩)
  | some o =>
    have e2 := KX a o hk
    rw [e] at e2
    obtain rfl := Option.some.inj e2
    exact .inr ⟨_, us.toArray, _, hk, rfl, rfl, by rw [List.size_toArray]; exact h1, by simpa using vals_toV h2⟩
mutual
theorem dw_one {Pm : Params} (KX : K.In h) (ar : ∀ a ∈ A, ArgOb h A a) : ∀ (d : WData) (v : Value), Well Pm h v d → plW d = true → OkU A v → Dw K (argH K h A) (toV v) d
  | .none, _, x, _, _ => by
    cases x
    exact .non
  | .bool b, _, x, _, _ => by
    cases x
    exact .bl b
  | .int i, _, x, _, _ => by
    cases x
    exact .int i
  | .str s, _, x, _, _ => by
    cases x
    exact .str s
  | .bytes b, _, x, _, _ => by
    cases x
    have z := Dw.byt (K := K) (H := argH K h A) b.toArray
    exact z
  | .list ds, _, x, p, hu => by
    obtain ⟨a, vs, rfl, ho, hall⟩ := well_list x
    obtain ⟨h2, hs⟩ := argL KX ar hu ho
    exact .lst hs (dw_all KX ar ds _ hall p h2)
  | .tuple ds, _, x, p, hu => by
    obtain ⟨a, vs, rfl, ho, hall⟩ := well_tuple x
    obtain ⟨h2, hs⟩ := argT KX ar hu ho
    exact .tup hs (dw_all KX ar ds _ hall p h2)
  | .float _, _, _, p, _ => Bool.noConfusion (show false = true from p)
  | .dict _, _, _, p, _ => Bool.noConfusion (show false = true from p)
  | .bytearray _, _, _, p, _ => Bool.noConfusion (show false = true from p)
  | .set _, _, _, p, _ => Bool.noConfusion (show false = true from p)
  | .frozenset _, _, _, p, _ => Bool.noConfusion (show false = true from p)
  | .obj _ _, _, _, p, _ => Bool.noConfusion (show false = true from p)
theorem dw_all {Pm : Params} (KX : K.In h) (ar : ∀ a ∈ A, ArgOb h A a) : ∀ (ds : List WData) (vs : List Value), WellAll Pm h vs ds → plWs ds = true → (∀ u ∈ vs, OkU A u) → DwAll K (argH K h A) (vs.map toV) ds
  | [], _, x, _, _ => by
    cases x
    exact .nil
  | d :: ds, _, x, p, hu => by
    obtain ⟨v, vs, rfl, x1, x2⟩ := well_cons x
    have q : plW d = true ∧ plWs ds = true := Bool.and_eq_true_iff.mp p
    exact .cons (dw_one KX ar d v x1 q.1 (hu _ (List.mem_cons_self ..))) (dw_all KX ar ds vs x2 q.2 fun u m => hu u (List.mem_cons_of_mem _ m))
end
end
theorem spec_call {P : Program} {w : World} {K : PySem.W.Frag} {mg mb : Str → Option Value} {CX : CXT} {k : Nat} {fa : Addr} {fd : FuncData} {ps : List Str} {sp : Sp} {s₁ : Shared} {vals : List Value} {ds : List WData} {R : PySem.W.WRecords} {cl : Str → Option Addr} {d0 : WData}
    (KX : K.In s₁.heap) (hns : s₁.heap.Ns mainGlobals mg) (hb : s₁.heap.Ns builtinsNs mb) (hbb : ∀ x : Str, x ≠ "__name__" → mb x = bootBuiltins x) (hlim : s₁.heap.NoLimit) (hg : s₁.gens = #[])
    (hwl : WellAll w.params s₁.heap vals ds) (hpl : plWs ds = true) (hwt : ∀ d ∈ ds, d.weight ≤ 1048576) (hr : Room k callerA)
    (F : ∀ base : Heap, K.In base → base.Ns mainGlobals mg → FnOk P w K mg base CX k fa fd ps sp) (hbind : ∀ (s : Shared) (us : List Value), us.length = ps.length → BindsTo s fd ⟨us, []⟩ (ps.zip us)) (hlen : ds.length = ps.length)
    (hsp : ∀ (H : Hp) (xs : List V), OnlyF H → DwAll K H xs ds → sp xs H (fun v H' => Dw K H' v d0) fun _ _ _ => False)
    (hCX : ∀ H e s', CX [] H s₁ (fun _ _ _ => False) e s' → False) :
    codeAny (model P w) callerA (.call (.ref fa) ⟨vals, []⟩) (fun r s' => ∃ u as, r = .ok (.ret u) ∧ ReadsW R cl s'.heap u d0 as ∧ OldK s₁.heap s'.heap ∧ s'.os = s₁.os ∧ AllBare s'.gens) s₁ := by
  obtain ⟨A, ho, ar⟩ := area_all ds vals hwl hpl hwt
  have hO : OnlyF (argH K s₁.heap A) := argH_only ar
  have hok : HOk P w (argH K s₁.heap A) s₁.heap := argH_ok ar
  have hS := dw_all KX ar ds vals hwl hpl ho
  have hV := vals_toV ho
  have hK : ∀ b u, argH K s₁.heap A b = some u → K.lookup b = none := fun b u q => (argH_is ar q).1
  have noA : ∀ {b : Addr} {o : Obj} {es : Array DictEntry} {ep : Nat}, s₁.heap.get? b = some o → o.data = .dict es ep → argH K s₁.heap A b = none := fun {b o es ep} e d => by
    cases q : argH K s₁.heap A b with
    | none => rfl
    | some u =>
      obtain ⟨_, vs, _, _, ⟨e2, _⟩ | ⟨e2, _⟩⟩ := argH_is ar q
      · rw [e2] at e
        cases e
        have d' : Data.seq vs.toArray _ = Data.dict es ep := d
        cases d'
      · rw [e2] at e
        cases e
        have d' : Data.seq vs.toArray _ = Data.dict es ep := d
        cases d'
  generalize argH K s₁.heap A = H at hO hok hS hK noA
  have base_of : ∀ {b : Addr} {o : Obj}, s₁.heap.get? b = some o → H b = none → (hidT s₁.heap H).get? b = some o := fun e n => hidT_get e n
  have nsK : ∀ {b : Addr} {m : Str → Option Value}, s₁.heap.Ns b m → (hidT s₁.heap H).Ns b m := fun {b m} ⟨o, es, ep, e, d, r⟩ => ⟨o, es, ep, base_of e (noA e d), d, r⟩
  have nK : ∀ b o, K.lookup b = some o → H b = none := fun b o e => by
    cases q : H b with
    | none => rfl
    | some u =>
      rw [hK b u q] at e
      cases e
  have hKb : K.In (hidT s₁.heap H) := fun b o e => base_of (KX b o e) (nK b o e)
  have hM : Mod K mg (hidT s₁.heap H) := ⟨hKb, nsK hns, ⟨mb, nsK hb, hbb⟩, let ⟨mc, h1, h2⟩ := hlim; ⟨mc, nsK h1, h2⟩⟩
  have e0 : Env0 P w K mg (hidT s₁.heap H) callerA [] s₁ H := ⟨rfl, hM, fun b o e => of_hidT e, Nat.le_of_eq (hidT_size _ _), trivial, fun b hb => absurd (show b ∈ ([] : List Addr) from hb) (by simp), hok, .of_eq hg⟩
  have hl : vals.length = ps.length := by rw [wellAll_len hwl]; exact hlen
  refine codeAny_mono ((F _ hKb (nsK hns)).run callerA [] s₁ H ⟨vals, []⟩ vals (vals.map toV) _ _ hr e0 (hbind s₁ vals hl) hV (hsp H _ hO hS)) fun r s' x => ?_
  cases r with
  | error e => exact (hCX H e s' x).elim
  | ok fl =>
    cases fl with
    | next => exact False.elim x
    | brk => exact False.elim x
    | cont => exact False.elim x
    | ret u =>
      obtain ⟨v, H', os, bare, un, hok', r', q⟩ := x
      have kept : ∀ b o, s₁.heap.get? b = some o → s'.heap.get? b = some o := fun b o e => by
        cases q2 : H b with
        | none => exact un.keep b o e q2 (by intro z; exact absurd (show b ∈ ([] : List Addr) from z) (by simp)) (by simp)
        | some u2 =>
          rcases hO b with z | ⟨ob, u3, z⟩
          · rw [q2] at z
            cases z
          · have z2 := un.frzs b ob _ z
            obtain ⟨e1, _⟩ := hok b _ z
            obtain ⟨e2, _⟩ := hok' b _ z2
            rw [e] at e1
            cases e1
            exact e2
      have KX' : K.In s'.heap := fun b o e => kept b o (KX b o e)
      obtain ⟨as, hrd⟩ := Dw.reads (R := R) (cl := cl) hok' KX' d0 v u q r'
      exact ⟨u, as, rfl, hrd, OldK.of_keep kept, os, bare⟩
theorem layable_weight {ds : List WData} (h : WData.layableAll ds = true) : ∀ d ∈ ds, d.weight ≤ 1048576 := fun d hd =>
  (PySem.W.layableW_iff.mp (List.all_eq_true.mp h d hd)).2.2
theorem encAll_len : ∀ (cs : List Codec) (a : Codec.denoteAll cs), (Codec.encAll cs a).length = cs.length
  | [], _ => rfl
  | c :: cs, a => by
    show (Codec.encAll cs a.2).length + 1 = cs.length + 1
    rw [encAll_len cs a.2]
theorem walk_spec {r : OpenSpec} {k : Nat} {q : Program} {loose : List Str} {XP : (Str → Option Value) → Heap → Prop} {YP : World → Heap → Prop} {d : DefRec} {K : Params → PySem.W.Frag} {CX : World → CXT} {ps : List Str} {sp : World → Sp}
    (hwell : r.wellSaid = true) (hdf : d.params.defaults = []) (hlen : r.args.length = ps.length) (hr : Room k callerA)
    (hY : ∀ (w : World) (h : Heap), YP w h → (K w.params).In h)
    (F : ∀ (w : World) (mg : Str → Option Value) (fa : Addr) (h : Heap), YP w h → (K w.params).In h → h.Ns mainGlobals mg → mg d.name = some (.ref fa) →
      ∃ fd : FuncData, (∀ (s : Shared) (us : List Value), us.length = ps.length → BindsTo s fd ⟨us, []⟩ (ps.zip us)) ∧
        ∀ base : Heap, (K w.params).In base → base.Ns mainGlobals mg → FnOk r.prog w (K w.params) mg base (CX w) k fa fd ps (sp w))
    (hsp : ∀ (w : World) (H : Hp) (xs : List V) (a : Codec.denoteAll r.args), OnlyF H → Codec.withinAll r.args a = true → Codec.app r.args r.asked a = true → DwAll (K w.params) H xs (Codec.encAll r.args a) →
      sp w xs H (fun v H' => Dw (K w.params) H' v (r.ret.enc (Codec.app r.args r.f a))) fun _ _ _ => False)
    (hCX : ∀ (w : World) (H : Hp) (s : Shared) (e : Value) (s' : Shared), CX w [] H s (fun _ _ _ => False) e s' → False) :
    PySem.W.WalkOS q loose XP YP r d [] (fun f vs => PySem.call f vs) := by
  intro w s_0 s₁ mg mb G Y fa o pm cd doc dV kV ho hd hcd hD hmg hg args vals as hpre hlay hrd hwl hlo
  obtain ⟨a, e1, e2⟩ := PySem.W.os_pre_some hpre
  obtain ⟨e3, hwi⟩ := Codec.encAll_of_decAll r.args args a e1
  subst e3
  have KX := hY w _ Y
  obtain ⟨fd, hb, hF⟩ := F w mg fa _ Y KX G.T.g hmg
  refine PySem.W.enter_call (codeAny_mono (spec_call (R := []) (cl := classAt s_0.heap) (d0 := r.ret.enc (Codec.app r.args r.f a)) KX G.T.g G.T.b G.T.builtins G.T.nolimit hg hwl (pl_encAll _ _) (layable_weight hlay) hr hF hb (by rw [encAll_len]; exact hlen)
    (fun H xs hO hS => hsp w H xs a hO hwi e2 hS) fun H e s' => hCX w H s₁ e s') fun r' s' hq => ?_)
  obtain ⟨u, as', rfl, h1, h2, h3, h4⟩ := hq
  exact ⟨.inl ⟨u, _, as', rfl, fun _ => rfl, h1, (OpenSpec.post_iff hwell hwi _ _).mpr rfl, fun z => Bool.noConfusion (show false = true from z)⟩, h2, h3, h4⟩
theorem walk_specK {r : OpenSpec} {k : Nat} {q : Program} {loose : List Str} {XP : (Str → Option Value) → Heap → Prop} {YP : World → Heap → Prop} {d : DefRec} {K : Params → PySem.W.Frag} {CX : CXT} {ps : List Str} {sp : PySem.W.Frag → Sp}
    (hwell : r.wellSaid = true) (hdf : d.params.defaults = []) (hlen : r.args.length = ps.length) (hr : Room k callerA)
    (hY : ∀ (w : World) (h : Heap), YP w h → (K w.params).In h)
    (F : ∀ (w : World) (mg : Str → Option Value) (fa : Addr) (h : Heap), YP w h → (K w.params).In h → h.Ns mainGlobals mg → mg d.name = some (.ref fa) →
      ∃ fd : FuncData, (∀ (s : Shared) (us : List Value), us.length = ps.length → BindsTo s fd ⟨us, []⟩ (ps.zip us)) ∧
        ∀ base : Heap, (K w.params).In base → base.Ns mainGlobals mg → FnOk r.prog w (K w.params) mg base CX k fa fd ps (sp (K w.params)))
    (hsp : ∀ (K : PySem.W.Frag) (H : Hp) (xs : List V) (a : Codec.denoteAll r.args), OnlyF H → Codec.withinAll r.args a = true → Codec.app r.args r.asked a = true → DwAll K H xs (Codec.encAll r.args a) →
      sp K xs H (fun v H' => Dw K H' v (r.ret.enc (Codec.app r.args r.f a))) fun _ _ _ => False)
    (hCX : ∀ (H : Hp) (s : Shared) (e : Value) (s' : Shared), CX [] H s (fun _ _ _ => False) e s' → False) :
    PySem.W.WalkOS q loose XP YP r d [] (fun f vs => PySem.call f vs) :=
  walk_spec (K := K) (CX := fun _ => CX) (sp := fun w => sp (K w.params)) hwell hdf hlen hr hY F (fun w H xs a h1 h2 h3 h4 => hsp (K w.params) H xs a h1 h2 h3 h4) fun _ H s e s' => hCX H s e s'
end L2
end
section
set_option Elab.async false
set_option linter.all false
set_option maxRecDepth 100000
namespace L2
open PySem PySem.Spec PyProof.Rows
structure Kept (M S : List Addr) (h h' : Heap) : Prop where
  keep : ∀ b o, h.get? b = some o → b ∉ M → b ∉ S → h'.get? b = some o
  slot : ∀ b o, h.get? b = some o → b ∉ M → b ∈ S → ∃ sl, h'.get? b = some { o with slots := sl }
theorem Kept.refl (M S : List Addr) (h : Heap) : Kept M S h h := ⟨fun _ _ e _ _ => e, fun _ o e _ _ => ⟨o.slots, e⟩⟩
theorem Kept.any {M S : List Addr} {h h' : Heap} (k : Kept M S h h') {b : Addr} {o : Obj} (e : h.get? b = some o) (hb : b ∉ M) : ∃ sl, h'.get? b = some { o with slots := sl } := by
  by_cases hs : b ∈ S
  · exact k.slot b o e hb hs
  · exact ⟨o.slots, k.keep b o e hb hs⟩
theorem Kept.trans {M M' S : List Addr} {h h1 h2 : Heap} (a : Kept M S h h1) (b : Kept M' S h1 h2) (hm : ∀ c ∈ M', c ∈ M ∨ h.get? c = none) : Kept M S h h2 := by
  have out : ∀ c o, h.get? c = some o → c ∉ M → c ∉ M' := fun c o e n z => (hm c z).elim n fun q => by rw [e] at q; cases q
  refine ⟨fun c o e n s => b.keep c o (a.keep c o e n s) (out c o e n) s, fun c o e n s => ?_⟩
  obtain ⟨sl, e1⟩ := a.slot c o e n s
  obtain ⟨sl2, e2⟩ := b.slot c _ e1 (out c o e n) s
  exact ⟨sl2, e2⟩
theorem Kept.mono {M M' S S' : List Addr} {h h1 : Heap} (a : Kept M S h h1) (hm : ∀ c ∈ M, c ∈ M') (hs : ∀ c ∈ S, c ∈ S') : Kept M' S' h h1 :=
  ⟨fun c o e n s => a.keep c o e (fun z => n (hm c z)) fun z => s (hs c z), fun c o e n _ => a.any e fun z => n (hm c z)⟩
theorem ObjOk.there {P : Program} {w : World} {H : Hp} {h : Heap} {a : Addr} : ∀ {o : HO}, ObjOk P w H h a o → ∃ u, h.get? a = some u := by
  intro o x
  cases o with
  | lst xs => obtain ⟨_, _, _, _, e⟩ := x; exact ⟨_, e⟩
  | tup xs => obtain ⟨_, _, _, o, e, _⟩ := x; exact ⟨_, e⟩
  | dK kvs => obtain ⟨_, _, _, _, o, _, _, e, _⟩ := x; exact ⟨_, e⟩
  | dT kvs => obtain ⟨_, _, _, _, o, _, _, e, _⟩ := x; exact ⟨_, e⟩
  | set S n => obtain ⟨o, _, _, _, e, _⟩ := x; exact ⟨_, e⟩
  | ins C dx fs => obtain ⟨_, _, _, e, _⟩ := x; exact ⟨_, e⟩
  | own y => obtain ⟨_, e⟩ := x; exact ⟨_, e⟩
  | xd fs => obtain ⟨_, ⟨_, _, _, e, _⟩, _⟩ := x; exact ⟨_, e⟩
  | rng lo hi => obtain ⟨_, _, _, e⟩ := x; exact ⟨_, e⟩
  | frz ob u => obtain ⟨e, _⟩ := x; exact ⟨_, e⟩
  | tbl ps => exact ⟨_, (show h.get? a = some _ from x)⟩
  | met f y => exact ⟨_, (show h.get? a = some _ from x)⟩
  | ext φ => obtain ⟨_, e, _⟩ := x; exact e
theorem HOk.through {P : Program} {w : World} {H : Hp} {h h' : Heap} {M S : List Addr} (x : HOk P w H h) (k : Kept M S h h') (hM : ∀ b ∈ M, H b = none) (hS : ∀ b ∈ S, H b = none) : HOk P w H h' := fun a o e => by
  have nin : ∀ {l : List Addr}, (∀ b ∈ l, H b = none) → ∀ b u, H b = some u → b ∉ l := fun hl b u q z => by rw [hl b z] at q; cases q
  refine (x a o e).stay (fun b u hb q => ?_) (fun _ q => q) fun _ _ q => q
  rcases hb with rfl | hb
  · exact k.keep b u q (nin hM _ _ e) (nin hS _ _ e)
  · exact k.keep b u q (nin hM _ _ hb) (nin hS _ _ hb)
theorem Un.through {fs ex : List Addr} {H0 H : Hp} {h0 h h' : Heap} {M S : List Addr} (u : Un fs ex H0 H h0 h) (k : Kept M S h h') (hM : ∀ b ∈ M, h0.get? b = none) (hS : ∀ b ∈ S, b ∈ fs ∨ h0.get? b = none) : Un fs ex H0 H h0 h' := by
  have nM : ∀ b o, h0.get? b = some o → b ∉ M := fun b o q z => by rw [hM b z] at q; cases q
  refine ⟨fun b o q n hb hx => k.keep b o (u.keep b o q n hb hx) (nM b o q) fun z => (hS b z).elim hb (fun z => (by rw [z] at q; cases q)), fun b o q n hb hx => ?_, u.free, fun b o q hx => ?_, u.tups, u.frzs, u.tbls⟩
  · obtain ⟨sl, e⟩ := u.slot b o q n hb hx
    obtain ⟨sl2, e2⟩ := k.any e (nM b o q)
    exact ⟨sl2, e2⟩
  · obtain ⟨o', e⟩ := u.there b o q hx
    obtain ⟨sl, e2⟩ := k.any e (nM b o q)
    exact ⟨_, e2⟩
def Exc1 (h : Heap) (e : Addr) (cls : Value) : Prop := ∃ oe vs a0, h.get? e = some oe ∧ oe.cls = cls ∧ oe.data = .fields vs ∧ vs[0]? = some a0 ∧ vs[1]? = some .none
def Exc2 (h : Heap) (e T : Addr) (cls fl : Value) : Prop := ∃ oe vs oT ts a0, h.get? e = some oe ∧ (oe.cls = cls ∧ vs[0]? = some a0) ∧ oe.data = .fields vs ∧ vs[1]? = some (.ref T) ∧ T ≠ e ∧ h.get? T = some oT ∧ oT.data = .fields ts ∧ ts[3]? = some fl
theorem Exc2.tr {h : Heap} {e T : Addr} {cls fl : Value} {l : List Addr} (x : Exc2 h e T cls fl) (hT : T ∈ l) : ∃ a0, h.TracedAtW (PySem.W.hideAll h l) e cls a0 fl := by
  obtain ⟨oe, vs, oT, ts, a0, h1, h2, h3, h4, h5, h6, h7, h8⟩ := x
  exact ⟨a0, oe, vs, T, oT, ts, h1, h2, h3, h4, PySem.W.hideAll_none _ hT, h5, h6, h7, h8⟩
theorem Exc2.of {h B : Heap} {e : Addr} {cls a0 fl : Value} (x : h.TracedAtW B e cls a0 fl) : ∃ T, Exc2 h e T cls fl ∧ B.get? T = none := by
  obtain ⟨oe, vs, T, oT, ts, h1, h2, h3, h4, h5, h6, h7, h8, h9⟩ := x
  exact ⟨T, ⟨oe, vs, oT, ts, a0, h1, h2, h3, h4, h6, h7, h8, h9⟩, h5⟩
theorem hid_stays (h : Heap) (l : List Addr) : (PySem.W.hideAll h l).StaysIn h := fun _ _ e => PySem.W.of_hideAll l e
theorem hid_frames {h base : Heap} {l : List Env} {as : List Addr} (x : h.FunFrames base l) (hs : ∀ b ∈ frs l, b ∈ as) : h.FunFrames (PySem.W.hideAll h as) l :=
  PySem.W.funFrames_hide x fun env he a hf => hs a (List.mem_filterMap.mpr ⟨env, he, hf⟩)
theorem kept_hid {h h' base : Heap} {M S : List Addr} (k : (PySem.W.hideAll h (M ++ S)).StaysIn h') (u : h.UpToSlots h') (hS : ∀ b ∈ S, ∀ o, h.get? b = some o → ∀ vs, o.data ≠ .fields vs) : Kept M S h h' :=
  ⟨fun b o e n s => k b o (PySem.W.hideAll_get _ e fun z => (List.mem_append.mp z).elim n s), fun b o e _ s => u b o e (hS b s o e)⟩
theorem fr_norec {h base : Heap} {l : List Env} (x : h.FunFrames base l) : ∀ b ∈ frs l, ∀ o, h.get? b = some o → ∀ vs, o.data ≠ .fields vs := fun b hb o e => by
  obtain ⟨_, o', e', d⟩ := x.mem hb
  rw [e] at e'
  cases e'
  exact d
theorem new_T {h h' base : Heap} {l : List Env} {M : List Addr} {e T : Addr} {cls fl : Value} (x : h.FunFrames base l) (k : Kept M (frs l) h h') (hd : (PySem.W.hideAll h (M ++ frs l)).get? T = none) (q : Exc2 h' e T cls fl) : h.get? T = none ∨ T ∈ M := by
  cases z : h.get? T with
  | none => exact .inl rfl
  | some o =>
    refine .inr ?_
    by_cases hm : T ∈ M
    · exact hm
    · by_cases hs : T ∈ frs l
      · obtain ⟨sl, e2⟩ := k.slot T o z hm hs
        obtain ⟨_, _, oT, ts, _, _, _, _, _, _, h6, h7, _⟩ := q
        rw [e2] at h6
        cases h6
        exact absurd h7 (fr_norec x T hs o z ts)
      · have := PySem.W.hideAll_get (M ++ frs l) z fun y => (List.mem_append.mp y).elim hm hs
        rw [hd] at this
        cases this
section
variable {M : Model} {A : Around} {E : Value → Shared → Prop} {s : Shared} {env : Env} {outer : List Env} {L e : Addr} {cls : Value} {base : Heap} {Q : Unit → Shared → Prop}
theorem note1 (hfr : A.frames = some (env :: outer)) (hl : s.heap.FunFrames base (env :: outer)) (hf : env.frame = some L) (hx : Exc1 s.heap e cls)
    (h : ∀ h' T, Kept [e] (frs (env :: outer)) s.heap h' → Exc2 h' e T cls (rawInt L) → s.heap.get? T = none → Q () { s with heap := h' }) : wpAny M A (noteFrame (.ref e) env) Q E s := by
  obtain ⟨oe, vs, a0, h1, h2, h3, h4, h5⟩ := hx
  unfold noteFrame
  simp only [hf]
  refine wpAny_bind (wpAny_field h1 h3 h5 ?_)
  rw [if_neg (by decide)]
  refine wpAny_entryW (base := PySem.W.hideAll s.heap ([e] ++ frs (env :: outer))) (a0 := a0) hfr (hid_frames hl fun b hb => List.mem_append_right _ hb) hf h1 (hid_stays _ _) (PySem.W.hideAll_none _ (by simp)) h3 (Array.getElem?_eq_some_iff.mp h5).1 h4 fun h' hn => ?_
  obtain ⟨k1, _, k3, k4⟩ := hn
  have K := kept_hid (base := base) k1 k4 (fr_norec hl)
  rw [h2] at k3
  obtain ⟨T, q, hT⟩ := Exc2.of k3
  refine h h' T K q ((new_T hl K hT q).resolve_right fun z => ?_)
  obtain ⟨_, _, _, _, _, _, _, _, _, ne, _⟩ := q
  exact ne (by simpa using z)
theorem note2 {T : Addr} {fl : Value} (hfr : A.frames = some (env :: outer)) (hl : s.heap.FunFrames base (env :: outer)) (hf : env.frame = some L) (hx : Exc2 s.heap e T cls fl)
    (h : ∀ h' T', Kept [e, T] (frs (env :: outer)) s.heap h' → Exc2 h' e T' cls (rawInt L) → (s.heap.get? T' = none ∨ T' = T) → Q () { s with heap := h' }) : wpAny M A (noteFrame (.ref e) env) Q E s := by
  by_cases hfl : fl = rawInt L
  · subst hfl
    obtain ⟨a0, tr⟩ := hx.tr (l := [T]) (by simp)
    exact wpAny_noteFrame_againW hf tr (h s.heap T (.refl _ _ _) hx (.inr rfl))
  · obtain ⟨oe, vs, oT, ts, a0, h1, ⟨h2, h0⟩, h3, h4, h5, h6, h7, h8⟩ := hx
    unfold noteFrame
    simp only [hf]
    refine wpAny_bind (wpAny_field h1 h3 h4 ?_)
    rw [if_pos (show (Value.ref T != Value.none) = true from by simp)]
    refine wpAny_bind (wpAny_field h6 h7 h8 ?_)
    rw [if_neg (show ¬ ((fl == rawInt L) = true) from fun z => hfl (by simpa using z))]
    refine wpAny_bind (wpAny_setField h6 h7 (Array.getElem?_eq_some_iff.mp h8).1 ?_)
    have oth : ∀ b, b ≠ T → (s.heap.update T (Obj.mapFields (·.setIfInBounds 3 Value.none))).get? b = s.heap.get? b := fun b hb => Heap.get?_update_other _ _ (Ne.symm hb)
    have K0 : Kept [e, T] (frs (env :: outer)) s.heap (s.heap.update T (Obj.mapFields (·.setIfInBounds 3 Value.none))) :=
      ⟨fun b o q n _ => (oth b fun z => n (by simp [z])).trans q, fun b o q n _ => ⟨o.slots, (oth b fun z => n (by simp [z])).trans q⟩⟩
    have norec := fr_norec hl
    have hl1 : (s.heap.update T (Obj.mapFields (·.setIfInBounds 3 Value.none))).FunFrames base (env :: outer) :=
      hl.of_keeps fun b o q nf => ⟨o, (oth b fun z => by subst z; rw [h6] at q; cases q; exact nf ts h7).trans q, rfl⟩
    have hT1 := Heap.get?_update_self (Obj.mapFields (·.setIfInBounds 3 Value.none)) h6 (Obj.isFreed_of_fields (Obj.data_mapFields h7 _))
    refine wpAny_entryW (base := PySem.W.hideAll (s.heap.update T (Obj.mapFields (·.setIfInBounds 3 Value.none))) ([e, T] ++ frs (env :: outer))) (a0 := a0) hfr (hid_frames hl1 fun b hb => List.mem_append_right _ hb) hf ((oth e (Ne.symm h5)).trans h1) (hid_stays _ _)
      (PySem.W.hideAll_none _ (by simp)) h3 (Array.getElem?_eq_some_iff.mp h4).1 h0 fun h' hn => ?_
    obtain ⟨k1, _, k3, k4⟩ := hn
    have K1 := kept_hid (base := base) k1 k4 (fr_norec hl1)
    rw [h2] at k3
    obtain ⟨T', q, hT'⟩ := Exc2.of k3
    refine h h' T' (K0.trans K1 fun c hc => .inl hc) q ?_
    rcases new_T hl1 K1 hT' q with z | z
    · by_cases ht : T' = T
      · exact .inr ht
      · exact .inl (by rw [← oth T' ht]; exact z)
    · obtain ⟨_, _, _, _, _, _, _, _, _, ne, _⟩ := q
      simp at z
      exact .inr (z.resolve_left ne)
theorem flight {T : Addr} {fl : Value} {fr : Option Addr} (hx : Exc2 s.heap e T cls fl)
    (h : ∀ h', Kept [T] [] s.heap h' → Exc2 h' e T cls (fr.elim Value.none fun f => rawInt f) → Q () { s with heap := h' }) : wpAny M A (setFlight (.ref e) fr) Q E s := by
  obtain ⟨oe, vs, oT, ts, a0, h1, h2, h3, h4, h5, h6, h7, h8⟩ := hx
  have sz := (Array.getElem?_eq_some_iff.mp h8).1
  unfold setFlight
  refine wpAny_bind (wpAny_field h1 h3 h4 ?_)
  rw [if_pos (show (Value.ref T != Value.none) = true from by simp)]
  refine wpAny_setField h6 h7 sz (h _ ?_ ?_)
  · exact ⟨fun b o q n _ => (Heap.get?_update_other _ _ fun z => n (by simp [z])).trans q, fun b o _ _ z => absurd z (by simp)⟩
  · refine ⟨oe, vs, _, _, a0, (Heap.get?_update_other _ _ h5).trans h1, h2, h3, h4, h5, Heap.get?_update_self _ h6 (Obj.isFreed_of_fields (Obj.data_mapFields h7 _)), Obj.data_mapFields h7 _, ?_⟩
    rw [Array.getElem?_setIfInBounds_self_of_lt sz]
def ExcX (h : Heap) (e : Addr) (cls : Value) (tr : List Addr) : Prop := (tr = [] ∧ Exc1 h e cls) ∨ ∃ T fl, tr = [T] ∧ Exc2 h e T cls fl
theorem noteX {tr : List Addr} (hfr : A.frames = some (env :: outer)) (hl : s.heap.FunFrames base (env :: outer)) (hf : env.frame = some L) (hx : ExcX s.heap e cls tr)
    (h : ∀ h' T', Kept (e :: tr) (frs (env :: outer)) s.heap h' → Exc2 h' e T' cls (rawInt L) → (s.heap.get? T' = none ∨ T' ∈ tr) → Q () { s with heap := h' }) : wpAny M A (noteFrame (.ref e) env) Q E s := by
  rcases hx with ⟨rfl, hx⟩ | ⟨T, fl, rfl, hx⟩
  · exact note1 hfr hl hf hx fun h' T k q z => h h' T k q (.inl z)
  · exact note2 hfr hl hf hx fun h' T' k q z => h h' T' k q (z.imp id fun z => by simp [z])
theorem landX {tr : List Addr} (hfr : A.frames = some (env :: outer)) (hl : s.heap.FunFrames base (env :: outer)) (hf : env.frame = some L) (hx : ExcX s.heap e cls tr)
    (h : ∀ h' T', Kept (e :: tr) (frs (env :: outer)) s.heap h' → Exc2 h' e T' cls .none → (s.heap.get? T' = none ∨ T' ∈ tr) → Q () { s with heap := h' }) :
    wpAny M A (noteFrame (.ref e) env) (fun _ s' => wpAny M A (setFlight (.ref e) none) Q E s') E s := by
  refine noteX hfr hl hf hx fun h1 T' k q z => ?_
  refine flight (s := { s with heap := h1 }) q fun h2 k2 q2 => ?_
  refine h h2 T' (k.trans (k2.mono (fun c hc => hc) (fun c hc => absurd hc (by simp))) fun c hc => ?_) q2 z
  have : c = T' := by simpa using hc
  subst this
  exact z.symm.imp (fun z => List.mem_cons_of_mem _ z) id
theorem leaveX {tr : List Addr} (hfr : A.frames = some (env :: outer)) (hl : s.heap.FunFrames base (env :: outer)) (hf : env.frame = some L) (hx : ExcX s.heap e cls tr)
    (h : ∀ h' T', Kept (e :: tr) (frs (env :: outer)) s.heap h' → Exc2 h' e T' cls .none → (s.heap.get? T' = none ∨ T' ∈ tr) → Q () { s with heap := h' }) : wpAny M A (leaving env (.ref e)) Q E s := by
  unfold leaving
  exact wpAny_bind (landX hfr hl hf hx h)
end
end L2
end
section
set_option Elab.async false
set_option linter.all false
set_option maxRecDepth 100000
namespace L2
open PySem PySem.Spec PyProof.Rows
def CXN (P : Program) (w : World) (C : Addr) : CXT := fun outer H s E u s' => ∃ e T H', u = .ref e ∧ s'.os = s.os ∧ AllBare s'.gens ∧ Un (frs outer) [] H H' s.heap s'.heap ∧ HOk P w H' s'.heap ∧ Exc2 s'.heap e T (.ref C) .none ∧
  (∀ b ∈ [e, T], s.heap.get? b = none ∧ H' b = none) ∧ E (.ref C) none H'
def Out (X : Cx) (C e : Addr) (H' : Hp) (s' : Shared) : Prop := ∃ pins σ tr, Inv X pins σ H' s' ∧ ExcX s'.heap e (.ref C) tr ∧ ∀ b ∈ e :: tr, X.s_0.heap.get? b = none ∧ H' b = none ∧ ∀ p ∈ X.pn ++ pins, p.1 ≠ b
structure XOk (X : Cx) (C : Addr) (EH : Hp → Prop) : Prop where
  ex : ∀ b ∈ X.ex, ∃ o, (b, o) ∈ X.pn
  go : ∀ e H' s', Out X C e H' s' → EH H' → X.xe (.ref e) s'
theorem hok_none {P : Program} {w : World} {H : Hp} {h : Heap} (x : HOk P w H h) {b : Addr} (e : h.get? b = none) : H b = none := by
  cases q : H b with
  | none => rfl
  | some o =>
    obtain ⟨u, z⟩ := (x b o q).there
    rw [e] at z
    cases z
theorem un_none {fs ex : List Addr} {H H' : Hp} {h h' : Heap} (u : Un fs ex H H' h h') {b : Addr} (e : h'.get? b = none) (hx : b ∉ ex) : h.get? b = none := by
  cases q : h.get? b with
  | none => rfl
  | some o =>
    obtain ⟨o', z⟩ := u.there b o q hx
    rw [e] at z
    cases z
theorem xok_def {P : Program} {w : World} {K : PySem.W.Frag} {mg : Str → Option Value} {base : Heap} {N : List Str} {qual : Str} {scope : Scope} {f C : Addr} {cd : Value} {A : Around} {outer : List Env} {s : Shared} {H : Hp} {E : XK} :
    XOk (cxOf (CXN P w C) P w K mg base N qual scope f cd A outer s H E) C (E (.ref C) none) := by
  refine ⟨fun b hb => absurd (show b ∈ ([] : List Addr) from hb) (by simp), fun e H' s' h q => ?_⟩
  obtain ⟨pins, σ, tr, I, x, fr⟩ := h
  refine leaveX (base := base) (outer := outer) (L := s.heap.objs.size) I.ok.frames I.stack rfl x fun h' T' k x' z => ?_
  have hS : ∀ b ∈ frs (envOfC qual scope s.heap.objs.size f cd :: outer), b ∈ frs outer ∨ s.heap.get? b = none := fun b hb => by
    have hb : b ∈ s.heap.objs.size :: frs outer := hb
    rcases List.mem_cons.mp hb with rfl | hb
    · exact .inr (Heap.get?_none_of_le (Nat.le_refl _))
    · exact .inl hb
  refine ⟨e, T', H', rfl, I.os, I.bare, Un.through (fs := frs outer) (ex := []) I.base k (fun b hb => (fr b hb).1) hS, I.hok.through k (fun b hb => (fr b hb).2.1) I.stkFree, x', fun b hb => ?_, q⟩
  have hb : b = e ∨ b = T' := by simpa using hb
  rcases hb with rfl | rfl
  · exact ⟨(fr b (by simp)).1, (fr b (by simp)).2.1⟩
  · rcases z with z | z
    · exact ⟨un_none I.base z (fun y => absurd (show b ∈ ([] : List Addr) from y) (by simp)), hok_none I.hok z⟩
    · exact ⟨(fr b (by simp [z])).1, (fr b (by simp [z])).2.1⟩
theorem passN {X : Cx} {C : Addr} {E : XK} {EH : Hp → Prop} (hx : XOk X C EH) (hi : ∀ H', E (.ref C) none H' → EH H') : Passes (CXN X.prog X.w C) X E := fun pins σ H s u s' I h => by
  obtain ⟨e, T, H', rfl, os, bare, un, hok, x, fr, q⟩ := h
  have I' : Inv X pins σ H' s' := I.call' (ch := []) os un hok bare (fun b z => absurd z (by simp))
  refine hx.go e H' s' ⟨pins, σ, [T], I', .inr ⟨T, _, rfl, x⟩, fun b hb => ?_⟩ (hi _ q)
  obtain ⟨f1, f2⟩ := fr b hb
  have np : ∀ p ∈ X.pn ++ pins, p.1 ≠ b := fun p hp z => by
    have := (I.pin p hp).1
    rw [z, f1] at this
    cases this
  refine ⟨un_none I.base f1 fun hb => ?_, f2, np⟩
  obtain ⟨o, ho⟩ := hx.ex b hb
  exact np _ (List.mem_append_left _ ho) rfl
theorem ps_raise {X : Cx} {C : Addr} {EH : Hp → Prop} {x : Str} {B newId initId : String} {bm : List Value} {e₀ : Expr} {rest : List Expr} {ta : TA} {np cpos pos : Pos} (O : OwnCls x C bm newId X.mg X.base) (FB : ExcBaseFacts B newId initId bm) (hc : X.calm = true)
    (hx : XOk X C EH) (hg : Gl X x) (ha : PA X (e₀ :: rest) ta) (he : starEach (e₀ :: rest) X.env = (false, eval e₀ X.env) :: starEach rest X.env := by rfl) (hpl : (backTo cpos (starEach rest X.env)).any (·.1) = false := by rfl)
    (hd : (x == ("__debug__" : Str)) = false := by decide) :
    PS X (.Raise (some (.Call (.Name x np) (e₀ :: rest) [] cpos)) none pos) (fun _ σ H => ta σ H fun vs H1 => vs.length ≤ sizeLine ∧ EH H1) := by
  intro pins s σ H D I h
  obtain ⟨tl, N, nm, q, bs, hdct, sn, sub, ab, col, dd, k0, k1, k2, k3, k5, mN, hC, hN, hni, T⟩ := O.obj
  refine wpAny_Raise_call_subT (C := C) (nm := nm) (q := q) (N := N) (bs := bs) (bm := tl) (hdct := hdct) (sn := sn) (sub := sub) (ab := ab) (col := col) (dd := dd) (k0 := k0) (k1 := k1) (k2 := k2) (k3 := k3) (k5 := k5) FB (mN := mN)
    (T.hasType FB.hasBase) (I.ok.hd hc) (by rw [he]; show (false || (backTo cpos (starEach rest X.env)).any (·.1)) = false; rw [hpl]; rfl) hni (ld_glob I hg O.bound ⟨rfl, ?_⟩ hd)
  have h2 := ha cpos pins s σ H _ I h
  rw [he] at h2 ⊢
  refine Calls.evalArgs_plain (wpAny_mono h2 (fun us s2 ⟨vs, H2, I2, r, z, q⟩ => ?_) fun _ _ y => y)
  refine ⟨rfl, by rw [← r.length]; exact z, I2.bk _ _ hC, hN.keeps I2.bk, T.keeps I2.bk, fun h' e m => ?_⟩
  refine hx.go e H2 _ ⟨pins, σ, [], I2.kept (t' := s2.toks) m.keeps, .inl ⟨rfl, ?_⟩, fun b hb => ?_⟩ q
  · obtain ⟨t, e1, _⟩ := m.there
    exact ⟨_, _, _, e1, rfl, rfl, rfl, rfl⟩
  · have hb : b = e := by simpa using hb
    subst hb
    have np : ∀ p ∈ X.pn ++ pins, p.1 ≠ b := fun p hp z => by
      have := (I2.pin p hp).1
      rw [z, m.new] at this
      cases this
    refine ⟨un_none I2.base m.new fun hb => ?_, hok_none I2.hok m.new, np⟩
    obtain ⟨o, ho⟩ := hx.ex b hb
    exact np _ (List.mem_append_left _ ho) rfl
theorem Fun.okX {P : Program} {w : World} {K : PySem.W.Frag} {mg : Str → Option Value} {base : Heap} {C : Addr} {x qual : Str} {st : Stmt} {f : Addr} {fd : FuncData} {N ps : List Str} {k : Nat} {sp : Sp} (F : Fun K x qual st f fd) (S : FnScope N ps (defScope st)) (len : ∀ vs H Q E, sp vs H Q E → vs.length = ps.length)
    (hbody : ∀ (cdv : Value) (A : Around) (outer : List Env) (s : Shared) (H : Hp) (vs : List V) (Q : VK) (E : XK), Room k (A.deeper (envOfC qual (defScope st) s.heap.objs.size f cdv)) → sp vs H Q E →
      XOk (cxOf (CXN P w C) P w K mg base N qual (defScope st) f cdv A outer s H E) C (E (.ref C) none) →
      PassesOwn (model P w) (A.deeper (envOfC qual (defScope st) s.heap.objs.size f cdv)) (envOfC qual (defScope st) s.heap.objs.size f cdv) (cxOf (CXN P w C) P w K mg base N qual (defScope st) f cdv A outer s H E).xe →
      ∃ t, PSs (cxOf (CXN P w C) P w K mg base N qual (defScope st) f cdv A outer s H E) (defBody st) t ∧ t { nx := fun _ H' => Q .non H', rt := Q } (start N vs) H) : FnOk P w K mg base (CXN P w C) (k + 1) f fd ps sp := by
  obtain ⟨oc, od, kV, doc, pm, an, cdv, ct, osl, rfl, lk, hcd⟩ := F.ex
  exact fn_of lk hcd S len fun A outer s H vs Q E hr hsp => hbody cdv A outer s H vs Q E hr hsp xok_def PassesOwn.leaving
section
variable {X : Cx} {pins : List (Addr × Obj)} {σ : St} {H : Hp} {s : Shared} {h' : Heap}
theorem Cx.Ok.turn (ok : X.Ok) {E : Value → Shared → Prop} {pn : List (Addr × Obj)} {A : Around} {c : Bool} (hA : A.frames = X.A.frames) (hh : c = true → A.handled = none) : Cx.Ok { X with A := A, calm := c, xe := E, pn := pn } :=
  ⟨ok.mod, ok.kind, ok.glob, ok.blt, ok.above, ok.inj, ok.has, ok.cab, hh, hA.trans ok.frames, ok.stk, ok.exf, ok.bs, ok.bsz, ok.noex, ok.exfs, ok.funs, ok.frf⟩
theorem Inv.turn (I : Inv X pins σ H s) {E : Value → Shared → Prop} {pn pins' : List (Addr × Obj)} {A : Around} {c : Bool} (hA : A.frames = X.A.frames) (hh : c = true → A.handled = none) (hp : ∀ p ∈ pn ++ pins', p ∈ X.pn ++ pins) :
    Inv { X with A := A, calm := c, xe := E, pn := pn } pins' σ H s := ⟨I.ok.turn hA hh, I.os, I.bare, I.base, I.loc, I.cell, I.free, I.freeC, fun p h => I.pin p (hp p h), I.hok, I.len⟩
theorem Inv.thru {M : List Addr} (I : Inv X pins σ H s) (k : Kept M (frs X.stack) s.heap h') (hM : ∀ b ∈ M, X.s_0.heap.get? b = none ∧ H b = none ∧ ∀ p ∈ X.pn ++ pins, p.1 ≠ b) (hR : ∀ b ∈ M, ∀ o, s.heap.get? b = some o → ∃ vs, o.data = .fields vs) (hfn : ∀ x, X.fn x = true) :
    Inv X pins σ H { s with heap := h' } := by
  have hS : ∀ b ∈ frs X.stack, b ∈ X.fs ∨ X.s_0.heap.get? b = none := fun b hb => by
    rcases List.mem_cons.mp (I.stkSub b hb) with rfl | z
    · exact .inr (Heap.get?_none_of_le I.ok.above)
    · exact .inl z
  have cellK : ∀ x c v, X.env.cells.lookup x = some c → s.heap.IsCell c v → h'.IsCell c v := fun x c v hx q => by
    obtain ⟨o, ho, hd⟩ := q
    refine ⟨o, k.keep c o ho (fun z => ?_) fun z => ?_, hd⟩
    · obtain ⟨vs, e⟩ := hR c z o ho
      rw [hd] at e
      cases e
    · rcases List.mem_cons.mp (I.stkSub c z) with y | y
      · obtain ⟨m, ⟨o', es, ep, ho', hd', _⟩, _⟩ := I.loc
        rw [y, ho'] at ho
        cases ho
        rw [hd'] at hd
        cases hd
      · obtain ⟨_, o', ho', _⟩ := I.ok.funs.mem y
        exact absurd (Nat.lt_of_lt_of_le (Heap.lt_size ho') (I.ok.cab x c (hfn x) hx)) (Nat.lt_irrefl _)
  obtain ⟨m, hn, hl⟩ := I.loc
  refine ⟨I.ok, I.os, I.bare, I.base.through k (fun b hb => (hM b hb).1) hS, ⟨m, ?_, fun i x v e1 e2 e3 => ?_⟩, fun x c e => ?_, I.free, I.freeC, fun p hp => ?_, I.hok.through k (fun b hb => (hM b hb).2.1) I.stkFree, I.len⟩
  · obtain ⟨o, es, ep, ho, hd, r⟩ := hn
    obtain ⟨sl, e⟩ := k.any ho fun z => (by
      obtain ⟨vs, e⟩ := hR _ z o ho
      rw [hd] at e
      cases e)
    exact ⟨_, es, ep, e, hd, r⟩
  · obtain ⟨u, r, z⟩ := hl i x v e1 e2 e3
    exact ⟨u, r, z.imp id fun ⟨a, c, b, q⟩ => ⟨a, c, b, cellK x c _ b q⟩⟩
  · obtain ⟨v, q⟩ := I.cell x c e
    exact ⟨v, cellK x c v e q⟩
  · obtain ⟨a, b, c, d, e⟩ := I.pin p hp
    refine ⟨k.keep _ _ a (fun z => (hM _ z).2.2 p hp rfl) (fun z => ?_), b, c, d, e⟩
    rcases List.mem_cons.mp (I.stkSub _ z) with y | y
    · exact c y
    · exact d y
theorem excX_rec {h : Heap} {e : Addr} {cls : Value} {tr : List Addr} (x : ExcX h e cls tr) : ∀ b ∈ e :: tr, ∀ o, h.get? b = some o → ∃ vs, o.data = .fields vs := fun b hb o ho => by
  rcases x with ⟨rfl, oe, vs, a0, h1, h2, h3, _⟩ | ⟨T, fl, rfl, oe, vs, oT, ts, a0, h1, _, h3, _, _, h6, h7, _⟩
  · have : b = e := by simpa using hb
    subst this
    rw [h1] at ho
    cases ho
    exact ⟨_, h3⟩
  · have : b = e ∨ b = T := by simpa using hb
    rcases this with rfl | rfl
    · rw [h1] at ho
      cases ho
      exact ⟨_, h3⟩
    · rw [h6] at ho
      cases ho
      exact ⟨_, h7⟩
theorem SP.turn {E : Value → Shared → Prop} {pn pins' : List (Addr × Obj)} {A : Around} {c : Bool} {D : Ends} {fl : Flow} {s' : Shared} (h : SP { X with A := A, calm := c, xe := E, pn := pn } pins' D fl s') (hA : A.frames = X.A.frames) (hh : X.calm = true → X.A.handled = none)
    (hp : ∀ p ∈ X.pn ++ pins, p ∈ pn ++ pins') : SP X pins D fl s' := by
  have back : ∀ {σ' : St} {H' : Hp}, Inv { X with A := A, calm := c, xe := E, pn := pn } pins' σ' H' s' → Inv X pins σ' H' s' := fun I => I.turn (X := { X with A := A, calm := c, xe := E, pn := pn }) (E := X.xe) (pn := X.pn) (pins' := pins) (A := X.A) (c := X.calm) hA.symm hh hp
  cases fl with
  | next => obtain ⟨σ', H', I, q⟩ := h; exact ⟨σ', H', back I, q⟩
  | brk => obtain ⟨σ', H', I, q⟩ := h; exact ⟨σ', H', back I, q⟩
  | cont => obtain ⟨σ', H', I, q⟩ := h; exact ⟨σ', H', back I, q⟩
  | ret u => obtain ⟨v, σ', H', I, r, q⟩ := h; exact ⟨v, σ', H', back I, r, q⟩
theorem ps_try {C : Addr} (EH : Hp → Prop) {x : Str} {newId : String} {bm : List Value} {body suite : List Stmt} {b₀ : Stmt} {tb th : TS} {np hpos pos : Pos} (O : OwnCls x C bm newId X.mg X.base) (hbase : bm.contains (.type "BaseException") = true) (hc : X.calm = true) (hex : X.ex = []) (hfn : ∀ x, X.fn x = true)
    (hst : X.stack = X.env :: X.outer) (hfr : X.env.frame = some X.env.locals) (hg : Gl X x)
    (hb : ∀ E pn, XOk { X with xe := E, pn := pn } C EH → PassesOwn (model X.prog X.w) X.A X.env E → PSs { X with xe := E, pn := pn } body tb)
    (hh : ∀ e, PSs { X with A := X.A.mark (some (.ref e)), calm := false, xe := fun _ _ => False } (b₀ :: suite) th) (hd : (x == ("__debug__" : Str)) = false := by decide) :
    PS X (.Try body [.ExceptHandler (some (.Name x np)) none (b₀ :: suite) hpos] [] [] pos) (fun D σ H => tb D σ H ∧ ∀ σ' H', EH H' → th D σ' H') := by
  intro pins s σ H D I h
  refine wpAny_Try_except ?_
  have hA : ∀ e, (X.A.mark (some (.ref e))).frames = X.A.frames := fun _ => rfl
  have xk : XOk { X with xe := fun e s₁ => wpAny (model X.prog X.w) X.A (noteFrame e X.env) (fun _ s₂ => wpAny (model X.prog X.w) X.A (setFlight e none) (fun _ s₃ => wpAny (model X.prog X.w) X.A (handleBy e X.env [.ExceptHandler (some (.Name x np)) none (b₀ :: suite) hpos]) (SP X pins D) X.xe s₃) X.xe s₂) X.xe s₁, pn := X.pn ++ pins } C EH := by
    refine ⟨fun b hb => absurd (show b ∈ X.ex from hb) (by rw [hex]; simp), fun e H' s' ⟨pins', σ', tr, I', x', fr⟩ q => ?_⟩
    have fr0 : X.A.frames = some (X.env :: X.outer) := by rw [← hst]; exact I.ok.frames
    have st0 : s'.heap.FunFrames X.base (X.env :: X.outer) := by rw [← hst]; exact I'.stack
    refine landX (L := X.env.locals) fr0 st0 hfr x' fun h1 T1 k1 x1 z1 => ?_
    rw [← hst] at k1
    have I1 := I'.thru (s := s') k1 (fun b hb => ⟨(fr b hb).1, (fr b hb).2.1, (fr b hb).2.2⟩) (excX_rec x') hfn
    have fT : X.s_0.heap.get? T1 = none ∧ H' T1 = none ∧ ∀ p ∈ (X.pn ++ pins) ++ pins', p.1 ≠ T1 := by
      rcases z1 with z1 | z1
      · exact ⟨un_none I'.base z1 (fun y => absurd (show T1 ∈ X.ex from y) (by rw [hex]; simp)), hok_none I'.hok z1, fun p hp y => by
          have := (I'.pin p hp).1
          rw [y, z1] at this
          cases this⟩
      · exact fr T1 (List.mem_cons_of_mem _ z1)
    have I2 : Inv { X with A := X.A.mark (some (.ref e)), calm := false, xe := fun _ _ => False } pins σ' H' { s' with heap := h1 } :=
      I1.turn (A := X.A.mark (some (.ref e))) (c := false) (E := fun _ _ => False) (pn := X.pn) (pins' := pins) rfl (fun z => nomatch z) fun p hp => List.mem_append_left _ hp
    refine wpAny_handleBy_cons (codeAny_handlers_test (ld_glob I2 hg O.bound ?_ hd)) (by intro q; cases q)
    obtain ⟨tl, N, nm, qn, bs, hdct, sn, sub, ab, col, dd, k0, k1', k2, k3, k5, mN, hC, hN, hni, T⟩ := O.obj
    have x1' := x1
    obtain ⟨oe, vs, oT, ts, a0, e1, ⟨e2, _⟩, e3, e4, e5, e6, e7, e8⟩ := x1'
    refine wpAny_excMatches_sub_self (I2.bk _ _ hC) e1 e2 (T.hasType hbase) (codeAny_handlers_suite ?_)
    refine flight (s := { s' with heap := h1 }) x1 fun h2 k2' x2 => ?_
    have I3 := I2.thru (M := [T1]) (k2'.mono (fun c hc => hc) fun c hc => absurd hc (by simp)) (fun b hb => by
      have : b = T1 := by simpa using hb
      subst this
      exact ⟨fT.1, fT.2.1, fun p hp => fT.2.2 p (List.mem_append_left _ hp)⟩) (fun b hb o ho => by
      have : b = T1 := by simpa using hb
      subst this
      have ho : h1.get? b = some o := ho
      rw [e6] at ho
      cases ho
      exact ⟨_, e7⟩) hfn
    refine thnF (hh e pins _ σ' H' D I3 (h.2 σ' H' q)) fun fl s4 h4 => ?_
    exact SP.turn (X := X) h4 rfl I.ok.hd fun p hp => hp
  have I0 := I.turn (A := X.A) (c := X.calm) (E := fun e s₁ => wpAny (model X.prog X.w) X.A (noteFrame e X.env) (fun _ s₂ => wpAny (model X.prog X.w) X.A (setFlight e none) (fun _ s₃ => wpAny (model X.prog X.w) X.A (handleBy e X.env [.ExceptHandler (some (.Name x np)) none (b₀ :: suite) hpos]) (SP X pins D) X.xe s₃) X.xe s₂) X.xe s₁) (pn := X.pn ++ pins) (pins' := []) rfl I.ok.hd (fun p hp => by simpa using hp)
  refine thn (hb _ _ xk PassesOwn.looking [] s σ H D I0 h.1) fun fl s4 h4 => ?_
  have h5 : SP X pins D fl s4 := SP.turn (X := X) (A := X.A) (c := X.calm) h4 rfl I.ok.hd fun p hp => List.mem_append_left _ hp
  cases fl with
  | next => exact wpAny_execs_nil h5
  | brk => exact h5
  | cont => exact h5
  | ret u => exact h5
end
end L2
end
section
set_option Elab.async false
set_option linter.all false
set_option maxRecDepth 100000
namespace L2
open PySem PySem.Spec PyProof.Rows
def GI (mg : Str → Option Value) (x : Str) (n : Int) : Prop := ∃ t, mg x = some (.int n t)
def GS (mg : Str → Option Value) (x z : Str) : Prop := ∃ t, mg x = some (.str z t)
section
variable {X : Cx} {x : Str} {pos : Pos}
theorem pe_gi {n : Int} (h : GI X.mg x n) (hg : Gl X x := by rfl) (hd : (x == ("__debug__" : Str)) = false := by decide) : PE X (.Name x pos) (tC (.int n)) :=
  let ⟨t, e⟩ := h; pe_glob hg e ⟨t, rfl⟩ hd
theorem pe_gs {z : Str} (h : GS X.mg x z) (hg : Gl X x := by rfl) (hd : (x == ("__debug__" : Str)) = false := by decide) : PE X (.Name x pos) (tC (.str z)) :=
  let ⟨t, e⟩ := h; pe_glob hg e ⟨t, rfl⟩ hd
theorem pe_gr {a : Addr} (h : X.mg x = some (.ref a)) (hg : Gl X x := by rfl) (hd : (x == ("__debug__" : Str)) = false := by decide) : PE X (.Name x pos) (tC (.ref a)) := pe_glob hg h rfl hd
end
structure DicK (P : Program) (w : World) (K : PySem.W.Frag) (d : Addr) (kvs : List (Key × V)) : Prop where
  ns : (d == sysModules) = false
  few : kvs.length ≤ sizeLine
  ex : ∃ (o : Obj) (es : Array DictEntry) (ep : Nat) (vs : List (Key × Value)), K.lookup d = some o ∧ o.ExactDict ∧ o.data = .dict es ep ∧ KeysOf (mixKind P w) es ∧ Pairs (mixKind P w) es.toList vs ∧ (vs.map (·.1)).Nodup ∧ KV kvs vs
section
variable {X : Cx} {pins : List (Addr × Obj)} {σ : St} {H : Hp} {s : Shared} {d : Addr} {kvs : List (Key × V)}
theorem DicK.at (D : DicK X.prog X.w X.K d kvs) (I : Inv X pins σ H s) : ∃ (o : Obj) (es : Array DictEntry) (ep : Nat) (vs : List (Key × Value)), s.heap.get? d = some o ∧ o.ExactDict ∧ o.data = .dict es ep ∧ es.size = kvs.length ∧ KV kvs vs ∧
    s.heap.DictOf (mixKind X.prog X.w) d vs ∧ s.heap.DictAt (mixKind X.prog X.w) d vs ep := by
  obtain ⟨o, es, ep, vs, lk, hx, hd, h1, h2, h3, kv⟩ := D.ex
  have ho := I.kIn _ _ lk
  refine ⟨o, es, ep, vs, ho, hx, hd, ?_, kv, ⟨o, es, ep, ho, hx, hd, h1, h2, h3⟩, ⟨o, es, ho, hx, hd, h1, h2, h3⟩⟩
  have l1 := h2.length
  have l2 : kvs.length = vs.length := Paired.length kv
  rw [Array.length_toList] at l1
  omega
variable {k : Key} {u : Value} {A : Around} {E : Value → Shared → Prop}
theorem dK_get {v : V} {Q : Value → Shared → Prop} (D : DicK X.prog X.w X.K d kvs) (I : Inv X pins σ H s) (l : valV kvs k = some v) (ry : RelV (kV k) u) (h : ∀ w' s', Inv X pins σ H s' → RelV v w' → Q w' s') : wpAny (model X.prog X.w) A (getItem (.ref d) u) Q E s := by
  obtain ⟨o, es, ep, vs, ho, hx, hd, hz, rel, dd, _⟩ := D.at I
  obtain ⟨w', hw, rw'⟩ := RelO.some_of (v := v) (o := valueAt vs k) (by rw [← l]; exact rel.val k)
  exact wpAny_getItem_of (kV_is ry) dd.mapOf hw (h w' _ (I.tok _) rw')
theorem dK_in {Q : Value → Shared → Prop} (D : DicK X.prog X.w X.K d kvs) (I : Inv X pins σ H s) (ry : RelV (kV k) u) (h : ∀ s', Inv X pins σ H s' → Q (.bool (valV kvs k).isSome) s') : wpAny (model X.prog X.w) A (compareOp .In u (.ref d)) Q E s := by
  obtain ⟨o, es, ep, vs, ho, hx, hd, hz, rel, dd, _⟩ := D.at I
  refine wpAny_in_of (kV_is ry) D.ns dd.mapOf ?_
  rw [← (rel.val k).isSome_eq]
  exact h _ (I.tok _)
end
def tKGet (P : Program) (w : World) (K : PySem.W.Frag) (td ty : TE) : TE := fun σ H Q => td σ H fun x H1 => ty σ H1 fun y H2 => ∃ a kvs k v, x = .ref a ∧ DicK P w K a kvs ∧ y = kV k ∧ valV kvs k = some v ∧ Q v H2
def tKIn (P : Program) (w : World) (K : PySem.W.Frag) (ty td : TE) : TE := fun σ H Q => ty σ H fun y H1 => td σ H1 fun x H2 => ∃ a kvs k, x = .ref a ∧ DicK P w K a kvs ∧ y = kV k ∧ Q (.bl (valV kvs k).isSome) H2
section
variable {X : Cx} {o i : Expr} {pos : Pos} {td ty : TE}
theorem pe_kget (ho : PE X o td) (hi : PE X i ty) (hs : NoSl i) : PE X (.Subscript o i pos) (tKGet X.prog X.w X.K td ty) := by
  intro pins s σ H Q I h
  refine subD_of PySem.F.slot_dict_getitem.lookup hs (thn (ho pins s σ H _ I h) fun u s1 ⟨x, H1, I1, rx, q1⟩ => thn (hi pins s1 σ H1 _ I1 q1) fun iv s2 ⟨y, H2, I2, ry, a, kvs, k, v, ex, D, ey, l, q2⟩ => ?_)
  subst ex ey
  obtain rfl : u = Value.ref a := rx
  obtain ⟨_, _, _, _, _, _, _, _, _, dd, _⟩ := D.at I2
  exact ⟨dd.typeIs, dK_get D I2 l ry fun w' s3 I3 rw' => ⟨v, H2, I3, rw', q2⟩⟩
theorem pc_kin (hi : PE X i ty) (ho : PE X o td) : PC X .In i o (tKIn X.prog X.w X.K ty td) := by
  intro pins s σ H Q I h
  refine thn (hi pins s σ H _ I h) fun iv s1 ⟨y, H1, I1, ry, q1⟩ => thn (ho pins s1 σ H1 _ I1 q1) fun u s2 ⟨x, H2, I2, rx, a, kvs, k, ex, D, ey, q2⟩ => ?_
  subst ex ey
  obtain rfl : u = Value.ref a := rx
  exact dK_in D I2 ry fun s3 I3 => ⟨.bl _, H2, I3, rfl, q2⟩
end
def Itm (kvs : List (Key × V)) : It := ⟨fun i _ => i < kvs.length, fun i H x H' => H' = H ∧ ∃ k v, kvs[i]? = some (k, v) ∧ x = kV k, fun i _ => kvs.length ≤ i⟩
def DicO (P : Program) (w : World) (K : PySem.W.Frag) (d : Addr) (kvs : List (Key × V)) (ep : Nat) : Prop := DicK P w K d kvs ∧ ∃ o es, K.lookup d = some o ∧ o.data = .dict es ep
theorem turn_mkeys {P : Program} {w : World} {K : PySem.W.Frag} {tg : Expr} {d : Addr} {kvs : List (Key × V)} {ep : Nat} (D0 : DicO P w K d kvs ep) (it : Addr) : Turn P w K tg (Itm kvs) [it] it (fun i h => h.IsKeyIter it d i kvs.length ep) where
  mem := by simp
  obj := fun i h st b hb => by
    have e : b = it := by simpa using hb
    subst e
    obtain ⟨oi, e, c, dd⟩ := st
    exact ⟨oi, e, fun v z => by rw [dd] at z; cases z⟩
  keep := fun i h h' st k => st.at fun oi e => k it (by simp) oi e
  item := by
    intro X hP hw hK hc i pins s σ H E I hf st hi
    subst hP hw hK
    obtain ⟨D, o0, es0, lk0, hd0⟩ := D0
    obtain ⟨f0, f1, f2, f3, f4, f5⟩ := hf it (by simp)
    obtain ⟨o, es, ep', vs, hgd, hx, hdt, hsz, kv, _, hm⟩ := D.at I
    have eo := (I.kIn _ _ lk0).symm.trans hgd
    cases eo
    obtain ⟨rfl, rfl⟩ := dict_ep hd0 hdt
    obtain ⟨⟨k, v⟩, hkv⟩ : ∃ p, kvs[i]? = some p := ⟨kvs[i], List.getElem?_eq_getElem hi⟩
    obtain ⟨u, hu, ru⟩ := kv_get kv hkv
    have hl : kvs.length = vs.length := Paired.length kv
    rw [hl] at st
    refine wpAny_pyNext_dict_item st hm hu fun key h' hkey st' sb => ?_
    have I1 : Inv X pins σ H { s with heap := h' } := I.turned (t' := s.toks) (fun b ob hb e => (sb.2 b hb).trans e) f0 f1 f3 f4 f5
    obtain ⟨oi, e, c, dd⟩ := id st'
    refine ⟨key, rfl, go_of (s := { s with heap := h' }) e c dd (by decide) ⟨kV k, H, I1, relV_key (show keyIs k key = true from hkey), ⟨rfl, k, v, hkv, rfl⟩, ?_, fun b hb => (hf b hb).1⟩⟩
    show h'.IsKeyIter it d (i + 1) kvs.length _
    rw [hl]
    exact st'
  done := by
    intro X hP hw hK hc i pins s σ H E I hf st hi
    subst hP hw hK
    obtain ⟨D, o0, es0, lk0, hd0⟩ := D0
    obtain ⟨f0, f1, f2, f3, f4, f5⟩ := hf it (by simp)
    obtain ⟨o, es, ep', vs, hgd, hx, hdt, hsz, kv, _, hm⟩ := D.at I
    have eo := (I.kIn _ _ lk0).symm.trans hgd
    cases eo
    obtain ⟨rfl, rfl⟩ := dict_ep hd0 hdt
    exact next_key_end (I.ok.hd hc) st hgd hdt hsz hi fun h' eb => ⟨rfl, I.turned (t' := s.toks) (fun b ob hb e => eb b ob hb e) f0 f1 f3 f4 f5⟩
  self := fun A i s Q E st h => wpAny_pyIter_keyiter st h
def iKeysK (P : Program) (w : World) (K : PySem.W.Frag) (td : TE) : TI := fun σ H R => td σ H fun x H1 => ∃ d kvs, x = .ref d ∧ DicK P w K d kvs ∧ R (Itm kvs) H1
theorem pi_kkeys {X : Cx} {tg e : Expr} {td : TE} (he : PE X e td) : PI X tg e (iKeysK X.prog X.w X.K td) := by
  intro pins s σ H R I h
  refine thn (he pins s σ H _ I h) fun u s1 ⟨x, H1, I1, rx, d, kvs, ex, D, q⟩ => ?_
  subst ex
  obtain rfl : u = Value.ref d := rx
  obtain ⟨o, es, ep, vs, hgd, hx, hdt, hsz, kv, _, hm⟩ := D.at I1
  obtain ⟨o', es', ep', vs', lk, _, hd', _⟩ := D.ex
  have eo := (I1.kIn _ _ lk).symm.trans hgd
  cases eo
  refine iter_keys D.ns hgd hx hdt (pi_one (tk := s1.toks) I1 _ (turn_mkeys ⟨D, _, _, lk, hdt⟩ _) ⟨_, Heap.get?_push_size _ rfl, rfl, ?_⟩ q)
  rw [hsz] <;> rfl
end L2
end
section
set_option Elab.async false
set_option linter.all false
set_option maxRecDepth 100000
namespace L2
open PySem PySem.Spec PyProof.Rows
section
variable {X : Cx}
theorem note_same {e : Value} {a b : Env} (h : a.frame = b.frame) : noteFrame e a = noteFrame e b := by
  unfold noteFrame PySem.frameOf
  rw [h]
theorem blk_out {pins : List (Addr × Obj)} {σ : St} {H3 : Hp} {s3 : Shared} {scope : Scope} {ce : Env} {fp : List Addr} {pn : List (Addr × Obj)} {xe : Value → Shared → Prop} {use : Option (Value → Sem Unit)} {Qf : Value → Shared → Prop} {D : Value} {C0 : Addr} {EH : Hp → Prop}
    (hX : XOk X C0 EH) (hst : X.stack = X.env :: X.outer) (hfr : X.env.frame = some X.env.locals) (I3 : Inv X pins σ H3 s3)
    (f3 : ∀ b ∈ fp, (b ∈ X.ex ∨ X.s_0.heap.objs.size ≤ b) ∧ b ≠ X.env.locals ∧ (∀ x c, X.env.cells.lookup x = some c → c ≠ b) ∧ ∀ p ∈ X.pn ++ pins, p.1 ≠ b) (hpn : ∀ b ∈ fp, ∃ o, (b, o) ∈ pn)
    (cL : ce.locals = s3.heap.objs.size) (cF : ce.frame = X.env.frame) {pins' : List (Addr × Obj)} {σ' : St} {H' : Hp} {s' : Shared} {e : Addr} {tr : List Addr} (I' : Inv { X.blk s3 H3 scope ce fp with pn := pn, xe := xe } pins' σ' H' s')
    (x' : ExcX s'.heap e (.ref C0) tr) (fr : ∀ b ∈ e :: tr, s3.heap.get? b = none ∧ H' b = none ∧ ∀ p ∈ pn ++ pins', p.1 ≠ b) (q : EH H') :
    notedBy (model X.prog X.w) X.A ce (fun e s' => compPost (model X.prog X.w) X.A X.xe use Qf D s3.heap.objs.size (.error e) s') (.ref e) s' := by
  unfold notedBy
  rw [note_same cF]
  have fr0 : X.A.frames = some (X.env :: X.outer) := by rw [← hst]; exact I3.ok.frames
  have st0 : s'.heap.FunFrames X.base X.stack := I'.stack
  rw [hst] at st0
  refine noteX (base := X.base) (L := X.env.locals) fr0 st0 hfr x' fun h1 T1 k1 x1 z1 => ?_
  rw [← hst] at k1
  obtain ⟨m, hn, _⟩ := I'.loc
  have hn : s'.heap.Ns ce.locals m := hn
  rw [cL] at hn
  have hn1 : h1.Ns s3.heap.objs.size m := by
    obtain ⟨o, es, ep, ho, hd, r⟩ := hn
    obtain ⟨sl, e1⟩ := k1.any ho fun z => (by
      obtain ⟨vs, e1⟩ := excX_rec x' _ z o ho
      rw [hd] at e1
      cases e1)
    exact ⟨_, es, ep, e1, hd, r⟩
  refine ⟨m, hn1, fun h2 sb cenv _ => ?_⟩
  -- what is known of the objects
  have nfp : ∀ b, s'.heap.get? b = none → b ∉ fp := fun b z hb => by
    obtain ⟨o, ho⟩ := hpn b hb
    have := (I'.pin (b, o) (List.mem_append_left _ ho)).1
    rw [z] at this
    cases this
  have fT : s3.heap.get? T1 = none ∧ H' T1 = none := by
    rcases z1 with z1 | z1
    · exact ⟨un_none (ex := fp) I'.base z1 (nfp T1 z1), hok_none I'.hok z1⟩
    · exact ⟨(fr T1 (List.mem_cons_of_mem _ z1)).1, (fr T1 (List.mem_cons_of_mem _ z1)).2.1⟩
  have hC3 : s3.heap.get? s3.heap.objs.size = none := Heap.get?_none_of_le (Nat.le_refl _)
  have HC : H' s3.heap.objs.size = none := by
    have z : H' ce.locals = none := I'.free
    rw [cL] at z
    exact z
  have k2 : Kept [s3.heap.objs.size] [] h1 h2 := ⟨fun b o e1 n _ => (sb.2 b fun z => n (by simp [z])).trans e1, fun b o _ _ z => absurd z (by simp)⟩
  have x2 : Exc2 h2 e T1 (.ref C0) (rawInt X.env.locals) := by
    obtain ⟨oe, vs, oT, ts, a0, e1, e2, e3, e4, e5, e6, e7, e8⟩ := x1
    obtain ⟨oc, es, ep, hoc, hdc, _⟩ := hn1
    have ne : ∀ b o ws, h1.get? b = some o → o.data = .fields ws → b ≠ s3.heap.objs.size := fun b o ws h1' h2' z => by
      rw [z, hoc] at h1'
      cases h1'
      rw [hdc] at h2'
      cases h2'
    exact ⟨oe, vs, oT, ts, a0, (sb.2 _ (ne _ _ _ e1 e3)).trans e1, e2, e3, e4, e5, (sb.2 _ (ne _ _ _ e6 e7)).trans e6, e7, e8⟩
  have x2' := x2
  obtain ⟨oe, vs, oT, ts, a0, e1, e2, e3, e4, e5, e6, e7, e8⟩ := x2'
  unfold PySem.passOn
  refine wpAny_bind (wpAny_field (s := { s' with heap := h2 }) e1 e3 e4 ?_)
  rw [if_neg (show ¬ ((Value.ref T1 == Value.none) = true) from by simp)]
  refine wpAny_bind (flight (s := { s' with heap := h2 }) x2 fun h3 k3 x3 => wpAny_throw ?_)
  have eT : ∀ b ∈ [e, T1], s3.heap.get? b = none ∧ H' b = none := fun b hb => by
    have hb : b = e ∨ b = T1 := by simpa using hb
    rcases hb with rfl | rfl
    · exact ⟨(fr b (by simp)).1, (fr b (by simp)).2.1⟩
    · exact fT
  have u1 := Un.through (fs := frs X.stack) (ex := fp) I'.base k1 (fun b hb => (fr b hb).1) (fun b hb => .inl hb)
  have u2 := u1.through k2 (fun b hb => by have : b = s3.heap.objs.size := by simpa using hb
                                           rw [this]; exact hC3) (fun b hb => absurd hb (by simp))
  have u3 := u2.through k3 (fun b hb => by have : b = T1 := by simpa using hb
                                           rw [this]; exact fT.1) (fun b hb => absurd hb (by simp))
  have o1 := I'.hok.through k1 (fun b hb => (fr b hb).2.1) I'.stkFree
  have o2 := o1.through k2 (fun b hb => by have : b = s3.heap.objs.size := by simpa using hb
                                           rw [this]; exact HC) (fun b hb => absurd hb (by simp))
  have o3 := o2.through k3 (fun b hb => by have : b = T1 := by simpa using hb
                                           rw [this]; exact fT.2) (fun b hb => absurd hb (by simp))
  have I4 : Inv X pins σ H' { s' with heap := h3 } := I3.call' (s' := { s' with heap := h3 }) (ch := fp) I'.os u3 o3 I'.bare f3
  refine hX.go e H' _ ⟨pins, σ, [T1], I4, .inr ⟨T1, _, rfl, x3⟩, fun b hb => ?_⟩ q
  obtain ⟨g1, g2⟩ := eT b hb
  have np : ∀ p ∈ X.pn ++ pins, p.1 ≠ b := fun p hp z => by
    have := (I3.pin p hp).1
    rw [z, g1] at this
    cases this
  refine ⟨un_none I3.base g1 fun hb => ?_, g2, np⟩
  obtain ⟨o, ho⟩ := hX.ex b hb
  exact np _ (List.mem_append_left _ ho) rfl
theorem lc_coreX {C0 : Addr} {EH : Hp → Prop} (hX : XOk X C0 EH) (hst : X.stack = X.env :: X.outer) (hfr : X.env.frame = some X.env.locals) {pins : List (Addr × Obj)} {s : Shared} {σ : St} {H : Hp} {Q : VK} {elt tg iter : Expr} {ifs : List Expr} {scope : Scope} {own : List (Str × Nat)} {pos pos' : Pos} {wi : TI} {g : TG} {tt : TT} {te : TE} {use : Option (Value → Sem Unit)} {Qf : Value → Shared → Prop}
    (hc : X.calm = true) (hN : X.N.Nodup) (I : Inv X pins σ H s) (hi : PI X tg iter wi) (ok : BlkOk X.N X.env.scope scope own)
    (hg : ∀ (s : Shared) (H : Hp) (C : Addr) (cl : List (Str × Addr)) (fp : List Addr), PG (X.blk s H scope (compEnvC scope cl C X.env) fp) tg g) (ht : ∀ (s : Shared) (H : Hp) (C : Addr) (cl : List (Str × Addr)) (fp : List Addr), PTs (X.blk s H scope (compEnvC scope cl C X.env) fp) ifs tt)
    (he : ∀ (s : Shared) (H : Hp) (C : Addr) (cl : List (Str × Addr)) (fp : List Addr) (pn : List (Addr × Obj)) (xe : Value → Shared → Prop), XOk { X.blk s H scope (compEnvC scope cl C X.env) fp with pn := pn, xe := xe } C0 EH → PE { X.blk s H scope (compEnvC scope cl C X.env) fp with pn := pn, xe := xe } elt te) (hs : ∀ x, foldedSetIterable iter X.env x = pure x)
    (h : tLc wi g tt te (own.map (·.2)) σ H Q)
    (hRR : ∀ D C s' m H', Inv X pins σ H' s' → Q (.ref D) H' → s'.heap.Ns C m → FpOk X pins H' C → compPost (model X.prog X.w) X.A X.xe use Qf (.ref D) C (.ok .next) s') :
    wpAny (model X.prog X.w) X.A (comprehension (.ListComp elt [⟨tg, iter, ifs, 0⟩] scope pos) scope X.env pos' (newList []) false (eval iter X.env) use) Qf X.xe s := by
  have hfree : ∀ y ∈ scope.names, y.2 = .free → ∃ c, X.env.cells.lookup y.1 = some c := fun y hy e => by
    rcases ok.free y hy e with k | k
    · exact I.ok.has _ (.inl k)
    · exact I.ok.has _ (.inr k)
  refine wpAny_comprehension_free (use := use) rfl hs (closure_ok hfree) ok.kind (fun y hy e => by rw [ok.uniq y hy, e])
    (thn (hi pins s σ H _ I h) fun xv s1 hx => thn hx fun itv s2 h2 => ?_)
  obtain ⟨it, fp, tn, J, H2, e, I2, T, st2, f2, q⟩ := h2
  subst e
  refine wpAny_newObj_type (newEnv_comp ?_) (by show 0 ≤ sizeLine; decide)
  generalize hD : s2.heap.objs.size = D
  have hDn : H2 D = none := I2.hok.fresh (Nat.le_of_eq hD)
  obtain ⟨W, ⟨m0, w0⟩, turn⟩ := q D hDn
  -- the new list
  generalize hs3 : ({ s2 with heap := s2.heap.push { cls := .type "list", data := .seq ([] : List Value).toArray } } : Shared) = s3
  have I3 : Inv X pins σ (upd H2 D (.lst [])) s3 := by
    rw [← hs3]
    refine I2.laid (t' := s2.toks) (fun b o e => Heap.get?_push_of_some _ e) (Nat.le_of_eq hD) ⟨Nat.zero_le _, [], 0, .nil, ?_⟩
    rw [← hD]
    exact Heap.get?_push_size _ rfl
  have h3 : s3.heap = s2.heap.push { cls := .type "list", data := .seq ([] : List Value).toArray } := by rw [← hs3]
  have sz : ∀ b ∈ fp, b < s2.heap.objs.size := fun b hb => by
    obtain ⟨o, e, _⟩ := T.obj _ _ st2 b hb
    exact Heap.lt_size e
  have f3 : ∀ b ∈ fp, FpOk X pins (upd H2 D (.lst [])) b ∧ b < s3.heap.objs.size := fun b hb => by
    have hlt := sz b hb
    refine ⟨⟨?_, (f2 b hb).2⟩, by rw [h3, Heap.size_push]; exact Nat.lt_succ_of_lt hlt⟩
    rw [upd_ne (by rw [← hD]; exact Nat.ne_of_lt hlt)]
    exact (f2 b hb).1
  have st3 : tn 0 s3.heap := T.keep _ _ _ st2 fun b _ o e => by rw [h3]; exact Heap.get?_push_of_some _ e
  have I4 := block_start I3 ok hN f3
  have pg := hg s3 (upd H2 D (.lst [])) s3.heap.objs.size (cellsFrom (s3.heap.objs.size + 1) scope.names (cloFrom X.env.cells scope.names [])) fp
  have pt := ht s3 (upd H2 D (.lst [])) s3.heap.objs.size (cellsFrom (s3.heap.objs.size + 1) scope.names (cloFrom X.env.cells scope.names [])) fp
  have pe := he s3 (upd H2 D (.lst [])) s3.heap.objs.size (cellsFrom (s3.heap.objs.size + 1) scope.names (cloFrom X.env.cells scope.names [])) fp
  show codeAny _ _ (.compStart (.ListComp elt [⟨tg, iter, ifs, 0⟩] scope pos) 0 (.ref it) (.ref D) (compEnvC scope (cellsFrom (s3.heap.objs.size + 1) scope.names (cloFrom X.env.cells scope.names [])) s3.heap.objs.size X.env)) (compPost (model X.prog X.w) X.A X.xe use Qf (.ref D) s3.heap.objs.size) { s3 with heap := pushCells (s3.heap.push { cls := .type "dict", data := .dict #[] }) scope.names }
  have nfp : ∀ b ∈ fp, (upd H2 D (.lst [])) b = none := fun b hb => (f3 b hb).1.1
  generalize hce : compEnvC scope (cellsFrom (s3.heap.objs.size + 1) scope.names (cloFrom X.env.cells scope.names [])) s3.heap.objs.size X.env = ce at I4 pg pt pe ⊢
  have cL : ce.locals = s3.heap.objs.size := by subst hce; rfl
  generalize hH3 : upd H2 D (.lst []) = H3 at I3 I4 pg pt pe w0 nfp f3
  generalize hs4 : ({ s3 with heap := pushCells (s3.heap.push { cls := .type "dict", data := .dict #[] }) scope.names } : Shared) = s4 at I4 ⊢
  have st4 : tn 0 s4.heap := T.keep _ _ _ st3 fun b _ o e => by rw [← hs4]; exact pushCells_keeps _ _ _ _ (Heap.get?_push_of_some _ e)
  have stat : ∀ {σ' : St} {H' : Hp} {s' : Shared}, Inv (X.blk s3 H3 scope ce fp) [] σ' H' s' → (∀ b ∈ fp, H' b = none) → ∀ b ∈ fp, FpOk (X.blk s3 H3 scope ce fp) [] H' b := fun {σ' H' s'} I' hn b hb =>
    ⟨hn b hb, (I'.ok.exf b hb).1, I'.ok.exfs b hb, .inl hb, fun x c e => (I'.ok.exf b hb).2 x c e, fun p hp => absurd (show p ∈ ([] : List (Addr × Obj)) ++ [] from hp) (by simp)⟩
  have loop : codeAny (model X.prog X.w) X.A (.compLoop (.ListComp elt [⟨tg, iter, ifs, 0⟩] scope pos) 0 (.ref it) (.ref D) ce) (compPost (model X.prog X.w) X.A X.xe use Qf (.ref D) s3.heap.objs.size) s4 := by
    refine compLoop_any (fun n s' => ∃ i H', Inv (X.blk s3 H3 scope ce fp) [] (wipe σ (own.map (·.2))) H' s' ∧ tn i s'.heap ∧ (∀ b ∈ fp, H' b = none) ∧ W i n H') ?_ m0 ⟨0, H3, I4, st4, nfp, w0⟩
    rintro n s5 ⟨i, H5, I5, st5, n5, w5⟩
    rcases turn i n H5 w5 with ⟨stop, qq⟩ | ⟨go, Nx, hNx, step⟩
    · have td := T.done (X.blk s3 H3 scope ce fp) rfl rfl rfl hc i [] s5 _ H5 (fun _ _ => False) I5 (stat I5 n5) st5 stop
      refine thnF td fun r s6 ⟨hr, I6⟩ => ?_
      subst hr
      -- back in the def's context
      have I7 : Inv X pins σ H5 s6 := I3.call' (ch := fp) I6.os I6.base I6.hok I6.bare fun b hb => ⟨(f3 b hb).1.2.2.2.1, (f3 b hb).1.2.1, (f3 b hb).1.2.2.2.2.1, (f3 b hb).1.2.2.2.2.2⟩
      have nC : H5 s3.heap.objs.size = none := by
        have z : H5 ce.locals = none := I6.free
        rw [cL] at z
        exact z
      obtain ⟨m, hn, _⟩ := I6.loc
      have hn : s6.heap.Ns ce.locals m := hn
      rw [cL] at hn
      exact hRR D s3.heap.objs.size s6 m H5 I7 qq hn (I3.fpOk (Nat.le_refl _) nC)
    · have ti := T.item (X.blk s3 H3 scope ce fp) rfl rfl rfl hc i [] s5 _ H5 (fun _ _ => False) I5 (stat I5 n5) st5 go
      refine thnF ti fun r s6 ⟨u, hr, h6⟩ => ?_
      subst hr
      refine thnF h6 fun _ s7 ⟨x, H7, I7, r7, y7, st7, n7⟩ => ?_
      have I7' := I7.pinned (stat I7 n7) (T.obj _ _ st7)
      refine thnF (pg _ s7 _ H7 x u _ I7' r7 (step x H7 y7)) fun _ s8 ⟨σ8, H8, I8, hw8, q8⟩ => ?_
      refine thnF (pt _ s8 σ8 H8 _ I8 q8) fun b s9 ⟨H9, I9, q9⟩ => ?_
      -- the turn's end
      have fin : ∀ {s' : Shared} {H' : Hp}, Inv (X.blk s3 H3 scope ce fp) ([] ++ pinsAt fp s7.heap) σ8 H' s' → Nx H' → ∃ m, m < n ∧ ∃ i H', Inv (X.blk s3 H3 scope ce fp) [] (wipe σ (own.map (·.2))) H' s' ∧ tn i s'.heap ∧ (∀ b ∈ fp, H' b = none) ∧ W i m H' := fun {s' H'} I' nx => by
        obtain ⟨m', hm, w'⟩ := hNx H' nx
        have pin' : ∀ b ∈ fp, ∀ o, s7.heap.get? b = some o → s'.heap.get? b = some o ∧ H' b = none := fun b hb o e =>
          let z := I'.pin (b, o) (List.mem_append_right _ (List.mem_append_right _ (mem_pinsAt hb e)))
          ⟨z.1, z.2.1⟩
        have hl : (wipe σ (own.map (·.2))).length = σ8.length := by rw [← hw8, wipe_length]
        refine ⟨m', hm, i + 1, H', (I'.unpinned (pins := [])).weak hl (fun j v e => ?_), T.keep _ _ _ st7 fun b hb o e => (pin' b hb o e).1, fun b hb => ?_, w'⟩
        · rw [← hw8] at e
          exact (wipe_some e).1
        · obtain ⟨o, e, _⟩ := T.obj _ _ st7 b hb
          exact (pin' b hb o e).2
      cases b with
      | false =>
        simp only [Bool.false_eq_true, if_false] at q9 ⊢
        exact fin I9 q9
      | true =>
        simp only [if_true] at q9 ⊢
        have xk : XOk { X.blk s3 H3 scope ce fp with pn := pinsAt fp s7.heap, xe := notedBy (model X.prog X.w) X.A ce (fun e s' => compPost (model X.prog X.w) X.A X.xe use Qf (.ref D) s3.heap.objs.size (.error e) s') } C0 EH := by
          refine ⟨fun b hb => ?_, fun e H' s' ⟨pins', σ', tr, I', x', fr⟩ qe => ?_⟩
          · obtain ⟨o, eo, _⟩ := T.obj _ _ st7 b hb
            exact ⟨o, mem_pinsAt hb eo⟩
          · exact blk_out hX hst hfr I3 (fun b hb => ⟨(f3 b hb).1.2.2.2.1, (f3 b hb).1.2.1, (f3 b hb).1.2.2.2.2.1, (f3 b hb).1.2.2.2.2.2⟩) (fun b hb => let ⟨o, eo, _⟩ := T.obj _ _ st7 b hb; ⟨o, mem_pinsAt hb eo⟩) cL (by subst hce; rfl) I' x' fr qe
        have I9' := I9.turn (A := X.A) (c := X.calm) (E := notedBy (model X.prog X.w) X.A ce (fun e s' => compPost (model X.prog X.w) X.A X.xe use Qf (.ref D) s3.heap.objs.size (.error e) s')) (pn := pinsAt fp s7.heap) (pins' := []) rfl I9.ok.hd (fun p hp => by simpa using hp)
        refine thn (pe _ _ xk [] s9 σ8 H9 _ I9' q9) fun z s10 ⟨yv, H10, I10', r10, acc, hD10, hz10, nx⟩ => ?_
        have I10 : Inv (X.blk s3 H3 scope ce fp) ([] ++ pinsAt fp s7.heap) σ8 H10 s10 := I10'.turn (A := X.A) (c := X.calm) (E := fun _ _ => False) (pn := []) (pins' := [] ++ pinsAt fp s7.heap) rfl I10'.ok.hd (fun p hp => by simpa using hp)
        exact app_ok (X := X.blk s3 H3 scope ce fp) I10 hD10 hz10 r10 fun s11 I11 => fin I11 nx
  exact codeAny_compStart_list loop (T.self X.A 0 _ _ _ st4 loop)
theorem ps_setLcX {C0 : Addr} {EH : Hp → Prop} (hX : XOk X C0 EH) (hst : X.stack = X.env :: X.outer) (hfr : X.env.frame = some X.env.locals) {i : Nat} {y : Str} {py : Pos} {elt tg iter : Expr} {ifs : List Expr} {scope : Scope} {own : List (Str × Nat)} {pos spos : Pos} {wi : TI} {g : TG} {tt : TT} {te : TE} (hc : X.calm = true) (hN : X.N.Nodup) (hy : X.N[i]? = some y) (hyl : X.env.scope.names.lookup y = some .local)
    (hsw : swapsWith (.ListComp elt [⟨tg, iter, ifs, 0⟩] scope pos) (some (.Name y py)) spos.line X.env = pure true) (hi : PI X tg iter wi) (ok : BlkOk X.N X.env.scope scope own)
    (hg : ∀ (s : Shared) (H : Hp) (C : Addr) (cl : List (Str × Addr)) (fp : List Addr), PG (X.blk s H scope (compEnvC scope cl C X.env) fp) tg g) (ht : ∀ (s : Shared) (H : Hp) (C : Addr) (cl : List (Str × Addr)) (fp : List Addr), PTs (X.blk s H scope (compEnvC scope cl C X.env) fp) ifs tt)
    (he : ∀ (s : Shared) (H : Hp) (C : Addr) (cl : List (Str × Addr)) (fp : List Addr) (pn : List (Addr × Obj)) (xe : Value → Shared → Prop), XOk { X.blk s H scope (compEnvC scope cl C X.env) fp with pn := pn, xe := xe } C0 EH → PE { X.blk s H scope (compEnvC scope cl C X.env) fp with pn := pn, xe := xe } elt te) (hs : ∀ x, foldedSetIterable iter X.env x = pure x := by intro _; rfl) :
    PS X (.Assign [.Name y py] (.ListComp elt [⟨tg, iter, ifs, 0⟩] scope pos) spos) (tAsg (tLc wi g tt te (own.map (·.2))) (gName i)) := by
  intro pins s σ H D I h
  rw [exec_Assign_Name_used _ _ _ _ hsw]
  refine wpAny_bind (wpAny_standAt (wpAny_bind ?_))
  show wpAny _ X.A (do let _ ← comprehension (.ListComp elt [⟨tg, iter, ifs, 0⟩] scope pos) scope X.env (firstIterPos [⟨tg, iter, ifs, 0⟩] pos) (newList []) false (eval iter X.env) (some (assign (.Name y py) X.env))) _ _ s
  have h : tLc wi g tt te (own.map (·.2)) σ H (fun x H1 => gName i x σ H1 D.nx) := h
  refine wpAny_bind (thn (lc_coreX (Qf := fun _ s' => SP X pins D .next s') hX hst hfr hc hN I hi ok hg ht he hs h fun L C s' m H' I' q hn f => ?_) fun _ s' hq => wpAny_pure (wpAny_pure hq))
  show wpAny _ _ (assign (.Name y py) X.env (.ref L)) _ _ _
  refine wpAny_assign_Name (store_ok2 (v := V.ref L) I' hN hy (.inl hyl) rfl (fun s2 I2 ⟨a, sb, ha⟩ => ?_) (.inr hyl))
  obtain ⟨f0, f1, f2, f3, f4, f5⟩ := f
  have haC : C ≠ a := by
    rcases ha with z | z
    · rw [z]; exact f1
    · exact fun e => f4 y a z e.symm
  refine ⟨m, hn.sameBut sb haC, fun h3 sb3 => ?_⟩
  exact ⟨_, H', I2.turned (t' := s2.toks) (fun b o hb e => (sb3.2 b hb).trans e) f0 f1 f3 f4 f5, q⟩
end
end L2
end
section
set_option Elab.async false
set_option linter.all false
set_option maxRecDepth 100000
namespace L2
open PySem PySem.Spec PyProof.Rows
section
variable {X : Cx}
def rCount (K : PySem.W.Frag) : V → List V → Hp → VK → Prop := fun x xs H Q => ∃ (a : Addr) (ys : List V) (y : V), x = V.ref a ∧ xs = [y] ∧ SqL K H a ys ∧ flatV y = true ∧ ys.all flatV = true ∧ Q (.int ((ys.countP fun z => eqV z y : Nat) : Int)) H
theorem countP_eqU {x : V} : ∀ {xs : List V} {us : List Value}, Vals xs us → xs.all flatV = true → us.countP (eqU x) = xs.countP fun y => eqV y x
  | _, _, .nil, _ => rfl
  | y :: xs, u :: us, .cons r t, f => by
    rw [List.all_cons, Bool.and_eq_true] at f
    rw [List.countP_cons, List.countP_cons, eqU_of r f.1, countP_eqU t f.2]
theorem mt_lcount : MtR X "list.count" (rCount X.K) := by
  intro pins s σ H x xs v us Q I rx rxs h
  obtain ⟨a, ys, y, rfl, rfl, hs, fy, fys, q⟩ := h
  cases rx
  cases rxs with
  | cons ry rt =>
    rename_i uy ut
    cases rt
    obtain ⟨its, rv, ⟨⟨cls, dd, data, sl⟩, n, ho, hc, hdn, hd⟩, hlen⟩ := I.list hs
    simp only at hc hd
    subst hc hd
    refine call_meets PySem.F.slot_list_count ⟨_, ho, rfl⟩ PySem.F.entry_list_count (PySem.F.args_list_count_2 _ _) (SeqAt.list_countAt a its.toArray n dd sl uy (eqU y)) ⟨ho, fun u' hu' => mem_eqAt ry fy rv fys u' (by simpa using hu'), ?_⟩
    rw [← countP_eqU rv fys] at q
    exact ⟨.int _, H, I.tok _, ⟨s.toks, rfl⟩, q⟩
def rInD (K : PySem.W.Frag) : R2 := fun x y H Q => ∃ d es, Dp K H x d ∧ Dp K H y (.tuple es) ∧ SeqAt.shaped d = true ∧ SeqAt.shaped (.tuple es) = true ∧ Q (.bl (es.any fun e => PyData.eqv e d)) H
theorem op_inD (hu : X.A.units + 65 < cLine) : OpR X (compareOp .In) (rInD X.K) := by
  intro pins s σ H x y v u Q I rx ry h
  obtain ⟨d, es, hd, he, sd, se, q⟩ := h
  obtain ⟨as, r1⟩ := Dp.reads I d x v hd rx
  obtain ⟨bs, r2⟩ := Dp.reads I _ y u he ry
  cases he with
  | tup a b =>
    cases ry
    exact SeqAt.in_tuple_reads r2 r1 (SeqAt.canLay_of_shaped se) (SeqAt.canLay_of_shaped sd) (PyProof.Rows.room_in_shaped sd hu) ⟨.bl _, H, I, rfl, q⟩
end
structure Own (P : Program) (w : World) (K : PySem.W.Frag) (mg : Str → Option Value) (base : Heap) (CX : CXT) (k : Nat) (x : Str) (ps : List Str) (sp : Sp) : Prop where
  ex : ∃ (f : Addr) (fd : FuncData), mg x = some (.ref f) ∧ PySem.W.keepIn K (.ref f) = true ∧ Binds K fd ps [] ∧ FnOk P w K mg base CX k f fd ps sp
section
variable {X : Cx} {CX : CXT} {k : Nat} {ps : List Str} {sp : Sp} {E : XK} {x : Str} {p pos : Pos} {e : Expr} {es : List Expr} {t : TA} {C : Addr}
theorem pe_own (O : Own X.prog X.w X.K X.mg X.base CX k x ps sp) (hr : Room k X.A) (hx : Passes CX X E) (ha : PA X (e :: es) t) (hg : Gl X x := by rfl) (hdb : (x == ("__debug__" : Str)) = false := by decide)
    (he : starEach (e :: es) X.env = (false, eval e X.env) :: starEach es X.env := by rfl) (hpl : (backTo pos (starEach es X.env)).any (·.1) = false := by rfl) : PE X (.Call (.Name x p) (e :: es) [] pos) (tCall sp [] E t) := by
  obtain ⟨f, fd, h1, h2, h3, h4⟩ := O.ex
  exact pe_call h4 hr hg h1 h2 h3 .nil hx ha hdb he hpl
structure OwnC (P : Program) (w : World) (K : PySem.W.Frag) (mg : Str → Option Value) (base : Heap) (CX : CXT) (k : Nat) (C : Addr) (x : Str) (ps : List Str) (sp : Sp) : Prop where
  ex : ∃ (f : Addr) (fd : FuncData), mg x = some (.ref C) ∧ Mk K C f ∧ Binds K fd ps [] ∧ FnOk P w K mg base CX k f fd ps sp
theorem pe_new (O : OwnC X.prog X.w X.K X.mg X.base CX k C x ps sp) (hr : Room (k + 1) X.A) (hx : Passes CX X E) (ha : PA X (e :: es) t) (hg : Gl X x := by rfl) (hdb : (x == ("__debug__" : Str)) = false := by decide)
    (he : starEach (e :: es) X.env = (false, eval e X.env) :: starEach es X.env := by rfl) (hpl : (backTo pos (starEach es X.env)).any (·.1) = false := by rfl) : PE X (.Call (.Name x p) (e :: es) [] pos) (tMake C sp [] E t) := by
  obtain ⟨f, fd, h1, h2, h3, h4⟩ := O.ex
  exact pe_make h2 h4 hr hg h1 h3 .nil hx ha hdb he hpl
end
end L2
end
section
set_option Elab.async false
set_option linter.all false
set_option maxRecDepth 100000
namespace L2
open PySem PySem.Spec PyProof.Rows
structure Plain (J : It) (xs : List V) : Prop where
  go : ∀ i H, i < xs.length → J.go i H
  yld : ∀ i H x H', J.yld i H x H' → H' = H ∧ (i < xs.length → xs[i]? = some x)
  stop : ∀ i H, xs.length ≤ i → J.stop i H
theorem plain_str (z : Str) : Plain (Its z) (z.cps.toList.map fun c => V.str ⟨#[c]⟩) := by
  refine ⟨fun i H h => ?_, fun i H x H' h => ?_, fun i H h => ?_⟩
  · rw [List.length_map, Array.length_toList] at h; exact h
  · obtain ⟨e, c, h1, h2⟩ := h
    refine ⟨e, fun _ => ?_⟩
    rw [List.getElem?_map, Array.getElem?_toList, h1, h2]
    rfl
  · rw [List.length_map, Array.length_toList] at h; exact h
theorem plain_keys (kvs : List (Key × V)) : Plain (Itm kvs) (kvs.map fun p => kV p.1) := by
  refine ⟨fun i H h => ?_, fun i H x H' h => ?_, fun i H h => ?_⟩
  · rw [List.length_map] at h; exact h
  · obtain ⟨e, k, v, h1, h2⟩ := h
    refine ⟨e, fun _ => ?_⟩
    rw [List.getElem?_map, h1, h2]
    rfl
  · rw [List.length_map] at h; exact h
theorem lc_plain {J : It} {xs : List V} (hJ : Plain J xs) {g : TG} {tt : TT} {te : TE} {vs : List Nat} {σ : St} {H1 : Hp} {D : Addr} {Qd : Hp → Prop} (Pv : Nat → Hp → Prop) (h0 : Pv 0 (upd H1 D (.lst [])))
    (hs : ∀ i x H, xs[i]? = some x → Pv i H → g x (wipe σ vs) H fun σ2 H2 => wipe σ2 vs = wipe σ vs ∧ tt σ2 H2 fun b H3 =>
      if b = true then te σ2 H3 fun y H4 => ∃ acc, H4 D = some (.lst acc) ∧ acc.length < sizeLine ∧ Pv (i + 1) (upd H4 D (.lst (acc ++ [y]))) else Pv (i + 1) H3) (hd : ∀ H, Pv xs.length H → Qd H) :
    ∃ W : Nat → Nat → Hp → Prop, (∃ m, W 0 m (upd H1 D (.lst []))) ∧ ∀ i m H, W i m H →
      (J.stop i H ∧ Qd H) ∨ (J.go i H ∧ ∃ Nx : Hp → Prop, (∀ H', Nx H' → ∃ m', m' < m ∧ W (i + 1) m' H') ∧ ∀ x H', J.yld i H x H' → g x (wipe σ vs) H' fun σ2 H2 => wipe σ2 vs = wipe σ vs ∧ tt σ2 H2 fun b H3 =>
        if b = true then te σ2 H3 fun y H4 => ∃ acc, H4 D = some (.lst acc) ∧ acc.length < sizeLine ∧ Nx (upd H4 D (.lst (acc ++ [y]))) else Nx H3) := by
  refine ⟨fun i m H => m = xs.length - i ∧ i ≤ xs.length ∧ Pv i H, ⟨xs.length, by simp, Nat.zero_le _, h0⟩, ?_⟩
  rintro i m H ⟨rfl, hi, p⟩
  by_cases hlt : i < xs.length
  · refine .inr ⟨hJ.go i H hlt, Pv (i + 1), fun H' p' => ⟨xs.length - (i + 1), by omega, rfl, hlt, p'⟩, fun x H' y => ?_⟩
    obtain ⟨e, y2⟩ := hJ.yld i H x H' y
    have y3 := y2 hlt
    rw [e]
    exact hs i x _ y3 p
  · have e : i = xs.length := by omega
    subst e
    exact .inl ⟨hJ.stop _ H (Nat.le_refl _), hd H p⟩
theorem for_plain {J : It} {xs : List V} (hJ : Plain J xs) {g : TG} {tb : TS} {D : Ends} {σ : St} {H : Hp} (Pv : Nat → St → Hp → Prop) (h0 : Pv 0 σ H)
    (hs : ∀ i x σ H, xs[i]? = some x → Pv i σ H → g x σ H fun σ2 H2 => tb { D with nx := Pv (i + 1), ct := Pv (i + 1), bk := D.nx } σ2 H2) (hd : ∀ σ H, Pv xs.length σ H → D.nx σ H) :
    ∃ W : Nat → Nat → St → Hp → Prop, (∃ m, W 0 m σ H) ∧ ∀ i m σ H, W i m σ H →
      (J.stop i H ∧ D.nx σ H) ∨ (J.go i H ∧ ∃ N : St → Hp → Prop, (∀ σ' H', N σ' H' → ∃ m', m' < m ∧ W (i + 1) m' σ' H') ∧ ∀ x H', J.yld i H x H' → g x σ H' fun σ2 H2 => tb { D with nx := N, ct := N, bk := D.nx } σ2 H2) := by
  refine ⟨fun i m σ H => m = xs.length - i ∧ i ≤ xs.length ∧ Pv i σ H, ⟨xs.length, by simp, Nat.zero_le _, h0⟩, ?_⟩
  rintro i m σ H ⟨rfl, hi, p⟩
  by_cases hlt : i < xs.length
  · refine .inr ⟨hJ.go i H hlt, Pv (i + 1), fun σ' H' p' => ⟨xs.length - (i + 1), by omega, rfl, hlt, p'⟩, fun x H' y => ?_⟩
    obtain ⟨e, y2⟩ := hJ.yld i H x H' y
    have y3 := y2 hlt
    rw [e]
    exact hs i x σ _ y3 p
  · have e : i = xs.length := by omega
    subst e
    exact .inl ⟨hJ.stop _ H (Nat.le_refl _), hd σ H p⟩
theorem can_ints : ∀ l : List Int, PyData.canLayAll0 (l.map PyData.int) = true
  | [] => rfl
  | _ :: r => by
    show (true && PyData.canLayAll0 (r.map PyData.int)) = true
    rw [can_ints r]
    rfl
theorem dep_ints : ∀ l : List Int, PyData.depthAll (l.map PyData.int) = 0
  | [] => rfl
  | _ :: r => by
    show max 0 (PyData.depthAll (r.map PyData.int)) = 0
    rw [dep_ints r]
    rfl
theorem shaped_ints (l : List Int) : SeqAt.shaped (.list (l.map PyData.int)) = true := by
  unfold SeqAt.shaped
  show (PyData.canLayAll0 _ && decide (PyData.depthAll _ + 1 ≤ 64)) = true
  rw [can_ints, dep_ints]
  rfl
theorem eqv_intsAll : ∀ a b : List Int, PyData.eqvAll (a.map PyData.int) (b.map PyData.int) = decide (a = b)
  | [], [] => rfl
  | [], _ :: _ => rfl
  | _ :: _, [] => rfl
  | x :: a, y :: b => by
    show ((x == y) && PyData.eqvAll (a.map PyData.int) (b.map PyData.int)) = _
    rw [eqv_intsAll a b]
    by_cases h : x = y
    · subst h
      simp
    · simp [h]
theorem eqv_ints (a b : List Int) : PyData.eqv (.list (a.map PyData.int)) (.list (b.map PyData.int)) = decide (a = b) := eqv_intsAll a b
theorem dp_intsAll {K : PySem.W.Frag} {H : Hp} : ∀ l : List Int, DpAll K H (l.map V.int) (l.map PyData.int)
  | [] => .nil
  | x :: r => .cons (.int x) (dp_intsAll r)
theorem dp_ints {K : PySem.W.Frag} {H : Hp} {a : Addr} {l : List Int} (h : SqL K H a (l.map V.int)) : Dp K H (.ref a) (.list (l.map PyData.int)) := .lst h (dp_intsAll l)
theorem Same.upd {H : Hp} {p : Addr} {o : HO} (h : H p = none) : Same H (upd H p o) := fun b u e => by
  rw [upd_ne (ne_of_none e h)]
  exact e
end L2
end
section
set_option Elab.async false
set_option linter.all false
set_option maxRecDepth 100000
set_option maxHeartbeats 1000000
namespace L2
open PySem PySem.Spec PyProof.Rows
structure DefIn (K : PySem.W.Frag) (mg : Str → Option Value) (x : Str) (st : Stmt) (ps : List Str) : Prop where
  ex : ∃ (f : Addr) (fd : FuncData), mg x = some (.ref f) ∧ Fun K x x st f fd ∧ Binds K fd ps [] ∧ ∀ (s : Shared) (us : List Value), us.length = ps.length → BindsTo s fd ⟨us, []⟩ (ps.zip us)
section
variable {K : PySem.W.Frag} {h : Heap} {mg : Str → Option Value}
theorem defIn_mk {x : Str} {st : Stmt} {ps : List Str} {f : Addr} {oc : Value} {od an : Option Addr} {osl : Array (Option Value)} {kV doc pm cdv ct : Value} (X : K.In h) (G : h.Ns mainGlobals mg)
    (a : PySem.W.nsIn K mainGlobals x = some (some (.ref f))) (l : K.lookup f = some ⟨oc, od, .func (PySem.W.fnOf x x (defArgs st) (defBody st) (defScope st) .none kV doc pm an cdv ct), osl⟩)
    (c : PySem.W.codeIn K cdv x = true) (k : PySem.W.keepIn K (.ref f) = true)
    (b : ∀ (kV doc pm : Value) (an : Option Addr) (cdv ct : Value) (us : List Value), us.length = ps.length → bindArgs (PySem.W.fnOf x x (defArgs st) (defBody st) (defScope st) .none kV doc pm an cdv ct) ⟨us, []⟩ = pure (ps.zip us)) : DefIn K mg x st ps :=
  ⟨f, _, PySem.W.mg_of X G a, fun_mk l c k, (fun_mk (st := st) l c k).binds b, fun _ us hu => .of_eq (b kV doc pm an cdv ct us hu)⟩
theorem DefIn.own {P : Program} {w : World} {base : Heap} {CX : CXT} {k : Nat} {x : Str} {st : Stmt} {ps : List Str} {sp : Sp} (D : DefIn K mg x st ps) (ok : ∀ (f : Addr) (fd : FuncData), Fun K x x st f fd → FnOk P w K mg base CX k f fd ps sp) : Own P w K mg base CX k x ps sp := by
  obtain ⟨f, fd, h1, h2, h3, _⟩ := D.ex
  exact ⟨f, fd, h1, h2.kp, h3, ok f fd h2⟩
structure ClsIn (K : PySem.W.Frag) (mg : Str → Option Value) (x q : Str) (st : Stmt) (ps : List Str) (C : Addr) : Prop where
  mgC : mg x = some (.ref C)
  cl : Cls K C
  ex : ∃ (f : Addr) (fd : FuncData), Mk K C f ∧ Fun K "__init__" q st f fd ∧ Binds K fd ps []
theorem clsIn_mk {x q : Str} {st : Stmt} {ps : List Str} {C f : Addr} {oc : Value} {od an : Option Addr} {osl : Array (Option Value)} {kV doc pm cdv ct : Value} (X : K.In h) (G : h.Ns mainGlobals mg)
    (a : PySem.W.nsIn K mainGlobals x = some (some (.ref C))) (a1 : PySem.W.findIn K (.ref C) "__init__" = some (some (.ref f))) (i1 : PySem.W.isFn K (.ref f) = true)
    (l : K.lookup f = some ⟨oc, od, .func (PySem.W.fnOf "__init__" q (defArgs st) (defBody st) (defScope st) .none kV doc pm an cdv ct), osl⟩)
    (c : PySem.W.codeIn K cdv q = true) (k : PySem.W.keepIn K (.ref f) = true)
    (pg : PySem.W.plainGet K C Str.empty = true) (hd : PySem.W.hasDictIn K C = true) (po : PySem.W.plainOver K C = true) (sa : PySem.W.findIn K (.ref C) "__setattr__" = some (some (.builtin "object.__setattr__"))) (mk : PySem.W.makesIn K C = true) (kc : PySem.W.keepIn K (.ref C) = true)
    (b : ∀ (kV doc pm : Value) (an : Option Addr) (cdv ct : Value) (us : List Value), us.length = ps.length → bindArgs (PySem.W.fnOf "__init__" q (defArgs st) (defBody st) (defScope st) .none kV doc pm an cdv ct) ⟨us, []⟩ = pure (ps.zip us)) : ClsIn K mg x q st ps C :=
  ⟨PySem.W.mg_of X G a, ⟨pg, hd, po, sa⟩, f, _, ⟨mk, a1, i1, kc⟩, fun_mk l c k, (fun_mk (st := st) l c k).binds b⟩
theorem ClsIn.own {P : Program} {w : World} {base : Heap} {CX : CXT} {k : Nat} {x q : Str} {st : Stmt} {ps : List Str} {sp : Sp} {C : Addr} (D : ClsIn K mg x q st ps C) (ok : ∀ (f : Addr) (fd : FuncData), Fun K "__init__" q st f fd → FnOk P w K mg base CX k f fd ps sp) : OwnC P w K mg base CX k C x ps sp := by
  obtain ⟨f, fd, h2, h3, h4⟩ := D.ex
  exact ⟨f, fd, D.mgC, h2, h4, ok f fd h3⟩
theorem gi_mk {x : Str} {n : Int} {t : Tok} (X : K.In h) (G : h.Ns mainGlobals mg) (a : PySem.W.nsIn K mainGlobals x = some (some (.int n t))) : GI mg x n := ⟨t, PySem.W.mg_of X G a⟩
theorem gs_mk {x z : Str} {t : Tok} (X : K.In h) (G : h.Ns mainGlobals mg) (a : PySem.W.nsIn K mainGlobals x = some (some (.str z t))) : GS mg x z := ⟨t, PySem.W.mg_of X G a⟩
theorem tup_mk {x : Str} {c : Addr} {od : Option Addr} {its : Array Value} {n : Nat} {osl : Array (Option Value)} {xs : List V} (X : K.In h) (G : h.Ns mainGlobals mg) (a : PySem.W.nsIn K mainGlobals x = some (some (.ref c)))
    (l : K.lookup c = some ⟨.type "tuple", od, .seq its n, osl⟩) (z : its.size ≤ sizeLine) (v : Vals xs its.toList) : ∃ a, mg x = some (.ref a) ∧ ∀ H, SqT K H a xs :=
  ⟨c, PySem.W.mg_of X G a, fun _ => .inr ⟨_, its, n, l, rfl, rfl, z, v⟩⟩
abbrev DefInX (X : K.In h) (mg : Str → Option Value) (x : Str) (st : Stmt) (ps : List Str) : Prop := DefIn K mg x st ps
abbrev ClsInX (X : K.In h) (mg : Str → Option Value) (x q : Str) (st : Stmt) (ps : List Str) (C : Addr) : Prop := ClsIn K mg x q st ps C
abbrev NoAttrX (X : K.In h) (C : Addr) (f : Str) : Prop := NoAttr K C f
abbrev TupX (X : K.In h) (mg : Str → Option Value) (x : Str) (xs : List V) : Prop := ∃ a, mg x = some (.ref a) ∧ ∀ H, SqT K H a xs
theorem nm_mk {x : Str} (X : K.In h) (G : h.Ns mainGlobals mg) (a : PySem.W.nsIn K mainGlobals x = some none) : mg x = none := PySem.W.mg_none_of X G a
end
end L2
end
section
set_option Elab.async false
set_option linter.all false
set_option maxRecDepth 100000
set_option maxHeartbeats 1000000
namespace L2
open PySem PySem.Spec PyProof.Rows
theorem for_enum {K : PySem.W.Frag} {a : Addr} {xs : List V} {g : TG} {tb : TS} {D : Ends} {σ : St} {H : Hp} (Pv : Nat → St → Hp → Prop) (h0 : Pv 0 σ H) (hl : ∀ i σ H, i ≤ xs.length → Pv i σ H → SqL K H a xs)
    (hs : ∀ i x σ H T, xs[i]? = some x → Pv i σ H → H T = none → g (.ref T) σ (upd H T (.tup [.int (i : Nat), x])) fun σ2 H2 => tb { D with nx := Pv (i + 1), ct := Pv (i + 1), bk := D.nx } σ2 H2)
    (hd : ∀ σ H, Pv xs.length σ H → D.nx σ H) :
    ∃ W : Nat → Nat → St → Hp → Prop, (∃ m, W 0 m σ H) ∧ ∀ i m σ H, W i m σ H →
      ((Ite K a).stop i H ∧ D.nx σ H) ∨ ((Ite K a).go i H ∧ ∃ N : St → Hp → Prop, (∀ σ' H', N σ' H' → ∃ m', m' < m ∧ W (i + 1) m' σ' H') ∧ ∀ x H', (Ite K a).yld i H x H' → g x σ H' fun σ2 H2 => tb { D with nx := N, ct := N, bk := D.nx } σ2 H2) := by
  refine ⟨fun i m σ H => i + m = xs.length ∧ Pv i σ H, ⟨xs.length, Nat.zero_add _, h0⟩, ?_⟩
  rintro i m σ H ⟨e, p⟩
  have q := hl i σ H (by omega) p
  cases m with
  | zero =>
    obtain rfl : i = xs.length := by omega
    exact .inl ⟨⟨xs, q, Nat.le_refl _⟩, hd σ H p⟩
  | succ m =>
    have hlt : i < xs.length := by omega
    refine .inr ⟨⟨xs, xs[i], q, List.getElem?_eq_getElem hlt⟩, Pv (i + 1), fun σ' H' p' => ⟨m, Nat.lt_succ_self m, by omega, p'⟩, ?_⟩
    rintro v H' ⟨T, x, rfl, hT, rfl, hx⟩
    exact hs i x σ H T (hx xs q) p hT
inductive A2 {α β : Type} (R : α → β → Prop) : List α → List β → Prop
  | nil : A2 R [] []
  | cons {x : α} {y : β} {xs : List α} {ys : List β} : R x y → A2 R xs ys → A2 R (x :: xs) (y :: ys)
theorem A2.imp {α β : Type} {R S : α → β → Prop} (f : ∀ x y, R x y → S x y) : ∀ {xs : List α} {ys : List β}, A2 R xs ys → A2 S xs ys
  | _, _, .nil => .nil
  | _, _, .cons h t => .cons (f _ _ h) (A2.imp f t)
theorem A2.snoc {α β : Type} {R : α → β → Prop} {x : α} {y : β} (h : R x y) : ∀ {xs : List α} {ys : List β}, A2 R xs ys → A2 R (xs ++ [x]) (ys ++ [y])
  | _, _, .nil => .cons h .nil
  | _, _, .cons a t => .cons a (A2.snoc h t)
theorem A2.length {α β : Type} {R : α → β → Prop} : ∀ {xs : List α} {ys : List β}, A2 R xs ys → xs.length = ys.length
  | _, _, .nil => rfl
  | _, _, .cons _ t => by rw [List.length_cons, List.length_cons, A2.length t]
theorem A2.get {α β : Type} {R : α → β → Prop} : ∀ {xs : List α} {ys : List β} {i : Nat} {x : α}, A2 R xs ys → xs[i]? = some x → ∃ y, ys[i]? = some y ∧ R x y
  | _, _, i, _, .nil, h => by simp at h
  | _, _, 0, _, .cons a _, h => ⟨_, rfl, (Option.some.inj h) ▸ a⟩
  | _, _, i + 1, _, .cons _ t, h => A2.get (i := i) t h
theorem Same.off {H H' : Hp} {p : Addr} {o : HO} (s : Same H H') (h : H p = none) : Same H (L2.upd H' p o) := fun b x e => by
  rw [upd_ne (ne_of_none e h)]
  exact s b x e
theorem Same.ins {H H' : Hp} {x dx C : Addr} {fs : List (Str × V)} (s : Same H H') (hx : H' x = none) (hd : H' dx = none) : Same H (L2.upd (L2.upd (L2.upd H' dx (.own x)) x (.ins C dx [])) x (.ins C dx fs)) := fun b o e => by
  have := s b o e
  rw [upd_ne (ne_of_none this hx), upd_ne (ne_of_none this hx), upd_ne (ne_of_none this hd)]
  exact this
end L2
end
section
set_option Elab.async false
set_option linter.all false
set_option maxRecDepth 100000
set_option maxHeartbeats 4000000
namespace L2
open PySem PySem.Spec PyProof.Rows
theorem eT_typeCall (x v : Value) : checkTypeCall "enumerate" ⟨[x], [("start", v)]⟩ = pure () := by kernel_rfl
theorem eT_newCall (x v : Value) : checkBuiltinCall "enumerate.__new__" ⟨[.type "enumerate", x], [("start", v)]⟩ = pure () := by kernel_rfl
theorem eT_init (o x v : Value) : argsOk "object.__init__" ⟨[o, x], [("start", v)]⟩ := by
  unfold argsOk
  rw [signature?_of (id := "object.__init__") (n := "__init__".toList.reverse) (o := "object".toList.reverse) (by kernel_rfl) F.owner_object]
  kernel_rfl
section
variable {P : Program} {w : World} {A : Around} {E : Value → Shared → Prop} {s : Shared}
theorem eT_objInit {self : Value} {rest : List Value} {kw : List (Str × Value)} {r0 : Value} {rs : List Value} (e : rest = r0 :: rs) : Meets (Builtin.«object.__init__» ⟨self :: rest, kw⟩) (fun _ R s => s.TypeIs self "enumerate" ∧ R (.ok (.ret .none)) s) := by
  refine .of_wp fun P w A R s hs => ?_
  obtain ⟨hT, hq⟩ := hs
  have hl := F.called_enumerate.init.lookup
  have hm := F.called_enumerate.made
  have hne : (some "enumerate.__new__" != some "object.__new__") = true := by decide
  subst e
  repeat (any_goals (first | assumption | wp_step))
  exact ⟨_, rfl, hq⟩
theorem eT_new (t : Addr) (items : Array Value) (tk : Tok) :
    Meets (Builtin.«enumerate.__new__» ⟨[.type "enumerate", .ref t], [("start", .int 1 tk)]⟩) (fun _ R s => s.heap.IsTuple t items ∧
      R (.ok (.ret (.ref (s.heap.objs.size + 1))))
        { s with heap := (s.heap.push { cls := .type "tuple_iterator", data := .fields #[.ref t, .int 0 0] }).push { cls := .type "enumerate", data := .fields #[.none, .bool false, .ref s.heap.objs.size, rawInt 1, .none, .none] } }) :=
  .of_wp fun P w A R s0 h => by
    obtain ⟨hh, g, d, tq, os⟩ := s0
    obtain ⟨hT, h⟩ := h
    have hsub := sub_enumerate
    obtain ⟨ot, hot, hct, nt, hdt⟩ := id hT
    have z : (hh.push { cls := .type "tuple_iterator", data := .fields #[.ref t, .int 0 0] }).objs.size = hh.objs.size + 1 := Heap.size_push ..
    have fin := h
    rw [← z] at fin
    wp_walk using AutoSeq1.wpAny_loadPart' hot
    refine wpAny_stack_any fun st => wpAny_pure ?_
    split
    · rename_i c _ _ _ _ _
      cases c == Value.type "enumerate"
      · wp_walk using AutoSeq1.wpAny_loadPart' hot, wpAny_pyIter_tuple hT
        exact ⟨_, rfl, fin⟩
      · wp_walk using AutoSeq1.wpAny_loadPart' hot, wpAny_pyIter_tuple hT
        exact ⟨_, rfl, fin⟩
    · wp_walk using AutoSeq1.wpAny_loadPart' hot, wpAny_pyIter_tuple hT
      exact ⟨_, rfl, fin⟩
theorem eT_call {t : Addr} {items : Array Value} {tk : Tok} {Q : Value → Shared → Prop} (hT : s.heap.IsTuple t items)
    (h : ∀ h', IsEnum h' (s.heap.objs.size + 1) s.heap.objs.size 1 .none → h'.IsTupleIter s.heap.objs.size t 0 → (∀ b o, s.heap.get? b = some o → h'.get? b = some o) → Q (.ref (s.heap.objs.size + 1)) { s with heap := h' }) :
    wpAny (model P w) A (call (.type "enumerate") [.ref t] [("start", .int 1 tk)]) Q E s := by
  have ft := F.called_enumerate
  obtain ⟨c0, tl0, hm⟩ := ft.mro
  have h1 := ft.notType
  have h2 := ft.canCreate
  have h3 := ft.made
  have h4 := ft.sub
  have hct := eT_typeCall (.ref t) (.int 1 tk)
  refine wpAny_call (codeAny_of_tree (show wpAny _ _ (callAny (.type "enumerate") _) _ _ _ from wpAny_pure ⟨Code.quiet_builtin _ (by decide +kernel), codeAny_builtin F.entry_type_call ?_⟩))
  rw [Around.under_plain (weight_type_call_type "enumerate" [.ref t] [("start", .int 1 tk)]) (units_type_call_type _ _ _)]
  repeat (any_goals (first | assumption | wp_step))
  have z : (s.heap.push { cls := .type "tuple_iterator", data := .fields #[.ref t, .int 0 0] }).objs.size = s.heap.objs.size + 1 := Heap.size_push ..
  have he : IsEnum ((s.heap.push { cls := .type "tuple_iterator", data := .fields #[.ref t, .int 0 0] }).push { cls := .type "enumerate", data := .fields #[.none, .bool false, .ref s.heap.objs.size, rawInt 1, .none, .none] }) (s.heap.objs.size + 1) s.heap.objs.size 1 .none := by
    rw [← z]
    exact Heap.get?_push_size _ rfl
  refine codeAny_mono (codeAny_call_builtin ft.plain F.entry_enumerate_new (wpAny_of_eq (eT_newCall (.ref t) (.int 1 tk)) (eT_new t items tk P w A.in1 (wants (fun obj s1 => obj = .ref (s.heap.objs.size + 1) ∧ s1 = { s with heap := (s.heap.push { cls := .type "tuple_iterator", data := .fields #[.ref t, .int 0 0] }).push { cls := .type "enumerate", data := .fields #[.none, .bool false, .ref s.heap.objs.size, rawInt 1, .none, .none] } }) E) s ⟨hT, rfl, rfl⟩))) fun r s1 hr => ?_
  cases r with
  | error e => exact hr
  | ok fl =>
    cases fl with
    | ret obj =>
      obtain ⟨rfl, rfl⟩ := hr
      have hl := ft.init.lookup
      have hb := ft.init.bind (.ref (s.heap.objs.size + 1))
      have hi : Shared.TypeIs { s with heap := (s.heap.push { cls := .type "tuple_iterator", data := .fields #[.ref t, .int 0 0] }).push { cls := .type "enumerate", data := .fields #[.none, .bool false, .ref s.heap.objs.size, rawInt 1, .none, .none] } } (.ref (s.heap.objs.size + 1)) "enumerate" := ⟨_, he, rfl⟩
      repeat (any_goals (first | assumption | wp_step))
      refine codeAny_mono (codeAny_call_builtin ft.init.plain F.entry_object_init (ft.init.check _ _ _ _ _ _ _ _ hi (eT_init _ _ _) (eT_objInit (rest := [.ref t]) rfl P w A.in1 (wants (fun r s2 => r = .none ∧ s2 = { s with heap := (s.heap.push { cls := .type "tuple_iterator", data := .fields #[.ref t, .int 0 0] }).push { cls := .type "enumerate", data := .fields #[.none, .bool false, .ref s.heap.objs.size, rawInt 1, .none, .none] } }) E) _ ⟨hi, rfl, rfl⟩))) fun r2 s2 hr2 => ?_
      cases r2 with
      | error e => exact hr2
      | ok fl2 =>
        cases fl2 with
        | ret r =>
          obtain ⟨rfl, rfl⟩ := hr2
          have fin := h _ he ⟨_, Heap.get?_push_of_some _ (Heap.get?_push_size _ rfl), rfl, rfl⟩ fun b o x => Heap.get?_push_of_some _ (Heap.get?_push_of_some _ x)
          repeat (any_goals (first | assumption | wp_step))
        | _ => exact hr2.elim
    | _ => exact hr.elim
end
end L2
namespace L2
open PySem PySem.Spec PyProof.Rows
section
variable {P : Program} {w : World} {A : Around} {E : Value → Shared → Prop} {s : Shared}
theorem eT_item {it t : Addr} {i : Nat} {items : Array Value} {x : Value} {Q : Value → Shared → Prop} (h1 : s.heap.IsTupleIter it t i) (h2 : s.heap.IsTuple t items) (h3 : items[i]? = some x)
    (hQ : ∀ h', h'.IsTupleIter it t (i + 1) → Heap.SameBut it s.heap h' → Q x { s with heap := h' }) : wpAny (model P w) A (Builtin.SmallTypes.nextOf (.ref it)) Q E s := by
  obtain ⟨o1, e1, c1, d1⟩ := id h1
  obtain ⟨o2, e2, _, n2, d2⟩ := h2
  unfold Builtin.SmallTypes.nextOf
  refine wpAny_bind (wpAny_callSpecial?_slot (name := Str.ofString "__next__") h1.typeIs F.slot_tuple_iterator_next (wpAny_call_entry F.slot_tuple_iterator_next h1.typeIs F.entry_tuple_iterator_next ?_ (F.args_tuple_iterator_next_1 _)))
  refine (show wpAny _ _ (field (.ref it) 0 >>= _) _ _ s from wpAny_bind (wpAny_field e1 d1 (x := .ref t) rfl ?_))
  show wpAny _ _ (if (Value.ref t == Value.none) = true then _ else _) _ _ s
  rw [if_neg (by exact Bool.false_ne_true)]
  refine (show wpAny _ _ (field (.ref it) 1 >>= _) _ _ s from wpAny_bind (wpAny_field e1 d1 (x := .int i 0) rfl ?_))
  refine (show wpAny _ _ (seqItems? (.ref t) >>= _) _ _ s from wpAny_bind (wpAny_seqItems e2 d2 ?_))
  simp only [Int.toNat_natCast, h3]
  refine wpAny_bind (wpAny_setField e1 d1 (by simp) (wpAny_pure ⟨x, rfl, wpAny_pure (hQ _ ⟨_, Heap.get?_update_self _ e1 (Obj.isFreed_of_fields (Obj.data_mapFields d1 _)), (Obj.cls_mapFields ..).trans c1, ?_⟩ (Heap.SameBut.update ..))⟩))
  rw [Obj.data_mapFields d1]
  simp [rawInt]
theorem eT_none {it t : Addr} {i : Nat} {items : Array Value} {Q : Value → Shared → Prop} (hh : A.handled = none) (h1 : s.heap.IsTupleIter it t i) (h2 : s.heap.IsTuple t items) (h3 : items[i]? = none)
    (hE : ∀ h' e, Heap.ExtBut it s.heap h' → (∃ o, h'.get? e = some o ∧ o.cls = .type "StopIteration") → E (.ref e) { s with heap := h' }) : wpAny (model P w) A (Builtin.SmallTypes.nextOf (.ref it)) Q E s := by
  obtain ⟨o1, e1, c1, d1⟩ := id h1
  obtain ⟨o2, e2, _, n2, d2⟩ := h2
  unfold Builtin.SmallTypes.nextOf
  refine wpAny_bind (wpAny_callSpecial?_slot (name := Str.ofString "__next__") h1.typeIs F.slot_tuple_iterator_next (wpAny_call_entry F.slot_tuple_iterator_next h1.typeIs F.entry_tuple_iterator_next ?_ (F.args_tuple_iterator_next_1 _)))
  refine (show wpAny _ _ (field (.ref it) 0 >>= _) _ _ s from wpAny_bind (wpAny_field e1 d1 (x := .ref t) rfl ?_))
  show wpAny _ _ (if (Value.ref t == Value.none) = true then _ else _) _ _ s
  rw [if_neg (by exact Bool.false_ne_true)]
  refine (show wpAny _ _ (field (.ref it) 1 >>= _) _ _ s from wpAny_bind (wpAny_field e1 d1 (x := .int i 0) rfl ?_))
  refine (show wpAny _ _ (seqItems? (.ref t) >>= _) _ _ s from wpAny_bind (wpAny_seqItems e2 d2 ?_))
  simp only [Int.toNat_natCast, h3]
  refine wpAny_bind (wpAny_rule (wpAny_bind (wpAny_setField e1 d1 (by simp) (show wpAny _ _ (newExc (.type "StopIteration") [] >>= _) _ _ _ from wpAny_bind ?_))))
  simp only [newExc, newTuple]
  refine wpAny_bind (wpAny_newObj_type (wpAny_bind (m := firstArgMember _ _) (wpAny_of_eq (a := Value.none) (by first | rfl | (simp only [firstArgMember]; rfl)) (wpAny_newObj_type ?_ (by size_fits)))) (by size_fits))
  simp only [raiseNew]
  refine wpAny_bind (wpAny_handled ?_)
  first
    | rw [show A.in1.handled = none from hh]
    | rw [hh]
  exact wpAny_bind (wpAny_pure (wpAny_throw (hE _ _ (((Heap.SameBut.update ..).extBut.push _).push _) ⟨_, Heap.get?_push_size _ rfl, rfl⟩)))
theorem eT_step {e it t : Addr} {i : Nat} {j : Int} {items : Array Value} {x old : Value} {Q : Option Value → Shared → Prop} (he : IsEnum s.heap e it j old) (h1 : s.heap.IsTupleIter it t i) (h2 : s.heap.IsTuple t items) (h3 : items[i]? = some x) (hne : e ≠ it)
    (hQ : ∀ h', IsEnumOut h' e it (j + 1) x s.heap.objs.size → h'.IsTupleIter it t (i + 1) → h'.get? s.heap.objs.size = some { cls := .type "tuple", data := .seq #[.int j s.toks, x] } →
      (∀ b o, b ≠ e → b ≠ it → s.heap.get? b = some o → h'.get? b = some o) → Q (some (.ref s.heap.objs.size)) { s with heap := h', toks := s.toks + 1 }) : wpAny (model P w) A (pyNext (.ref e)) Q E s := by
  have hT : s.TypeIs (.ref e) "enumerate" := ⟨_, he, rfl⟩
  obtain ⟨g0, gg, dd, tq, os⟩ := s
  unfold pyNext
  refine wpAny_bind (wpAny_attempt (wpAny_callSpecial?_slot (name := Str.ofString "__next__") hT F.slot_enumerate_next (wpAny_call_entry F.slot_enumerate_next hT F.entry_enumerate_next ?_ (F.args_enumerate_next_1 _))))
  refine (show wpAny _ _ (field (.ref e) 2 >>= _) _ _ _ from wpAny_bind (wpAny_field he rfl (x := .ref it) rfl (wpAny_bind (eT_item h1 h2 h3 fun g1 k1 r1 => ?_))))
  replace r1 : Heap.SameBut it g0 g1 := r1
  have he1 : IsEnum g1 e it j old := (r1.2 e hne).trans he
  refine (show wpAny _ _ (field (.ref e) 3 >>= _) _ _ ⟨g1, gg, dd, tq, os⟩ from wpAny_bind (wpAny_field he1 rfl (x := rawInt j) rfl ?_))
  refine (show wpAny _ _ (field (.ref e) 4 >>= _) _ _ ⟨g1, gg, dd, tq, os⟩ from wpAny_bind (wpAny_field he1 rfl (x := .none) rfl ?_))
  refine (show wpAny _ _ (mkInt j >>= _) _ _ ⟨g1, gg, dd, tq, os⟩ from wpAny_bind (wpAny_mkInt ?_))
  refine (show wpAny _ _ (setField (.ref e) 3 (rawInt (j + 1)) >>= _) _ _ ⟨g1, gg, dd, tq + 1, os⟩ from wpAny_bind (wpAny_setField_rec he1 (by simp) fun g2 he2 r2 => ?_))
  replace r2 : Heap.SameBut e g1 g2 := r2
  replace he2 : IsEnum g2 e it (j + 1) old := he2
  refine (show wpAny _ _ (setField (.ref e) 4 .none >>= _) _ _ ⟨g2, gg, dd, tq + 1, os⟩ from wpAny_bind (wpAny_setField_rec he2 (by simp) fun g3 he3 r3 => ?_))
  replace r3 : Heap.SameBut e g2 g3 := r3
  replace he3 : IsEnum g3 e it (j + 1) old := he3
  refine (show wpAny _ _ (newTuple [.int j tq, x] >>= _) _ _ ⟨g3, gg, dd, tq + 1, os⟩ from wpAny_bind (wpAny_newTuple ?_))
  have sz : g3.objs.size = g0.objs.size := by rw [r3.1, r2.1, r1.1]
  have he4 : IsEnum (g3.push { cls := .type "tuple", data := .seq #[.int j tq, x] }) e it (j + 1) old := Heap.get?_push_of_some _ he3
  have t4 : (g3.push { cls := .type "tuple", data := .seq #[.int j tq, x] }).get? g0.objs.size = some { cls := .type "tuple", data := .seq #[.int j tq, x] } := by
    rw [← sz]
    exact Heap.get?_push_size _ rfl
  have lt4 : e < g0.objs.size := Heap.lt_size he
  have kp : ∀ b o, b ≠ e → b ≠ it → g0.get? b = some o → (g3.push { cls := .type "tuple", data := .seq #[.int j tq, x] }).get? b = some o := fun b o be bi hb =>
    Heap.get?_push_of_some _ (r3.extBut b o be (r2.extBut b o be (r1.extBut b o bi hb)))
  have k4 : (g3.push { cls := .type "tuple", data := .seq #[.int j tq, x] }).IsTupleIter it t (i + 1) := by
    obtain ⟨o, ho, r⟩ := (k1.extBut r2.extBut (Ne.symm hne)).extBut r3.extBut (Ne.symm hne)
    exact ⟨o, Heap.get?_push_of_some _ ho, r⟩
  generalize g3.push { cls := .type "tuple", data := .seq #[.int j tq, x] } = g4 at he4 t4 kp k4 ⊢
  rw [sz]
  refine (show wpAny _ _ (Builtin.SmallTypes.ownedTupleIsFree (.ref e) >>= _) _ _ ⟨g4, gg, dd, tq + 1, os⟩ from wpAny_bind ?_)
  unfold Builtin.SmallTypes.ownedTupleIsFree
  refine wpAny_bind (wpAny_field he4 rfl (x := .none) rfl (wpAny_pure ?_))
  simp only [if_true]
  refine wpAny_bind (wpAny_rule (wpAny_bind (wpAny_field he4 rfl (x := old) rfl (wpAny_bind (wpAny_setField_rec he4 (by simp) fun g5 he5 r5 => ?_)))))
  replace r5 : Heap.SameBut e g4 g5 := r5
  replace he5 : IsEnum g5 e it (j + 1) x := he5
  refine (show wpAny _ _ (Builtin.SmallTypes.ownedTupleHandOut (.ref e) (.ref g0.objs.size) >>= _) _ _ ⟨g5, gg, dd, tq + 1, os⟩ from wpAny_bind ?_)
  unfold Builtin.SmallTypes.ownedTupleHandOut
  refine wpAny_bind (wpAny_setField_rec he5 (by simp) fun g6 he6 r6 => ?_)
  replace r6 : Heap.SameBut e g5 g6 := r6
  replace he6 : IsEnumOut g6 e it (j + 1) x g0.objs.size := he6
  refine wpAny_setField_rec he6 (by simp) fun g7 he7 r7 => ?_
  replace r7 : Heap.SameBut e g6 g7 := r7
  replace he7 : IsEnumOut g7 e it (j + 1) x g0.objs.size := he7
  have ne' := Ne.symm hne
  have gt4 : g0.objs.size ≠ e := Nat.ne_of_gt lt4
  exact wpAny_bind (wpAny_letGo (wpAny_pure ⟨_, rfl, wpAny_pure (hQ g7 he7 (((k4.extBut r5.extBut ne').extBut r6.extBut ne').extBut r7.extBut ne') (r7.extBut _ _ gt4 (r6.extBut _ _ gt4 (r5.extBut _ _ gt4 t4)))
    fun b o be bi hb => r7.extBut b o be (r6.extBut b o be (r5.extBut b o be (kp b o be bi hb))))⟩))
theorem eT_end {e it t : Addr} {i : Nat} {j : Int} {items : Array Value} {old : Value} {Q : Option Value → Shared → Prop} (hh : A.handled = none) (he : IsEnum s.heap e it j old) (h1 : s.heap.IsTupleIter it t i) (h2 : s.heap.IsTuple t items) (h3 : items[i]? = none)
    (hQ : ∀ h', Heap.ExtBut it s.heap h' → Q none { s with heap := h' }) : wpAny (model P w) A (pyNext (.ref e)) Q E s := by
  have hT : s.TypeIs (.ref e) "enumerate" := ⟨_, he, rfl⟩
  unfold pyNext
  refine wpAny_bind (wpAny_attempt (wpAny_callSpecial?_slot (name := Str.ofString "__next__") hT F.slot_enumerate_next (wpAny_call_entry F.slot_enumerate_next hT F.entry_enumerate_next ?_ (F.args_enumerate_next_1 _))))
  refine (show wpAny _ _ (field (.ref e) 2 >>= _) _ _ _ from wpAny_bind (wpAny_field he rfl (x := .ref it) rfl (wpAny_bind (eT_none hh h1 h2 h3 fun h' y k1 k2 => ?_))))
  obtain ⟨o, ho, hc⟩ := k2
  exact wpAny_bind (wpAny_isInstance (T := "StopIteration") (b := true) ⟨o, ho, hc⟩ isSubtype_stop (wpAny_pure (hQ _ k1)))
end
def IteT (K : PySem.W.Frag) (a : Addr) : It :=
  ⟨fun i H => ∃ (xs : List V) (x : V), SqT K H a xs ∧ xs[i]? = some x, fun i H v H' => ∃ T x, v = .ref T ∧ H T = none ∧ H' = upd H T (.tup [.int ((i + 1 : Nat) : Int), x]) ∧ ∀ xs, SqT K H a xs → xs[i]? = some x, fun i H => ∃ xs : List V, SqT K H a xs ∧ xs.length ≤ i⟩
theorem turn_enumT {P : Program} {w : World} {K : PySem.W.Frag} {elts : List Expr} {kk : Nat} {tpos : Pos} (a e it : Addr) :
    Turn P w K (.Tuple elts kk tpos) (IteT K a) [e, it] e (fun i h => (∃ old, IsEnum h e it ((i + 1 : Nat) : Int) old) ∧ h.IsTupleIter it a i ∧ e ≠ it) where
  mem := List.mem_cons_self
  obj := fun i h st b hb => by
    obtain ⟨⟨old, he⟩, ⟨o, ho, hc, hd⟩, _⟩ := st
    rcases List.mem_cons.mp hb with rfl | hb
    · exact ⟨_, he, fun v q => nomatch q⟩
    · rcases List.mem_singleton.mp hb with rfl
      exact ⟨o, ho, fun v q => by rw [hd] at q; cases q⟩
  keep := fun i h h' st k => by
    obtain ⟨⟨old, he⟩, ⟨o, ho, r⟩, hne⟩ := st
    exact ⟨⟨old, k e List.mem_cons_self _ he⟩, ⟨o, k it (by simp) o ho, r⟩, hne⟩
  item := by
    intro X hP hw hK hc i pins s σ H E I hf st hg
    subst hP hw hK
    obtain ⟨⟨old, he⟩, hit, hne⟩ := st
    obtain ⟨xs, x, hq, hx⟩ := hg
    obtain ⟨its, rv, p, hz⟩ := I.tuple hq
    obtain ⟨u, hu, ru⟩ := rv.get hx
    have lt1 : e < s.heap.objs.size := Heap.lt_size he
    have lt2 : it < s.heap.objs.size := by
      obtain ⟨_, q, _⟩ := hit
      exact Heap.lt_size q
    refine eT_step he hit p (x := u) (by simpa using hu) hne fun h1 ho hit1 hT hk => ⟨_, rfl, wpAny_letOwnedTupleGo_enum (s := { s with heap := h1, toks := s.toks + 1 }) ho fun h2 he2 sb => ?_⟩
    have hT2 := (sb.2 _ (Nat.ne_of_gt lt1)).trans hT
    have nw : ObjOk X.prog X.w (upd H s.heap.objs.size (.tup [.int ((i + 1 : Nat) : Int), x])) h2 s.heap.objs.size (.tup [.int ((i + 1 : Nat) : Int), x]) :=
      ⟨by show 2 ≤ 2 ^ 24; decide, _, .cons ⟨_, rfl⟩ (.cons ru .nil), ⟨_, hT2, rfl, _, rfl⟩⟩
    have I1 : Inv X pins σ (upd H s.heap.objs.size (.tup [.int ((i + 1 : Nat) : Int), x])) { s with heap := h2, toks := s.toks + 1 } :=
      I.turnedNew (ch := [e, it]) (fun b ob hb q => (sb.2 b fun z => hb (by simp [z])).trans (hk b ob (fun z => hb (by simp [z])) (fun z => hb (by simp [z])) q)) hf (Nat.le_refl _) nw
    refine ⟨.ref s.heap.objs.size, _, I1, rfl, ⟨_, x, rfl, I.hok.fresh (Nat.le_refl _), rfl, fun ys hy => by rw [I.tuple_inj hy hq]; exact hx⟩, ⟨⟨u, ?_⟩, hit1.at fun o q => (sb.2 it (Ne.symm hne)).trans q, hne⟩, fun b hb => ?_⟩
    · rw [show ((i + 1 + 1 : Nat) : Int) = ((i + 1 : Nat) : Int) + 1 by omega]
      exact he2
    · have hb' : b < s.heap.objs.size := by
        rcases List.mem_cons.mp hb with rfl | hb
        · exact lt1
        · rcases List.mem_singleton.mp hb with rfl
          exact lt2
      rw [upd_ne (Nat.ne_of_lt hb')]
      exact (hf b hb).1
  done := by
    intro X hP hw hK hc i pins s σ H E I hf st hg
    subst hP hw hK
    obtain ⟨⟨old, he⟩, hit, hne⟩ := st
    obtain ⟨xs, hq, hx⟩ := hg
    obtain ⟨its, rv, p, hz⟩ := I.tuple hq
    obtain ⟨f0, f1, f2, f3, f4, f5⟩ := hf it (by simp)
    have hl := rv.length
    exact eT_end (I.ok.hd hc) he hit p (by simp; omega) fun h' eb => ⟨rfl, I.turned (t' := s.toks) (fun b o hb q => eb b o hb q) f0 f1 f3 f4 f5⟩
  self := fun A i s Q E st h => by
    obtain ⟨⟨_, he⟩, _⟩ := st
    exact wpAny_pyIter_enum he h
def iEnumT (K : PySem.W.Frag) (ta : TE) : TI := fun σ H R => ta σ H fun v H1 => ∃ a xs, v = .ref a ∧ SqT K H1 a xs ∧ R (IteT K a) H1
theorem cw_typeK {M : Model} {A : Around} {E : Value → Shared → Prop} {s : Shared} {env : Env} {pos : Pos} {T : String} {e : Expr} {kws : List Keyword} {Q : Value → Shared → Prop}
    (h : wpAny M A (spliced (backTo pos (starEach [e] env))) (fun vs s₁ => wpAny M A (evalAll ((backToKw pos (keywordEach kws env)).map (·.2))) (fun kvs s₂ => wpAny M A (call (.type T) vs (((backToKw pos (keywordEach kws env)).filterMap (·.1)).zip kvs)) Q E s₂) E s₁) E s)
    (he : backTo pos (starEach [e] env) = [(false, eval e env)]) (hall : (backToKw pos (keywordEach kws env)).all (·.1.isSome) = true) (hkw : (backToKw pos (keywordEach kws env)).any (·.1.isNone) = false) :
    wpAny M A (callWith pos (.type T) [] (backTo pos (starEach [e] env)) (backToKw pos (keywordEach kws env))) Q E s := by
  rw [he] at h ⊢
  unfold callWith
  refine wpAny_bind (wpAny_holding (wpAny_mono (evalArgs_kwB (f := .type T) (Q := fun a s1 => wpAny M A (call (.type T) ([] ++ a.pos) a.kw) Q E s1) hall h) (fun a s1 h1 => wpAny_bind (wpAny_standAt ?_)) fun _ _ x => x))
  simp only [hkw, List.any_cons, List.any_nil, Bool.or_false]
  exact wpAny_bind (wpAny_pure (wpAny_bind (wpAny_mono h1 (fun r s2 hr => wpAny_bind (wpAny_holding (wpAny_point (wpAny_pure hr)))) fun _ _ x => x)))
theorem pi_enumT {X : Cx} {e : Expr} {ta : TE} {p pos tpos kp cp : Pos} {ck : Nat} {elts : List Expr} {kk : Nat} (hg : Gl X "enumerate") (hm : X.mg "enumerate" = none) (ha : PE X e ta) (hs : starEach [e] X.env = [(false, eval e X.env)] := by rfl) :
    PI X (.Tuple elts kk tpos) (.Call (.Name "enumerate" p) [e] [⟨some "start", .Constant (.int 1) ck cp, kp⟩] pos) (iEnumT X.K ta) := by
  intro pins s σ H R I h
  refine wpAny_Call_Name_kw (ld_blt I hg hm boot_enumerate (cw_typeK (thn ((pa_cons ha pa_nil hs) pos pins s σ H (fun vs H1 => ∃ a xs, vs = [.ref a] ∧ SqT X.K H1 a xs ∧ R (IteT X.K a) H1) I ?_) fun us s1 ⟨vs, H1, I1, r1, q1⟩ => ?_) (by rw [hs]; rfl) rfl rfl))
  · show ta σ H _
    have e : (fun x H1 => tNil σ H1 fun xs H2 => ∃ a xs', (x :: xs : List V) = [.ref a] ∧ SqT X.K H2 a xs' ∧ R (IteT X.K a) H2) = fun v H1 => ∃ a xs, v = .ref a ∧ SqT X.K H1 a xs ∧ R (IteT X.K a) H1 := by
      funext x H1
      show (∃ a xs', ([x] : List V) = [.ref a] ∧ SqT X.K H1 a xs' ∧ R (IteT X.K a) H1) = _
      simp
    rw [e]
    exact h
  · obtain ⟨a, xs, ex, hq, q⟩ := q1
    subst ex
    cases r1 with
    | cons r rr =>
      cases rr
      cases r
      refine kws_cons (thn (pe_int (X := X) pins s1 σ H1 (fun v H2 => v = .int 1 ∧ H2 = H1) I1 ⟨rfl, rfl⟩) fun u s2 ⟨x, H2, I2, r2, e1, e2⟩ => kws_nil ?_)
      subst e1 e2
      obtain ⟨tk, rfl⟩ := r2
      obtain ⟨its, rv, p', hz⟩ := I2.tuple hq
      refine eT_call (items := its.toArray) p' fun h' he hit hk => wpAny_pyIter_enum he ?_
      have I3 : Inv X pins σ H2 { s2 with heap := h' } := I2.kept (t' := s2.toks) hk
      refine ⟨s2.heap.objs.size + 1, [s2.heap.objs.size + 1, s2.heap.objs.size], _, _, H2, rfl, I3, turn_enumT a (s2.heap.objs.size + 1) s2.heap.objs.size, ⟨⟨.none, he⟩, hit, Nat.succ_ne_self _⟩, fun b hb => ?_, q⟩
      have hle : s2.heap.objs.size ≤ b := by
        rcases List.mem_cons.mp hb with rfl | hb
        · exact Nat.le_add_right _ _
        · rcases List.mem_singleton.mp hb with rfl
          exact Nat.le_refl _
      exact I2.fpOk hle (I2.hok.fresh hle)
theorem for_enumT {K : PySem.W.Frag} {a : Addr} {xs : List V} {g : TG} {tb : TS} {D : Ends} {σ : St} {H : Hp} (Pv : Nat → St → Hp → Prop) (h0 : Pv 0 σ H) (hl : ∀ H, SqT K H a xs)
    (hs : ∀ i x σ H T, xs[i]? = some x → Pv i σ H → H T = none → g (.ref T) σ (upd H T (.tup [.int ((i + 1 : Nat) : Int), x])) fun σ2 H2 => tb { D with nx := Pv (i + 1), ct := Pv (i + 1), bk := D.nx } σ2 H2)
    (hd : ∀ σ H, Pv xs.length σ H → D.nx σ H) :
    ∃ W : Nat → Nat → St → Hp → Prop, (∃ m, W 0 m σ H) ∧ ∀ i m σ H, W i m σ H →
      ((IteT K a).stop i H ∧ D.nx σ H) ∨ ((IteT K a).go i H ∧ ∃ N : St → Hp → Prop, (∀ σ' H', N σ' H' → ∃ m', m' < m ∧ W (i + 1) m' σ' H') ∧ ∀ x H', (IteT K a).yld i H x H' → g x σ H' fun σ2 H2 => tb { D with nx := N, ct := N, bk := D.nx } σ2 H2) := by
  refine ⟨fun i m σ H => i + m = xs.length ∧ Pv i σ H, ⟨xs.length, Nat.zero_add _, h0⟩, ?_⟩
  rintro i m σ H ⟨e, p⟩
  cases m with
  | zero =>
    obtain rfl : i = xs.length := by omega
    exact .inl ⟨⟨xs, hl H, Nat.le_refl _⟩, hd σ H p⟩
  | succ m =>
    have hlt : i < xs.length := by omega
    refine .inr ⟨⟨xs, xs[i], hl H, List.getElem?_eq_getElem hlt⟩, Pv (i + 1), fun σ' H' p' => ⟨m, Nat.lt_succ_self m, by omega, p'⟩, ?_⟩
    rintro v H' ⟨T, x, rfl, hT, rfl, hx⟩
    exact hs i x σ H T (hx xs (hl H)) p hT
end L2
end
section
set_option Elab.async false
set_option linter.all false
set_option maxRecDepth 100000
set_option maxHeartbeats 1000000
namespace L2
open PySem PySem.Spec PyProof.Rows
theorem lc_pure {K : PySem.W.Frag} {a : Addr} {xs : List V} {g : TG} {tt : TT} {te : TE} {vs : List Nat} {σ : St} {H1 : Hp} {D : Addr} {Qd : Hp → Prop} (sel : V → Option V) (hS : SqL K H1 a xs) (hD : H1 D = none) (hl : xs.length < 2 ^ 24)
    (each : ∀ (x : V) (H' : Hp), x ∈ xs → Same H1 H' → ∀ (Q1 : V → Hp → Prop) (Q2 : Hp → Prop), (∀ y, sel x = some y → Q1 y H') → (sel x = none → Q2 H') → g x (wipe σ vs) H' fun σ2 H2 => wipe σ2 vs = wipe σ vs ∧ tt σ2 H2 fun b H3 => if b = true then te σ2 H3 Q1 else Q2 H3)
    (hd : Qd (upd H1 D (.lst (xs.filterMap sel)))) :
    ∃ W : Nat → Nat → Hp → Prop, (∃ m, W 0 m (upd H1 D (.lst []))) ∧ ∀ i m H, W i m H →
      ((Itl K a).stop i H ∧ Qd H) ∨ ((Itl K a).go i H ∧ ∃ Nx : Hp → Prop, (∀ H', Nx H' → ∃ m', m' < m ∧ W (i + 1) m' H') ∧ ∀ x H', (Itl K a).yld i H x H' → g x (wipe σ vs) H' fun σ2 H2 => wipe σ2 vs = wipe σ vs ∧ tt σ2 H2 fun b H3 =>
        if b = true then te σ2 H3 fun y H4 => ∃ acc, H4 D = some (.lst acc) ∧ acc.length < sizeLine ∧ Nx (upd H4 D (.lst (acc ++ [y]))) else Nx H3) := by
  refine lc_list (K := K) (a := a) (xs := xs) (fun i H => H = upd H1 D (.lst ((xs.take i).filterMap sel))) rfl ?_ ?_ ?_
  · rintro i H _ rfl
    exact (Same.upd hD).seq hS
  · rintro i x H hx rfl
    have et : xs.take (i + 1) = xs.take i ++ [x] := by
      rw [List.take_succ, hx]
      rfl
    refine each x _ (List.mem_of_getElem? hx) (Same.upd hD) _ _ (fun y hy => ⟨_, upd_same, ?_, ?_⟩) fun hn => ?_
    · have h1 := List.length_filterMap_le sel (xs.take i)
      rw [List.length_take] at h1
      show _ < 2 ^ 24
      omega
    · rw [upd_upd, et, List.filterMap_append]
      simp [hy]
    · rw [et, List.filterMap_append]
      simp [hn]
  · rintro H rfl
    rw [List.take_length]
    exact hd
theorem strs_flat (l : List Str) : (l.map V.str).all flatV = true := by
  rw [List.all_map]
  exact List.all_eq_true.mpr fun _ _ => rfl
theorem in_strs (x : Str) (l : List Str) : inV (.str x) (l.map V.str) = decide (x ∈ l) := by
  unfold inV
  rw [List.any_map, Bool.eq_iff_iff, List.any_eq_true, decide_eq_true_iff]
  constructor
  · rintro ⟨y, hy, e⟩
    have : y = x := eq_of_beq (show (y == x) = true from e)
    rw [← this]
    exact hy
  · intro h
    exact ⟨x, h, show (x == x) = true from beq_self_eq_true x⟩
theorem count_strs (x : Str) (l : List Str) : (l.map V.str).countP (fun z => eqV z (.str x)) = l.count x := by
  rw [List.countP_map]
  rfl
theorem shaped_strs {l : List Str} (h : ∀ x ∈ l, PyData.strOk x = true) : SeqAt.shaped (.list (l.map PyData.str)) = true := by
  have h1 : ∀ l : List Str, (∀ x ∈ l, PyData.strOk x = true) → PyData.canLayAll0 (l.map PyData.str) = true := fun l => by
    induction l with
    | nil => intro _; rfl
    | cons a l ih =>
      intro h
      show (PyData.strOk a && PyData.canLayAll0 (l.map PyData.str)) = true
      rw [ih fun x hx => h x (List.mem_cons_of_mem _ hx), h a List.mem_cons_self]
      rfl
  have h2 : ∀ l : List Str, PyData.depthAll (l.map PyData.str) = 0 := fun l => by
    induction l with
    | nil => rfl
    | cons a l ih =>
      show max _ (PyData.depthAll (l.map PyData.str)) = 0
      rw [ih]
      rfl
  unfold SeqAt.shaped
  show (PyData.canLayAll0 _ && decide (PyData.depthAll _ + 1 ≤ 64)) = true
  rw [h1 l h, h2]
  rfl
theorem eqv_strsAll : ∀ a b : List Str, PyData.eqvAll (a.map PyData.str) (b.map PyData.str) = decide (a = b)
  | [], [] => rfl
  | [], _ :: _ => rfl
  | _ :: _, [] => rfl
  | x :: a, y :: b => by
    show ((x == y) && PyData.eqvAll (a.map PyData.str) (b.map PyData.str)) = _
    rw [eqv_strsAll a b, Bool.eq_iff_iff]
    simp
theorem eqv_strs (a b : List Str) : PyData.eqv (.list (a.map PyData.str)) (.list (b.map PyData.str)) = decide (a = b) := eqv_strsAll a b
theorem dp_strsAll {K : PySem.W.Frag} {H : Hp} : ∀ l : List Str, DpAll K H (l.map V.str) (l.map PyData.str)
  | [] => .nil
  | x :: r => .cons (.str x) (dp_strsAll r)
theorem dp_strs {K : PySem.W.Frag} {H : Hp} {a : Addr} {l : List Str} (h : SqL K H a (l.map V.str)) : Dp K H (.ref a) (.list (l.map PyData.str)) := .lst h (dp_strsAll l)
end L2
end
section
set_option Elab.async false
set_option linter.all false
set_option maxRecDepth 100000
set_option maxHeartbeats 1000000
namespace L2
open PySem PySem.Spec PyProof.Rows
theorem exc_mk {K : PySem.W.Frag} {h : Heap} {mg : Str → Option Value} {x : Str} {C : Addr} {bm : List Value} {newId : String} (X : K.In h) (G : h.Ns mainGlobals mg) (e : PySem.W.nsIn K mainGlobals x = some (some (.ref C))) (q : PySem.W.excIn K C bm newId = true) : OwnCls x C bm newId mg h := by
  refine ⟨PySem.W.mg_of X G e, ?_⟩
  unfold PySem.W.excIn at q
  split at q
  · rename_i dd cd sl lk
    split at q
    · rename_i C1 tl j0 j1 j2 j3 nn j5 mro slots
      simp only [Bool.and_eq_true, beq_iff_eq, Bool.not_eq_true'] at q
      obtain ⟨⟨⟨⟨⟨q1, q2⟩, q3⟩, q4⟩, q5⟩, q6⟩ := q
      subst q1 q2
      have es : sl = #[j0, j1, j2, j3, some (.builtin nn), j5] := by
        cases sl with
        | mk l => exact congrArg Array.mk slots
      subst es
      cases cd with
      | mk nm bs mr ns qn hd sn sub ab col del =>
        cases (show mr = _ from mro)
        cases (show del = _ from q3)
        exact ⟨tl, ns, nm, qn, bs, hd, sn, sub, ab, col, dd, j0, j1, j2, j3, j5, _, X _ _ lk, .of_isNs (PySem.W.isNs_of_in X q5), PySem.W.nsMap_none_of_in X q5 q6, PySem.W.tail_of_in X q4⟩
    · cases q
  · cases q
inductive Ent (w : World) : List DictEntry → List (Key × V) → Prop
  | nil : Ent w [] []
  | cons {e : DictEntry} {k : Key} {v : V} {es : List DictEntry} {kvs : List (Key × V)} : keyIs k e.key = true → e.hash = keyH w k → RelV v e.val → Ent w es kvs → Ent w (e :: es) ((k, v) :: kvs)
theorem ent_go {P : Program} {w : World} {es : List DictEntry} {kvs : List (Key × V)} (h : Ent w es kvs) : (∀ e ∈ es, ∃ k, keyIs k e.key = true ∧ e.hash = keyH w k) ∧ ∃ vs : List (Key × Value), Pairs (mixKind P w) es vs ∧ vs.map (·.1) = kvs.map (·.1) ∧ KV kvs vs := by
  induction h with
  | nil => exact ⟨(fun _ h => by cases h), [], .nil, rfl, .nil⟩
  | @cons e k v es kvs h1 h2 h3 t ih =>
    obtain ⟨i1, vs, i2, i3, i4⟩ := ih
    refine ⟨fun e' he => ?_, (k, e.val) :: vs, .cons h1 rfl i2, by rw [List.map_cons, List.map_cons, i3], .cons ⟨rfl, h3⟩ i4⟩
    rcases List.mem_cons.mp he with z | z
    · exact ⟨k, by rw [z]; exact h1, by rw [z]; exact h2⟩
    · exact i1 e' z
theorem dic_mk {P : Program} {w : World} {K : PySem.W.Frag} {h : Heap} {mg : Str → Option Value} {x : Str} {d : Addr} {es : Array DictEntry} {ep : Nat} {kvs : List (Key × V)} (X : K.In h) (G : h.Ns mainGlobals mg) (a : PySem.W.nsIn K mainGlobals x = some (some (.ref d)))
    (l : K.lookup d = some ⟨.type "dict", none, .dict es ep, #[]⟩) (ns : (d == sysModules) = false) (few : kvs.length ≤ 1000) (nd : (kvs.map (·.1)).Nodup) (en : Ent w es.toList kvs) : ∃ a, mg x = some (.ref a) ∧ DicK P w K a kvs := by
  obtain ⟨i1, vs, i2, i3, i4⟩ := ent_go (P := P) en
  refine ⟨d, PySem.W.mg_of X G a, ns, (by show _ ≤ 2 ^ 24; omega), _, es, ep, vs, l, ⟨rfl, rfl, rfl⟩, rfl, fun e he => i1 e (by simpa using he), i2, by rw [i3]; exact nd, i4⟩
abbrev VEB : List Value := [.type "ValueError", .type "Exception", .type "BaseException", .type "object"]
abbrev OwnExX {K : PySem.W.Frag} {h : Heap} (X : K.In h) (x : Str) (C : Addr) : Prop := PySem.W.nsIn K mainGlobals x = some (some (.ref C)) ∧ PySem.W.excIn K C VEB "ValueError.__new__" = true
theorem ownEx_mk {K : PySem.W.Frag} {h : Heap} {x : Str} {C : Addr} (X : K.In h) (a : PySem.W.nsIn K mainGlobals x = some (some (.ref C))) (q : PySem.W.excIn K C VEB "ValueError.__new__" = true) : ∃ C, OwnExX X x C := ⟨C, a, q⟩
abbrev DicX {K : PySem.W.Frag} {h : Heap} (X : K.In h) (P : Program) (w : World) (mg : Str → Option Value) (x : Str) (kvs : List (Key × V)) : Prop := ∃ a, mg x = some (.ref a) ∧ DicK P w K a kvs
end L2
end
section
namespace NP
open PySem PySem.Spec PyProof.Rows L2
abbrev PR : Program := PySem.Challenge.pw_numberpictures_s01_check
def top (i : Nat) : Stmt := PR.main.body.getD i (.Pass ⟨0, 0, 0, 0⟩)
structure TX (P : Program) (w : World) (K : PySem.W.Frag) (mg : Str → Option Value) : Prop where
  n_len : mg "len" = none
  n_ord : mg "ord" = none
  n_range : mg "range" = none
  n_enumerate : mg "enumerate" = none
  n_sum : mg "sum" = none
  n_all : mg "all" = none
  n_any : mg "any" = none
  c_BLANK : GI mg "BLANK" 32
  c_QUOTE : GI mg "QUOTE" 34
  c_PLUS : GI mg "PLUS" 43
  c_MINUS : GI mg "MINUS" 45
  c_POINT : GI mg "POINT" 46
  c_ZERO : GI mg "ZERO" 48
  c_NINE : GI mg "NINE" 57
  c_SEMICOLON : GI mg "SEMICOLON" 59
  c_LARGE_A : GI mg "LARGE_A" 65
  c_LARGE_E : GI mg "LARGE_E" 69
  c_LARGE_Z : GI mg "LARGE_Z" 90
  c_OPENING_BRACKET : GI mg "OPENING_BRACKET" 91
  c_BACKSLASH : GI mg "BACKSLASH" 92
  c_CLOSING_BRACKET : GI mg "CLOSING_BRACKET" 93
  c_UNDERSCORE : GI mg "UNDERSCORE" 95
  c_SMALL_H : GI mg "SMALL_H" 104
  c_SMALL_M : GI mg "SMALL_M" 109
  c_SMALL_S : GI mg "SMALL_S" 115
  c_LAST_CHARACTER : GI mg "LAST_CHARACTER" 1114111
  c_FIRST_SURROGATE : GI mg "FIRST_SURROGATE" 55296
  c_LAST_SURROGATE : GI mg "LAST_SURROGATE" 57343
  c_LEAST_BY_SIZE : ∃ a, mg "LEAST_BY_SIZE" = some (.ref a) ∧ ∀ H, SqT K H a [.int 0, .int 0, .int 128, .int 2048, .int 65536]
  c_COMPARISONS : ∃ a, mg "COMPARISONS" = some (.ref a) ∧ ∀ H, SqT K H a [.str "<=", .str ">=", .str "<>", .str "<", .str ">", .str "="]
  c_MOST_DIGITS : GI mg "MOST_DIGITS" 24
  c_MOST_DECIMALS : GI mg "MOST_DECIMALS" 12
  c_SIGNS : ∃ a, mg "SIGNS" = some (.ref a) ∧ DicK P w K a [(.inl 48, .str "place"), (.inl 35, .str "place"), (.inl 63, .str "place"), (.inl 46, .str "point"), (.inl 44, .str "comma"), (.inl 37, .str "percent"), (.inl 64, .str "at")]
  c_WORDS : ∃ a, mg "WORDS" = some (.ref a) ∧ DicK P w K a [(.inr "general", .str "general"), (.inr "am/pm", .str "noon"), (.inr "a/p", .str "noon")]
  c_LONGEST_ROWS : ∃ a, mg "LONGEST_ROWS" = some (.ref a) ∧ DicK P w K a [(.inl 121, .int 4), (.inl 109, .int 5), (.inl 100, .int 4), (.inl 104, .int 2), (.inl 115, .int 2)]
  c_LONGEST_PASSED_TIME : GI mg "LONGEST_PASSED_TIME" 9
  c_MOST_DECIMALS_OF_SECONDS : GI mg "MOST_DECIMALS_OF_SECONDS" 3
  c_PLAIN : GS mg "PLAIN" " !$&'()+-/:<=>^{}~"
  c_COLOURS : ∃ a, mg "COLOURS" = some (.ref a) ∧ ∀ H, SqT K H a [.str "black", .str "blue", .str "cyan", .str "green", .str "magenta", .str "red", .str "white", .str "yellow"]
  c_MOST_BYTES : GI mg "MOST_BYTES" 255
  c_MOST_SECTIONS : GI mg "MOST_SECTIONS" 4
  c_TEXTS_ALONE : GI mg "TEXTS_ALONE" 0
  c_DIGITS : GI mg "DIGITS" 1
  c_DAYS_AND_TIMES : GI mg "DAYS_AND_TIMES" 2
  c_WITH_TEXT : GI mg "WITH_TEXT" 3
  c_AS_IT_IS : GI mg "AS_IT_IS" 4
  c_COLOUR_OR_CONDITION : ∃ a, mg "COLOUR_OR_CONDITION" = some (.ref a) ∧ ∀ H, SqT K H a [.str "colour", .str "condition"]
  c_FREE_PIECES : ∃ a, mg "FREE_PIECES" = some (.ref a) ∧ ∀ H, SqT K H a [.str "text", .str "colour", .str "condition"]
  c_DAY_PIECES : ∃ a, mg "DAY_PIECES" = some (.ref a) ∧ ∀ H, SqT K H a [.str "part", .str "noon", .str "passed"]
  c_DIGIT_PIECES : ∃ a, mg "DIGIT_PIECES" = some (.ref a) ∧ ∀ H, SqT K H a [.str "place", .str "point", .str "comma", .str "percent", .str "exponent"]
  c_NO_PICTURE : GI mg "NO_PICTURE" (-3)
end NP
end
section
set_option Elab.async false
set_option linter.all false
set_option maxRecDepth 100000
set_option maxHeartbeats 1000000
namespace NP
open PySem PySem.Spec PyProof.Rows L2
def csize (n : Int) : Int := if n < 128 then 1 else if n < 192 then 0 else if n < 224 then 2 else if n < 240 then 3 else if n < 248 then 4 else 0
def charNum : Int → List Int → Option Int
  | n, [] => some n
  | n, c :: r => if Builtin.bitAnd c 192 = 128 then charNum (n * 64 + c % 64) r else none
def charOk (k : Nat) (n : Int) : Bool := decide ([0, 0, 128, 2048, 65536].getD k 0 ≤ n) && (decide (n ≤ 1114111) && !(decide (55296 ≤ n) && decide (n ≤ 57343)))
def charFin (k : Nat) : Option Int → Bool
  | some n => charOk k n
  | none => false
def isChar (ns : List Int) : Bool := match ns with
  | [] => false
  | c :: r => charFin (r.length + 1) (charNum (if r.length = 0 then c else Builtin.bitAnd c (127 / 2 ^ (r.length + 1))) r)
theorem isChar_cons (c : Int) (r : List Int) : isChar (c :: r) = charFin (r.length + 1) (charNum (if r.length = 0 then c else Builtin.bitAnd c (127 / 2 ^ (r.length + 1))) r) := rfl
theorem bitAnd_bound (c m : Int) (h : 0 ≤ c) (hm : 0 ≤ m) : 0 ≤ Builtin.bitAnd c m ∧ Builtin.bitAnd c m ≤ c := by
  rw [bitAnd_pp h hm]
  have := Nat.and_le_left (n := c.toNat) (m := m.toNat)
  omega
section
variable {P : Program} {w : World} {K : PySem.W.Frag} {mg : Str → Option Value} {base : Heap}
def spCsize : Sp := fun vs H Q _ => ∃ n, vs = [.int n] ∧ Q (.int (csize n)) H
def spIsChar (K : PySem.W.Frag) : Sp := fun vs H Q _ => ∃ a ns, vs = [.ref a] ∧ SqL K H a (ns.map V.int) ∧ 1 ≤ ns.length ∧ ns.length ≤ 4 ∧ (∀ n ∈ ns, 0 ≤ n ∧ n ≤ 255) ∧ ∀ H', Same H H' → Q (.bl (isChar ns)) H'
abbrev sCsize : Stmt := top 31
abbrev sIsChar : Stmt := top 32
theorem scCsize : FnScope ["first"] ["first"] (defScope sCsize) := ⟨rfl, rfl, rfl, by decide +kernel, rfl, by decide +kernel, by decide +kernel⟩
theorem ok_csize {f : Addr} {fd : FuncData} (F : Fun K "character_size" "character_size" sCsize f fd) : FnOk P w K mg base CX0 1 f fd ["first"] spCsize := by
  refine F.ok scCsize (fun vs H Q E h => ?_) (fun cdv A outer s H vs Q E hr h => ?_)
  · obtain ⟨n, rfl, _⟩ := h
    rfl
  · obtain ⟨n, rfl, k⟩ := h
    refine ⟨_, (pss_cons (ps_if (pt_cmpR op_lt (pv 0) pe_int (nomark _)) (pss_one (ps_ret pe_int)) pss_nil)
      (pss_cons (ps_if (pt_cmpR op_lt (pv 0) pe_int (nomark _)) (pss_one (ps_ret pe_int)) pss_nil)
      (pss_cons (ps_if (pt_cmpR op_lt (pv 0) pe_int (nomark _)) (pss_one (ps_ret pe_int)) pss_nil)
      (pss_cons (ps_if (pt_cmpR op_lt (pv 0) pe_int (nomark _)) (pss_one (ps_ret pe_int)) pss_nil)
      (pss_one (ps_ret (pe_ifExp (pt_cmpR op_lt (pv 0) pe_int (nomark _)) pe_int pe_int))))))), ?_⟩
    unfold csize at k
    simp only [tSeq, tIfS, tTest, tOp, rI0, tVar, tC, tRet, tIf, tNext, L2.start]
    simp
    repeat' split
    all_goals (simp_all)
theorem scIsChar : FnScope ["codes", "size", "number", "code", "is_surrogate"] ["codes"] (defScope sIsChar) := ⟨rfl, rfl, rfl, by decide +kernel, rfl, by decide +kernel, by decide +kernel⟩
theorem ok_isChar {f : Addr} {fd : FuncData} (T : TX P w K mg) (F : Fun K "is_character" "is_character" sIsChar f fd) : FnOk P w K mg base CX0 1 f fd ["codes"] (spIsChar K) := by
  refine F.ok scIsChar (fun vs H Q E h => ?_) (fun cdv A outer s H vs Q E hr h => ?_)
  · obtain ⟨a, ns, rfl, _⟩ := h
    rfl
  · obtain ⟨a, ns, rfl, hS, hl1, hl4, hb, k⟩ := h
    obtain ⟨aL, gL, sL⟩ := T.c_LEAST_BY_SIZE
    have nd := scIsChar.nd
    obtain ⟨c, r, rfl⟩ : ∃ c r, ns = c :: r := match ns, hl1 with | c :: r, _ => ⟨c, r, rfl⟩
    have hrl : r.length ≤ 3 := by simpa using hl4
    have hbr : ∀ n ∈ r, 0 ≤ n ∧ n ≤ 255 := fun n hn => hb n (List.mem_cons_of_mem _ hn)
    obtain ⟨tR, hR, qR⟩ : ∃ tR, PSs (cxOf CX0 P w K mg base ["codes", "size", "number", "code", "is_surrogate"] "is_character" (defScope sIsChar) f cdv A outer s H E).nox ((defBody sIsChar).drop 2) tR ∧
        ∀ n0 : Int, 0 ≤ n0 → n0 < 256 → (∀ H', Same H H' → Q (.bl (charFin (r.length + 1) (charNum n0 r))) H') →
          tR { nx := fun _ H' => Q .non H', rt := Q } [some (.ref a), some (.int ((c :: r).map V.int).length), some (.int n0), none, none] H := by
      refine ⟨_, (pss_cons (ps_for PassesOwn.never rfl (pi_list (pe_slice sl_list (pv 0) (po_some pe_int) po_none)) (pg_name (i := 3) nd rfl (Or.inl rfl)) (pss_cons (ps_if (pt_cmpR op_ne (pe_op op_and (pv 3) pe_int) pe_int (nomark _)) (pss_one (ps_ret pe_bl)) pss_nil)
        (pss_one (ps_set (i := 2) nd rfl (Or.inl rfl) (pe_op op_add (pe_op op_mul (pv 2) pe_int) (pe_op op_mod (pv 3) pe_int))))))
        (pss_cons (ps_set (i := 4) nd rfl (Or.inl rfl) (pe_chain op_le op_le (pe_gi T.c_FIRST_SURROGATE) (pv 2) (pe_gi T.c_LAST_SURROGATE)))
        (pss_one (ps_ret (pe_and (pe_chain op_le op_le (pe_ix ix_tup (pe_gr gL) (pv 1) (fun _ _ => rfl)) (pv 2) (pe_gi T.c_LAST_CHARACTER)) (pe_one (pe_not (pv 4)))))))), fun n0 h0 h1 kk => ?_⟩
      refine ⟨_, rfl, 1, rfl, a, _, rfl, hS, fun p hp => ?_⟩
      have ecut : cutV ((c :: r).map V.int) (some 1) none = r.map V.int := by
        unfold cutV
        have e1 : HT.sIx ((c :: r).map V.int).length 0 (some 1) = 1 := by
          have := HT.sIx_nat ((c :: r).map V.int).length 0 1
          simp at this
          simpa using this
        rw [e1]
        show ((V.int c :: r.map V.int).drop 1).take _ = _
        rw [List.drop_one, List.tail_cons]
        exact List.take_of_length_le (by simp [HT.sIx])
      rw [ecut]
      have sm : Same H (upd H p (.lst (r.map V.int))) := fun b o e => by rw [upd_ne (ne_of_none e hp)]; exact e
      refine ⟨p, rfl, ⟨_, SqL.of upd_same⟩, for_list (K := K) (a := p) (xs := r.map V.int) (fun i σ H' => ∃ (n : Int) (v : Option V), σ = [some (.ref a), some (.int ((c :: r).map V.int).length), some (.int n), v, none] ∧ H' = upd H p (.lst (r.map V.int)) ∧ 0 ≤ n ∧ n < 256 * 64 ^ i ∧ charNum n0 r = charNum n (r.drop i))
        ⟨n0, none, rfl, rfl, h0, by simpa using h1, rfl⟩ (fun i σ H' _ ⟨_, _, _, e, _⟩ => by subst e; exact SqL.of upd_same) ?_ ?_⟩
      · rintro i y σ H' hi ⟨n, v, rfl, rfl, hn0, hn1, hc⟩
        obtain ⟨z, hz, rfl⟩ : ∃ z, r[i]? = some z ∧ y = V.int z := by
          rw [List.getElem?_map] at hi
          obtain ⟨z, hz, e⟩ := Option.map_eq_some_iff.mp hi
          exact ⟨z, hz, e.symm⟩
        have hil : i < r.length := (List.getElem?_eq_some_iff.mp hz).1
        have edrop : r.drop i = z :: r.drop (i + 1) := by
          rw [List.drop_eq_getElem_cons hil]
          congr 1
          exact (List.getElem?_eq_some_iff.mp hz).2
        have p64 : (64 : Int) ^ i ≤ 4096 := by
          have : i ≤ 2 := by omega
          match i, this with
          | 0, _ => decide
          | 1, _ => decide
          | 2, _ => decide
        refine ⟨_, rfl, _, _, rfl, rfl, rfl, _, rfl, ite2 (fun q => ?_) (fun q => ?_)⟩
        · -- not a byte that goes on
          have q' : ¬ Builtin.bitAnd z 192 = 128 := by simpa using q
          have e : charNum n0 r = none := by rw [hc, edrop, charNum, if_neg q']
          have := kk (upd H p (.lst (r.map V.int))) sm
          rw [e] at this
          exact this
        · have q' : Builtin.bitAnd z 192 = 128 := by simpa using q
          have hm1 : 0 ≤ z % 64 := Int.emod_nonneg _ (by decide)
          have hm2 : z % 64 < 64 := Int.emod_lt_of_pos _ (by decide)
          refine ⟨_, rfl, _, _, rfl, rfl, .inl ⟨by omega, ?_⟩, _, rfl, _, _, rfl, rfl, (by show (0 : Int) < 64; decide), _, _, rfl, rfl, _, _, rfl, rfl, by omega, ?_, ?_⟩
          · show n < 2 ^ 64
            have : (2 : Int) ^ 64 = 18446744073709551616 := by decide
            omega
          · rw [Int.pow_succ]
            omega
          · rw [hc, edrop, charNum, if_pos q']
      · rintro σ H' ⟨n, v, rfl, rfl, hn0, hn1, hc⟩
        have hc' : charNum n0 r = some n := by
          rw [hc, List.length_map, List.drop_length, charNum]
        have kk' := kk (upd H p (.lst (r.map V.int))) sm
        rw [hc'] at kk'
        have kk' : Q (.bl (charOk (r.length + 1) n)) (upd H p (.lst (r.map V.int))) := kk'
        obtain ⟨lv, hlv, hat⟩ : ∃ lv, ([0, 0, 128, 2048, 65536] : List Int).getD (r.length + 1) 0 = lv ∧ atI [V.int 0, V.int 0, V.int 128, V.int 2048, V.int 65536] (((c :: r).map V.int).length : Int) = some (V.int lv) := by
          refine ⟨_, rfl, at_of (j := r.length + 1) (by simp) ?_⟩
          generalize r.length = m at hrl ⊢
          match m, hrl with
          | 0, _ => rfl
          | 1, _ => rfl
          | 2, _ => rfl
          | 3, _ => rfl
        unfold charOk at kk'
        rw [hlv] at kk'
        refine ⟨_, rfl, _, _, rfl, rfl, _, rfl, ite2 (fun q1 => ?_) (fun q1 => ?_)⟩
        · refine ⟨_, _, rfl, rfl, ?_⟩
          refine ⟨_, rfl, aL, _, _, _, rfl, rfl, sL _, hat, _, rfl, _, _, rfl, rfl, _, rfl, ite2 (fun q2 => ?_) (fun q2 => ?_)⟩
          · refine ⟨_, _, rfl, rfl, _, rfl, ite2 (fun q3 => ?_) (fun q3 => ?_)⟩
            · refine ⟨_, rfl, _, rfl, ?_⟩
              simp at q1 q2 q3
              simpa [q1, q2, q3] using kk'
            · simp at q1 q2 q3
              have : ¬ n ≤ 1114111 := by omega
              simpa [q1, q2, this] using kk'
          · refine ⟨_, rfl, iteF ?_⟩
            simp at q1 q2
            have : ¬ lv ≤ n := by omega
            simpa [this] using kk'
        · refine ⟨_, rfl, aL, _, _, _, rfl, rfl, sL _, hat, _, rfl, _, _, rfl, rfl, _, rfl, ite2 (fun q2 => ?_) (fun q2 => ?_)⟩
          · refine ⟨_, _, rfl, rfl, _, rfl, ite2 (fun q3 => ?_) (fun q3 => ?_)⟩
            · refine ⟨_, rfl, _, rfl, ?_⟩
              simp at q1 q2 q3
              have : ¬ 55296 ≤ n := by omega
              simpa [this, q2, q3] using kk'
            · simp at q1 q2 q3
              have : ¬ n ≤ 1114111 := by omega
              simpa [q2, this] using kk'
          · refine ⟨_, rfl, iteF ?_⟩
            simp at q1 q2
            have : ¬ lv ≤ n := by omega
            simpa [this] using kk'
    refine ⟨_, pss_cons (ps_set (i := 1) nd rfl (Or.inl rfl) (pe_callB call_len_seq rfl T.n_len PySem.boot_len (pa_cons (pv 0) pa_nil)))
      (pss_cons (ps_set (i := 2) nd rfl (Or.inl rfl) (pe_ifExp (pt_cmpR op_eq (pv 1) pe_int (nomark _)) (pe_ix ix_list (pv 0) pe_int (fun _ _ => rfl)) (pe_op op_and (pe_ix ix_list (pv 0) pe_int (fun _ _ => rfl)) (pe_op op_shr pe_int (pv 1))))) hR), ?_⟩
    have hc0 := hb c (List.mem_cons_self)
    refine ⟨_, rfl, a, _, rfl, .inl hS, _, rfl, rfl, _, rfl, ite2 (fun q => ?_) (fun q => ?_)⟩
    · have hr0 : r.length = 0 := by
        have q1 := of_decide_eq_true q
        injection q1 with q1
        simp at q1
        omega
      refine ⟨_, rfl, a, _, _, _, rfl, rfl, hS, atI_nat (j := 0) rfl, qR c hc0.1 (by omega) fun H' sm => ?_⟩
      have := k H' sm
      rw [isChar_cons, if_pos hr0] at this
      exact this
    · have hr0 : ¬ r.length = 0 := fun z => q (decide_eq_true (by simp [z]))
      have hbnd := bitAnd_bound c (127 / 2 ^ (r.length + 1)) hc0.1 (Int.ediv_nonneg (by decide) (Int.le_of_lt (Int.pow_pos (by decide))))
      refine ⟨_, rfl, a, _, _, _, rfl, rfl, hS, atI_nat (j := 0) rfl, _, rfl, _, _, rfl, rfl, ?_, _, _, rfl, rfl, ?_⟩
      · show (0 : Int) ≤ (((c :: r).map V.int).length : Nat)
        omega
      · have e : (127 : Int) / 2 ^ ((((c :: r).map V.int).length : Nat) : Int).toNat = 127 / 2 ^ (r.length + 1) := by simp
        rw [e]
        refine qR _ hbnd.1 (by omega) fun H' sm => ?_
        have := k H' sm
        rw [isChar_cons, if_neg hr0] at this
        exact this
end
end NP
end
section
set_option Elab.async false
set_option linter.all false
set_option maxRecDepth 100000
set_option maxHeartbeats 4000000
namespace NP
open PySem
abbrev oct (l : List Int) : List UInt8 := Sv68Neutral.octets l
def Byt (l : List Int) : Prop := ∀ n ∈ l, 0 ≤ n ∧ n ≤ 255
theorem oct_cons (c : Int) (r : List Int) : oct (c :: r) = UInt8.ofNat c.toNat :: oct r := rfl
theorem u8n {c : Int} (h : 0 ≤ c ∧ c ≤ 255) : (UInt8.ofNat c.toNat).toNat = c.toNat := by
  rw [UInt8.toNat_ofNat']
  omega
theorem and192 {b : Int} (h : 0 ≤ b ∧ b ≤ 255) : (Builtin.bitAnd b 192 = 128) ↔ (128 ≤ b ∧ b ≤ 191) := by
  have key : ∀ k : Fin 256, (k.val &&& 192 = 128) ↔ (128 ≤ k.val ∧ k.val ≤ 191) := by decide +kernel
  have e : Builtin.bitAnd b 192 = ((b.toNat &&& 192 : Nat) : Int) := PyProof.Rows.bitAnd_pp h.1 (by decide)
  have := key ⟨b.toNat, by omega⟩
  simp only at this
  rw [e]
  omega
def goU (c : UInt8) (lo hi : Nat) : Bool := decide (lo ≤ c.toNat) && decide (c.toNat ≤ hi)
theorem utf8_cons (a : UInt8) (r : List UInt8) : Wbk.utf8 (a :: r) =
    (if a.toNat < 0x80 then Wbk.utf8 r
    else if 0xC2 ≤ a.toNat ∧ a.toNat < 0xE0 then (match r with
      | b :: q => goU b 0x80 0xBF && Wbk.utf8 q
      | _ => false)
    else if 0xE0 ≤ a.toNat ∧ a.toNat < 0xF0 then (match r with
      | b :: c :: q => goU b (if a.toNat = 0xE0 then 0xA0 else 0x80) (if a.toNat = 0xED then 0x9F else 0xBF) && (goU c 0x80 0xBF && Wbk.utf8 q)
      | _ => false)
    else if 0xF0 ≤ a.toNat ∧ a.toNat < 0xF5 then (match r with
      | b :: c :: d :: q => goU b (if a.toNat = 0xF0 then 0x90 else 0x80) (if a.toNat = 0xF4 then 0x8F else 0xBF) && (goU c 0x80 0xBF && (goU d 0x80 0xBF && Wbk.utf8 q))
      | _ => false)
    else false) := by
  rw [Wbk.utf8.eq_def]
  rfl
theorem csize_1 {c : Int} (h : c < 128) : csize c = 1 := by unfold csize; rw [if_pos h]
theorem csize_0 {c : Int} (h : 128 ≤ c) (h2 : c < 192) : csize c = 0 := by unfold csize; rw [if_neg (by omega), if_pos h2]
theorem csize_2 {c : Int} (h : 192 ≤ c) (h2 : c < 224) : csize c = 2 := by unfold csize; rw [if_neg (by omega), if_neg (by omega), if_pos h2]
theorem csize_3 {c : Int} (h : 224 ≤ c) (h2 : c < 240) : csize c = 3 := by unfold csize; rw [if_neg (by omega), if_neg (by omega), if_neg (by omega), if_pos h2]
theorem csize_4 {c : Int} (h : 240 ≤ c) (h2 : c < 248) : csize c = 4 := by unfold csize; rw [if_neg (by omega), if_neg (by omega), if_neg (by omega), if_neg (by omega), if_pos h2]
theorem csize_9 {c : Int} (h : 248 ≤ c) : csize c = 0 := by unfold csize; rw [if_neg (by omega), if_neg (by omega), if_neg (by omega), if_neg (by omega), if_neg (by omega)]
theorem num_cons {n c : Int} {r : List Int} (h : 0 ≤ c ∧ c ≤ 255) : charNum n (c :: r) = if 128 ≤ c ∧ c ≤ 191 then charNum (n * 64 + c % 64) r else none := by
  rw [charNum]
  by_cases q : 128 ≤ c ∧ c ≤ 191
  · rw [if_pos q, if_pos ((and192 h).mpr q)]
  · rw [if_neg q, if_neg fun z => q ((and192 h).mp z)]
theorem goU_n {b : Int} (h : 0 ≤ b ∧ b ≤ 255) (lo hi : Nat) : goU (UInt8.ofNat b.toNat) lo hi = (decide ((lo : Int) ≤ b) && decide (b ≤ hi)) := by
  unfold goU
  rw [u8n h]
  congr 1
  · exact decide_eq_decide.mpr (by omega)
  · exact decide_eq_decide.mpr (by omega)
theorem bool_ext {a b : Bool} (h : a = true ↔ b = true) : a = b := by cases a <;> cases b <;> simp_all
theorem utf8_step {c : Int} {r : List Int} (hb : Byt (c :: r)) :
    (csize c = 0 ∨ (r.length : Int) + 1 < csize c → Wbk.utf8 (oct (c :: r)) = false) ∧
    (1 ≤ csize c → csize c ≤ (r.length : Int) + 1 → Wbk.utf8 (oct (c :: r)) = (isChar ((c :: r).take (csize c).toNat) && Wbk.utf8 (oct ((c :: r).drop (csize c).toNat)))) := by
  have hc := hb c List.mem_cons_self
  have hr : Byt r := fun n hn => hb n (List.mem_cons_of_mem _ hn)
  have U := utf8_cons (UInt8.ofNat c.toNat) (oct r)
  rw [u8n hc] at U
  rw [oct_cons]
  by_cases h1 : c < 128
  · rw [csize_1 h1]
    rw [if_pos (by omega)] at U
    refine ⟨by omega, fun _ _ => ?_⟩
    have : isChar [c] = true := by
      rw [isChar_cons]
      simp [charNum, charFin, charOk]
      omega
    show _ = (isChar [c] && _)
    rw [this, U]
    rfl
  rw [if_neg (by omega)] at U
  by_cases h2 : c < 192
  · rw [csize_0 (by omega) h2]
    rw [if_neg (by omega), if_neg (by omega), if_neg (by omega)] at U
    exact ⟨fun _ => U, by omega⟩
  by_cases h3 : c < 224
  · rw [csize_2 (by omega) h3]
    match r, hr, hb, U with
    | [], _, _, U =>
      refine ⟨fun _ => ?_, fun _ h => absurd h (by simp)⟩
      rw [U]
      by_cases q : 0xC2 ≤ c.toNat ∧ c.toNat < 0xE0
      · rw [if_pos q]
        rfl
      · rw [if_neg q, if_neg (by omega), if_neg (by omega)]
    | b :: q, hr, _, U =>
      have h0 := hr b List.mem_cons_self
      refine ⟨fun h => absurd h (by simp; omega), fun _ _ => ?_⟩
      show _ = (isChar [c, b] && Wbk.utf8 (oct q))
      have e : isChar [c, b] = (decide (194 ≤ c) && (decide (128 ≤ b) && decide (b ≤ 191))) := by
        have e1 : Builtin.bitAnd c (127 / 2 ^ ([b].length + 1)) = c % 32 := by
          rw [show (127 : Int) / 2 ^ ([b].length + 1) = 31 by simp]
          exact PyProof.Rows.bitAnd_m5 c
        rw [isChar_cons, if_neg (show ¬ [b].length = 0 by simp), e1, num_cons h0]
        apply bool_ext
        by_cases z : 128 ≤ b ∧ b ≤ 191
        · rw [if_pos z]
          simp [charNum, charFin, charOk]
          omega
        · rw [if_neg z]
          simp [charFin]
          omega
      rw [e, U, oct_cons]
      by_cases z : 0xC2 ≤ c.toNat ∧ c.toNat < 0xE0
      · rw [if_pos z]
        show (goU _ _ _ && _) = _
        rw [goU_n h0, decide_eq_true (show 194 ≤ c by omega)]
        rfl
      · rw [if_neg z, if_neg (by omega), if_neg (by omega), decide_eq_false (show ¬ 194 ≤ c by omega)]
        rfl
  by_cases h4 : c < 240
  · rw [csize_3 (by omega) h4]
    rw [if_neg (by omega), if_pos (by omega)] at U
    match r, hr, hb, U with
    | [], _, _, U => exact ⟨fun _ => U, fun _ h => absurd h (by simp)⟩
    | [_], _, _, U => exact ⟨fun _ => U, fun _ h => absurd h (by simp)⟩
    | b :: d :: q, hr, _, U =>
      have h0 := hr b (by simp)
      have hd := hr d (by simp)
      refine ⟨fun h => absurd h (by simp; omega), fun _ _ => ?_⟩
      show _ = (isChar [c, b, d] && Wbk.utf8 (oct q))
      have e : isChar [c, b, d] = ((decide (((if c.toNat = 0xE0 then 0xA0 else 0x80 : Nat) : Int) ≤ b) && decide (b ≤ ((if c.toNat = 0xED then 0x9F else 0xBF : Nat) : Int))) && (decide (128 ≤ d) && decide (d ≤ 191))) := by
        have e1 : Builtin.bitAnd c (127 / 2 ^ ([b, d].length + 1)) = c % 16 := by
          rw [show (127 : Int) / 2 ^ ([b, d].length + 1) = 15 by simp]
          exact PyProof.Rows.bitAnd_m4 c
        rw [isChar_cons, if_neg (show ¬ [b, d].length = 0 by simp), e1, num_cons h0, num_cons hd]
        apply bool_ext
        by_cases z : 128 ≤ b ∧ b ≤ 191
        · rw [if_pos z]
          by_cases y : 128 ≤ d ∧ d ≤ 191
          · rw [if_pos y]
            simp [charNum, charFin, charOk]
            split <;> split <;> omega
          · rw [if_neg y]
            simp [charFin]
            omega
        · rw [if_neg z]
          simp [charFin]
          split <;> split <;> omega
      rw [e, U, oct_cons, oct_cons]
      show (goU _ _ _ && (goU _ _ _ && _)) = _
      rw [goU_n h0, goU_n hd, ← Bool.and_assoc]
      rfl
  by_cases h5 : c < 248
  · rw [csize_4 (by omega) h5]
    rw [if_neg (by omega), if_neg (by omega)] at U
    match r, hr, hb, U with
    | [], _, _, U => exact ⟨fun _ => by rw [U]; split <;> rfl, fun _ h => absurd h (by simp)⟩
    | [_], _, _, U => exact ⟨fun _ => by rw [U]; split <;> rfl, fun _ h => absurd h (by simp)⟩
    | [_, _], _, _, U => exact ⟨fun _ => by rw [U]; split <;> rfl, fun _ h => absurd h (by simp)⟩
    | b :: d :: g :: q, hr, _, U =>
      have h0 := hr b (by simp)
      have hd := hr d (by simp)
      have hg := hr g (by simp)
      refine ⟨fun h => absurd h (by simp; omega), fun _ _ => ?_⟩
      show _ = (isChar [c, b, d, g] && Wbk.utf8 (oct q))
      have e : isChar [c, b, d, g] = (decide (c < 245) && ((decide (((if c.toNat = 0xF0 then 0x90 else 0x80 : Nat) : Int) ≤ b) && decide (b ≤ ((if c.toNat = 0xF4 then 0x8F else 0xBF : Nat) : Int))) && ((decide (128 ≤ d) && decide (d ≤ 191)) && (decide (128 ≤ g) && decide (g ≤ 191))))) := by
        have e1 : Builtin.bitAnd c (127 / 2 ^ ([b, d, g].length + 1)) = c % 8 := by
          rw [show (127 : Int) / 2 ^ ([b, d, g].length + 1) = 7 by simp]
          exact PyProof.Rows.bitAnd_m3 c
        rw [isChar_cons, if_neg (show ¬ [b, d, g].length = 0 by simp), e1, num_cons h0, num_cons hd, num_cons hg]
        apply bool_ext
        by_cases z : 128 ≤ b ∧ b ≤ 191
        · rw [if_pos z]
          by_cases y : 128 ≤ d ∧ d ≤ 191
          · rw [if_pos y]
            by_cases x : 128 ≤ g ∧ g ≤ 191
            · rw [if_pos x]
              simp [charNum, charFin, charOk]
              split <;> split <;> omega
            · rw [if_neg x]
              simp [charFin]
              omega
          · rw [if_neg y]
            simp [charFin]
            omega
        · rw [if_neg z]
          simp [charFin]
          split <;> split <;> omega
      rw [e, U, oct_cons, oct_cons, oct_cons]
      by_cases z : c < 245
      · rw [if_pos (by omega), decide_eq_true z]
        show (goU _ _ _ && (goU _ _ _ && (goU _ _ _ && _))) = _
        rw [goU_n h0, goU_n hd, goU_n hg]
        simp only [Bool.and_assoc, Bool.true_and]
        rfl
      · rw [if_neg (by omega), decide_eq_false z]
        rfl
  · rw [csize_9 (by omega)]
    rw [if_neg (by omega), if_neg (by omega), if_neg (by omega)] at U
    exact ⟨fun _ => U, by omega⟩
end NP
end
section
set_option Elab.async false
set_option linter.all false
set_option maxRecDepth 100000
set_option maxHeartbeats 1000000
namespace NP
open PySem PySem.Spec PyProof.Rows L2
theorem cutV_nat {xs : List V} {i j : Nat} (hij : i ≤ j) (hj : j ≤ xs.length) : cutV xs (some (i : Int)) (some (j : Int)) = (xs.drop i).take (j - i) := by
  unfold cutV
  rw [HT.sIx_nat, HT.sIx_nat, Nat.min_eq_left (Nat.le_trans hij hj), Nat.min_eq_left hj]
theorem Byt.drop {l : List Int} (h : Byt l) (i : Nat) : Byt (l.drop i) := fun n hn => h n (List.mem_of_mem_drop hn)
theorem Byt.take {l : List Int} (h : Byt l) (i : Nat) : Byt (l.take i) := fun n hn => h n (List.mem_of_mem_take hn)
theorem csize_le (c : Int) : 0 ≤ csize c ∧ csize c ≤ 4 := by
  unfold csize
  repeat' split
  all_goals omega
section
variable {P : Program} {w : World} {K : PySem.W.Frag} {mg : Str → Option Value} {base : Heap}
def spWell (K : PySem.W.Frag) : Sp := fun vs H Q _ => ∃ a ns, vs = [.ref a] ∧ SqL K H a (ns.map V.int) ∧ Byt ns ∧ ∀ H', Same H H' → Q (.bl (Wbk.utf8 (oct ns))) H'
abbrev sWell : Stmt := top 33
theorem scWell : FnScope ["codes", "at", "size"] ["codes"] (defScope sWell) := ⟨rfl, rfl, rfl, by decide +kernel, rfl, by decide +kernel, by decide +kernel⟩
theorem ok_well {f : Addr} {fd : FuncData} (T : TX P w K mg) (O_cs : Own P w K mg base CX0 1 "character_size" ["first"] spCsize) (O_ic : Own P w K mg base CX0 1 "is_character" ["codes"] (spIsChar K))
    (F : Fun K "is_well_made" "is_well_made" sWell f fd) : FnOk P w K mg base CX0 2 f fd ["codes"] (spWell K) := by
  refine F.ok scWell (fun vs H Q E h => ?_) (fun cdv A outer s H vs Q E hr h => ?_)
  · obtain ⟨a, ns, rfl, _⟩ := h
    rfl
  · obtain ⟨a, ns, rfl, hS, hb, k⟩ := h
    have nd := scWell.nd
    refine ⟨_, (pss_cons (ps_set (i := 1) nd rfl (Or.inl rfl) pe_int)
      (pss_cons (ps_while PassesOwn.never (pt_cmpR op_lt (pv 1) (pe_callB call_len_seq rfl T.n_len PySem.boot_len (pa_cons (pv 0) pa_nil)) (nomark _)) (pss_cons (ps_set (i := 2) nd rfl (Or.inl rfl) (pe_own O_cs (hr.mono (by decide)) pass0 (pa_cons (pe_ix ix_list (pv 0) (pv 1) (fun _ _ => rfl)) pa_nil)))
      (pss_cons (ps_if (PW.pt (pw_or (pt_cmpR op_eq (pv 2) pe_int (nomark _)) (pw_or (pt_cmpR op_gt (pe_op op_add (pv 1) (pv 2)) (pe_callB call_len_seq rfl T.n_len PySem.boot_len (pa_cons (pv 0) pa_nil)) (nomark _)) (pw_or1 (pt_not (pt_val (pe_own O_ic (hr.mono (by decide)) pass0 (pa_cons (pe_slice sl_list (pv 0) (po_some (pv 1)) (po_some (pe_op op_add (pv 1) (pv 2)))) pa_nil)))))))) (pss_one (ps_ret pe_bl)) pss_nil)
      (pss_one (ps_aug (i := 1) nd rfl (Or.inl rfl) (pv 2) ip_add)))))
      (pss_one (ps_ret pe_bl)))), ?_⟩
    refine while_by (fun σ H' => ∃ (j : Nat) (v : Option V), σ = [some (.ref a), some (.int j), v] ∧ Same H H' ∧ j ≤ ns.length ∧ Wbk.utf8 (oct ns) = Wbk.utf8 (oct (ns.drop j)))
      (fun σ _ => match σ with | [_, some (.int j), _] => ns.length - j.toNat | _ => 0) ⟨0, none, rfl, fun _ _ z => z, Nat.zero_le _, rfl⟩ ?_ ?_
    · rintro σ H' ⟨j, v, rfl, sm, hj, hu⟩
      have hS' := sm.seq hS
      refine ⟨_, rfl, _, rfl, a, _, rfl, .inl hS', _, _, rfl, rfl, _, rfl, ite2 (fun q => ?_) (fun q => ?_)⟩
      · have hlt : j < ns.length := by
          have := of_decide_eq_true q
          rw [List.length_map] at this
          omega
        obtain ⟨c, hc⟩ : ∃ c, ns[j]? = some c := ⟨_, List.getElem?_eq_getElem hlt⟩
        have ed : ns.drop j = c :: ns.drop (j + 1) := by
          rw [List.drop_eq_getElem_cons hlt]
          congr 1
          exact (List.getElem?_eq_some_iff.mp hc).2
        have hbd := hb.drop j
        rw [ed] at hbd hu
        obtain ⟨U0, U1⟩ := utf8_step hbd
        have hl : ((ns.drop (j + 1)).length : Int) + 1 = (ns.length : Int) - j := by
          rw [List.length_drop]
          omega
        rw [hl] at U0 U1
        have cl := csize_le c
        refine ⟨_, rfl, _, rfl, a, _, _, _, rfl, rfl, hS', atI_nat (j := j) (v := V.int c) (by rw [List.getElem?_map, hc]; rfl), c, rfl, ?_⟩
        refine ⟨_, rfl, rfl, _, rfl, ite2 (fun q0 => ?_) (fun q0 => ?_)⟩
        · have e0 : csize c = 0 := by
            have := of_decide_eq_true q0
            injection this
          refine iteT ?_
          have kk := k H' sm
          rw [hu, U0 (.inl e0)] at kk
          exact kk
        · have e0 : ¬ csize c = 0 := fun z => q0 (by rw [z]; rfl)
          refine ⟨_, rfl, _, rfl, _, _, rfl, rfl, _, rfl, a, _, rfl, .inl hS', _, _, rfl, rfl, _, rfl, ite2 (fun q1 => ?_) (fun q1 => ?_)⟩
          · have e1 : (ns.length : Int) < j + csize c := by
              have := of_decide_eq_true q1
              rw [List.length_map] at this
              exact this
            refine iteT ?_
            have kk := k H' sm
            rw [hu, U0 (.inr (by omega))] at kk
            exact kk
          · have e1 : (j : Int) + csize c ≤ ns.length := by
              have z : ¬ _ := fun z => q1 (decide_eq_true z)
              rw [List.length_map] at z
              omega
            have U2 := U1 (by omega) (by omega)
            obtain ⟨m, hm⟩ : ∃ m : Nat, csize c = (m : Int) := ⟨(csize c).toNat, by omega⟩
            rw [hm] at e1 e0 U2 cl ⊢
            rw [Int.toNat_natCast] at U2
            refine ⟨_, rfl, _, rfl, (j : Int), rfl, _, rfl, _, rfl, _, _, rfl, rfl, (j : Int) + m, rfl, a, _, rfl, hS', fun p hp => ?_⟩
            have ec : cutV (ns.map V.int) (some (j : Int)) (some ((j : Int) + m)) = ((c :: ns.drop (j + 1)).take m).map V.int := by
              have := cutV_nat (xs := ns.map V.int) (i := j) (j := j + m) (by omega) (by rw [List.length_map]; omega)
              rw [show ((j + m : Nat) : Int) = (j : Int) + m by omega] at this
              rw [this, ← ed, List.map_take, List.map_drop, Nat.add_sub_cancel_left]
            rw [ec]
            have sm2 : Same H' (upd H' p (.lst (((c :: ns.drop (j + 1)).take m).map V.int))) := fun b o e => by rw [upd_ne (ne_of_none e hp)]; exact e
            have lt : ((c :: ns.drop (j + 1)).take m).length = m := by
              rw [List.length_take, List.length_cons]
              have : (ns.drop (j + 1)).length + 1 = ns.length - j := by rw [List.length_drop]; omega
              omega
            refine ⟨p, _, rfl, SqL.of upd_same, by omega, by omega, hbd.take m, fun H2 sm3 => ?_⟩
            have smT : Same H H2 := (sm.trans sm2).trans sm3
            refine ⟨_, rfl, ite2 (fun q2 => ?_) (fun q2 => ?_)⟩
            · have e2 : isChar ((c :: ns.drop (j + 1)).take m) = false := by simpa using q2
              have kk := k H2 smT
              rw [hu, U2, e2] at kk
              exact kk
            · have e2 : isChar ((c :: ns.drop (j + 1)).take m) = true := by simpa using q2
              rw [e2, Bool.true_and] at U2
              refine ⟨_, rfl, _, rfl, _, _, rfl, rfl, ⟨j + m, some (V.int m), ?_, smT, by omega, ?_⟩, ?_⟩
              · show _ = [_, some (V.int ((j + m : Nat) : Int)), _]
                rw [show ((j + m : Nat) : Int) = (j : Int) + m by omega]
                rfl
              · rw [hu, U2, ← ed, List.drop_drop]
              · show ns.length - ((j : Int) + m).toNat < ns.length - (j : Int).toNat
                omega
      · have hge : ns.length ≤ j := by
          have z : ¬ _ := fun z => q (decide_eq_true z)
          rw [List.length_map] at z
          omega
        have kk := k H' sm
        rw [hu, List.drop_eq_nil_of_le hge] at kk
        exact kk
    · rintro σ H' Q1 Q2 hq ⟨v, e, v2, e2, a2, xs, e3, h4, i, i2, e5, e6, z, e7, q⟩
      exact ⟨v, e, v2, e2, a2, xs, e3, h4, i, i2, e5, e6, z, e7, hq _ _ q⟩
end
end NP
end
section
set_option Elab.async false
set_option linter.all false
set_option maxRecDepth 100000
set_option maxHeartbeats 1000000
namespace NP
open PySem PySem.Spec PyProof.Rows L2
def lowI (n : Int) : Int := if 65 ≤ n ∧ n ≤ 90 then n + 32 else n
def codesI (z : Str) : List Int := z.cps.toList.map fun (c : Nat) => (c : Int)
section
variable {P : Program} {w : World} {K : PySem.W.Frag} {mg : Str → Option Value} {base : Heap}
def spSmall : Sp := fun vs H Q _ => ∃ n, vs = [.int n] ∧ Q (.int (lowI n)) H
abbrev sSmall : Stmt := top 19
theorem scSmall : FnScope ["code"] ["code"] (defScope sSmall) := ⟨rfl, rfl, rfl, by decide +kernel, rfl, by decide +kernel, by decide +kernel⟩
theorem ok_small {f : Addr} {fd : FuncData} (T : TX P w K mg) (F : Fun K "small" "small" sSmall f fd) : FnOk P w K mg base CX0 1 f fd ["code"] spSmall := by
  refine F.ok scSmall (fun vs H Q E h => ?_) (fun cdv A outer s H vs Q E hr h => ?_)
  · obtain ⟨n, rfl, _⟩ := h
    rfl
  · obtain ⟨n, rfl, k⟩ := h
    refine ⟨_, (pss_one (ps_ret (pe_ifExp (pt_chain op_le op_le (pe_gi T.c_LARGE_A) (pv 0) (pe_gi T.c_LARGE_Z)) (pe_op op_add (pv 0) pe_int) (pv 0)))), ?_⟩
    unfold lowI at k
    refine ⟨_, rfl, _, _, rfl, rfl, _, rfl, ite2 (fun q1 => ?_) (fun q1 => ?_)⟩
    · have q1 := of_decide_eq_true q1
      refine ⟨_, _, rfl, rfl, _, rfl, ite2 (fun q2 => ?_) (fun q2 => ?_)⟩
      · have q2 := of_decide_eq_true q2
        rw [if_pos ⟨q1, q2⟩] at k
        exact ⟨_, rfl, _, _, rfl, rfl, k⟩
      · have q2 : ¬ n ≤ 90 := fun z => q2 (decide_eq_true z)
        rw [if_neg fun z => q2 z.2] at k
        exact ⟨_, rfl, k⟩
    · have q1 : ¬ 65 ≤ n := fun z => q1 (decide_eq_true z)
      rw [if_neg fun z => q1 z.1] at k
      exact ⟨_, rfl, iteF ⟨_, rfl, k⟩⟩
def spCodes : Sp := fun vs H Q _ => ∃ z, vs = [.str z] ∧ z.length ≤ 100 ∧ ∀ p, H p = none → Q (.ref p) (upd H p (.lst ((codesI z).map V.int)))
abbrev sCodes : Stmt := top 20
theorem scCodes : FnScope ["word", "sign"] ["word"] (defScope sCodes) := ⟨rfl, rfl, rfl, by decide +kernel, rfl, by decide +kernel, by decide +kernel⟩
theorem ok_codes {f : Addr} {fd : FuncData} (T : TX P w K mg) (F : Fun K "codes_of" "codes_of" sCodes f fd) : FnOk P w K mg base CX0 1 f fd ["word"] spCodes := by
  refine F.ok scCodes (fun vs H Q E h => ?_) (fun cdv A outer s H vs Q E hr h => ?_)
  · obtain ⟨n, rfl, _⟩ := h
    rfl
  · obtain ⟨z, rfl, hz, k⟩ := h
    have nd := scCodes.nd
    refine ⟨_, (pss_one (ps_ret (pe_lc rfl nd (pi_str (pv 0)) (blkOk_by (N := ["word", "sign"]) (sc := defScope sCodes) (own := [("sign", 1)]) (by decide +kernel)) (fun _ _ _ _ _ => pg_name (i := 1) nd rfl (Or.inl rfl) (.inr rfl)) (fun _ _ _ _ _ => pts_nil) (fun _ _ _ _ _ => (pe_callB call_ord rfl T.n_ord (by decide +kernel) (pa_cons (pv 1) pa_nil)))))), ?_⟩
    refine ⟨_, rfl, z, rfl, fun D hD => lc_plain (plain_str z) (fun i H' => H' = upd H D (.lst (((codesI z).take i).map V.int))) rfl ?_ ?_⟩
    · rintro i x H' hx rfl
      rw [List.getElem?_map] at hx
      obtain ⟨c, hc, rfl⟩ := Option.map_eq_some_iff.mp hx
      refine ⟨rfl, _, rfl, _, rfl, rfl, _, upd_same, ?_, ?_⟩
      · rw [List.length_map, List.length_take]
        have : (codesI z).length ≤ 100 := by unfold codesI; rw [List.length_map, Array.length_toList]; exact hz
        exact small1000 (by omega)
      · rw [upd_upd]
        have e : (codesI z).take (i + 1) = (codesI z).take i ++ [(c : Int)] := by
          rw [List.take_succ, show (codesI z)[i]? = some (c : Int) by unfold codesI; rw [List.getElem?_map, hc]; rfl]
          rfl
        rw [e, List.map_append]
        rfl
    · rintro H' rfl
      have e : (codesI z).take (z.cps.toList.map fun c => V.str ⟨#[c]⟩).length = codesI z := List.take_of_length_le (by unfold codesI; simp)
      rw [e]
      exact k D hD
def begI (ns : List Int) (i : Nat) (z : Str) : Bool := decide (((ns.drop i).take z.length).map lowI = codesI z)
def spBegins (K : PySem.W.Frag) : Sp := fun vs H Q _ => ∃ a ns, ∃ (i : Nat) (z : Str), vs = [.ref a, .int i, .str z] ∧ SqL K H a (ns.map V.int) ∧ i ≤ ns.length ∧ z.length ≤ 100 ∧ ∀ H', Same H H' → Q (.bl (begI ns i z)) H'
abbrev sBegins : Stmt := top 21
theorem scBegins : FnScope ["codes", "at", "word", "code"] ["codes", "at", "word"] (defScope sBegins) := ⟨rfl, rfl, rfl, by decide +kernel, rfl, by decide +kernel, by decide +kernel⟩
theorem cut_ints {ns : List Int} {i m : Nat} (hi : i ≤ ns.length) : cutV (ns.map V.int) (some (i : Int)) (some ((i : Int) + m)) = ((ns.drop i).take m).map V.int := by
  unfold cutV
  have e1 := HT.sIx_nat (ns.map V.int).length 0 i
  have e2 := HT.sIx_nat (ns.map V.int).length (ns.map V.int).length (i + m)
  rw [show ((i + m : Nat) : Int) = (i : Int) + m by omega] at e2
  rw [e1, e2, List.length_map, Nat.min_eq_left hi, List.map_take, List.map_drop]
  by_cases h : i + m ≤ ns.length
  · rw [Nat.min_eq_left h, Nat.add_sub_cancel_left]
  · rw [Nat.min_eq_right (by omega), List.take_of_length_le (by simp), List.take_of_length_le (by simp; omega)]
theorem ok_begins {f : Addr} {fd : FuncData} (T : TX P w K mg) (O_small : Own P w K mg base CX0 1 "small" ["code"] spSmall) (O_codes : Own P w K mg base CX0 1 "codes_of" ["word"] spCodes) (F : Fun K "begins_with" "begins_with" sBegins f fd) :
    FnOk P w K mg base CX0 2 f fd ["codes", "at", "word"] (spBegins K) := by
  refine F.ok scBegins (fun vs H Q E h => ?_) (fun cdv A outer s H vs Q E hr h => ?_)
  · obtain ⟨a, ns, i, z, rfl, _⟩ := h
    rfl
  · obtain ⟨a, ns, i, z, rfl, hS, hi, hz, k⟩ := h
    have nd := scBegins.nd
    have hu64 := hr.units
    refine ⟨_, (pss_one (ps_ret (pe_cmpR (op_eqD hu64) (pe_lc rfl nd (pi_list (pe_slice sl_list (pv 0) (po_some (pv 1)) (po_some (pe_op op_add (pv 1) (pe_callB call_len_str rfl T.n_len PySem.boot_len (pa_cons (pv 2) pa_nil)))))) (blkOk_by (N := ["codes", "at", "word", "code"]) (sc := defScope sBegins) (own := [("code", 3)]) (by decide +kernel))
      (fun _ _ _ _ _ => pg_name (i := 3) nd rfl (Or.inl rfl) (.inr rfl)) (fun _ _ _ _ _ => pts_nil) (fun _ _ _ _ _ => (pe_own O_small (hr.mono (by decide)) pass0 (pa_cons (pv 3) pa_nil)))) (pe_own O_codes (hr.mono (by decide)) pass0 (pa_cons (pv 2) pa_nil)) (nomark _)))), ?_⟩
    have hzs : z.length ≤ sizeLine := Nat.le_of_lt (small1000 (by omega))
    refine ⟨_, rfl, _, rfl, (i : Int), rfl, _, rfl, _, rfl, z, rfl, hzs, _, _, rfl, rfl, (i : Int) + z.length, rfl, a, _, rfl, hS, fun p hp => ?_⟩
    rw [cut_ints hi]
    generalize hl : (ns.drop i).take z.length = l
    have hll : l.length ≤ 100 := by rw [← hl, List.length_take]; omega
    refine ⟨p, rfl, ⟨_, SqL.of upd_same⟩, fun D hD => lc_list (K := K) (a := p) (xs := l.map V.int) (fun j H' => H' = upd (upd H p (.lst (l.map V.int))) D (.lst (((l.map lowI).take j).map V.int))) rfl ?_ ?_ ?_⟩
    · rintro j H' _ rfl
      have : p ≠ D := ne_of_none upd_same hD
      exact SqL.of (by rw [upd_ne this, upd_same])
    · rintro j x H' hx rfl
      rw [List.getElem?_map] at hx
      obtain ⟨c, hc, rfl⟩ := Option.map_eq_some_iff.mp hx
      refine ⟨rfl, _, rfl, c, rfl, _, upd_same, ?_, ?_⟩
      · rw [List.length_map, List.length_take, List.length_map]
        exact small1000 (by omega)
      · rw [upd_upd]
        have e : (l.map lowI).take (j + 1) = (l.map lowI).take j ++ [lowI c] := by
          rw [List.take_succ, show (l.map lowI)[j]? = some (lowI c) by rw [List.getElem?_map, hc]; rfl]
          rfl
        rw [e, List.map_append]
        rfl
    · rintro H' rfl
      have e : (l.map lowI).take (l.map V.int).length = l.map lowI := List.take_of_length_le (by simp)
      rw [e]
      refine ⟨_, rfl, z, rfl, hz, fun q hq => ?_⟩
      have hDq : D ≠ q := ne_of_none upd_same hq
      refine ⟨_, _, dp_ints (l := l.map lowI) (SqL.of (by rw [upd_ne hDq, upd_same])), dp_ints (l := codesI z) (SqL.of upd_same), shaped_ints _, shaped_ints _, ?_⟩
      rw [eqv_ints]
      have kk := k (upd (upd (upd H p (.lst (l.map V.int))) D (.lst ((l.map lowI).map V.int))) q (.lst ((codesI z).map V.int))) (((Same.upd hp).trans (Same.upd hD)).trans (Same.upd hq))
      unfold begI at kk
      rw [hl] at kk
      exact kk
end
end NP
end
section
set_option Elab.async false
set_option linter.all false
set_option maxRecDepth 100000
set_option maxHeartbeats 1000000
namespace NP
open PySem PySem.Spec PyProof.Rows L2
open Sv68 (isDigit lower)
abbrev Bytes := List UInt8
def bi (b : Bytes) : List Int := b.map fun c => (c.toNat : Int)
abbrev bv (b : Bytes) : List V := (bi b).map V.int
theorem bi_length (b : Bytes) : (bi b).length = b.length := List.length_map ..
theorem bv_length (b : Bytes) : (bv b).length = b.length := by simp [bi_length]
theorem bi_byt (b : Bytes) : Byt (bi b) := fun n hn => by
  obtain ⟨c, _, rfl⟩ := List.mem_map.mp hn
  have := c.toNat_lt
  omega
theorem oct_bi (b : Bytes) : oct (bi b) = b := by
  unfold oct Sv68Neutral.octets bi
  rw [List.map_map]
  conv => rhs; rw [← List.map_id b]
  refine List.map_congr_left fun c _ => ?_
  show UInt8.ofNat ((c.toNat : Int)).toNat = c
  rw [Int.toNat_natCast]
  exact UInt8.ofNat_toNat
theorem bi_oct {ns : List Int} (h : Byt ns) : bi (oct ns) = ns := by
  unfold oct Sv68Neutral.octets bi
  rw [List.map_map]
  conv => rhs; rw [← List.map_id ns]
  refine List.map_congr_left fun c hc => ?_
  show (((UInt8.ofNat c.toNat).toNat : Nat) : Int) = c
  rw [u8n (h c hc)]
  have := h c hc
  omega
theorem bi_inj {a b : Bytes} (h : bi a = bi b) : a = b := by rw [← oct_bi a, ← oct_bi b, h]
theorem bv_get {b : Bytes} {i : Nat} {c : UInt8} (h : b[i]? = some c) : (bv b)[i]? = some (V.int (c.toNat : Int)) := by
  unfold bv bi
  rw [List.getElem?_map, List.getElem?_map, h]
  rfl
theorem bv_got {b : Bytes} {i : Nat} {y : V} (h : (bv b)[i]? = some y) : ∃ c, b[i]? = some c ∧ y = V.int (c.toNat : Int) := by
  unfold bv bi at h
  rw [List.getElem?_map, List.getElem?_map] at h
  cases e : b[i]? with
  | none =>
    rw [e] at h
    cases h
  | some c =>
    rw [e] at h
    exact ⟨c, rfl, (Option.some.inj h).symm⟩
theorem cut_nat (xs : List V) (i j : Nat) : cutV xs (some (i : Int)) (some (j : Int)) = (xs.drop i).take (j - i) := by
  unfold cutV
  rw [HT.sIx_nat, HT.sIx_nat]
  by_cases hi : i ≤ xs.length
  · rw [Nat.min_eq_left hi]
    by_cases hj : j ≤ xs.length
    · rw [Nat.min_eq_left hj]
    · rw [Nat.min_eq_right (by omega), List.take_of_length_le (by simp), List.take_of_length_le (by simp; omega)]
  · rw [show min i xs.length = xs.length by omega, List.drop_of_length_le (Nat.le_refl _), List.drop_of_length_le (by omega)]
    simp
theorem cut_from (xs : List V) (i : Nat) : cutV xs (some (i : Int)) none = xs.drop i := by
  have h := cut_nat xs i xs.length
  have e : cutV xs (some (i : Int)) none = cutV xs (some (i : Int)) (some (xs.length : Int)) := by
    unfold cutV
    rw [HT.sIx_nat xs.length xs.length xs.length, Nat.min_self]
    rfl
  rw [e, h]
  exact List.take_of_length_le (by simp)
theorem cut_to (xs : List V) (j : Nat) : cutV xs none (some (j : Int)) = xs.take j := by
  have h := cut_nat xs 0 j
  have e : cutV xs none (some (j : Int)) = cutV xs (some ((0 : Nat) : Int)) (some (j : Int)) := by
    unfold cutV
    rw [HT.sIx_nat xs.length 0 0, Nat.zero_min]
    rfl
  rw [e, h]
  rfl
theorem bv_drop (b : Bytes) (i : Nat) : (bv b).drop i = bv (b.drop i) := by unfold bv bi; rw [List.map_drop, List.map_drop]
theorem bv_take (b : Bytes) (i : Nat) : (bv b).take i = bv (b.take i) := by unfold bv bi; rw [List.map_take, List.map_take]
theorem bcut (b : Bytes) (i j : Nat) : cutV (bv b) (some (i : Int)) (some (j : Int)) = bv ((b.drop i).take (j - i)) := by rw [cut_nat, bv_drop, bv_take]
theorem bcut_from (b : Bytes) (i : Nat) : cutV (bv b) (some (i : Int)) none = bv (b.drop i) := by rw [cut_from, bv_drop]
theorem bcut_to (b : Bytes) (j : Nat) : cutV (bv b) none (some (j : Int)) = bv (b.take j) := by rw [cut_to, bv_take]
theorem drop_get {α : Type} {b : List α} {i : Nat} {c : α} (h : b[i]? = some c) : b.drop i = c :: b.drop (i + 1) := by
  obtain ⟨hl, e⟩ := List.getElem?_eq_some_iff.mp h
  rw [List.drop_eq_getElem_cons hl, e]
theorem u8_eq {a b : UInt8} : a = b ↔ ((a.toNat : Int) = (b.toNat : Int)) := by
  rw [Int.ofNat_inj]
  exact ⟨fun h => by rw [h], UInt8.toNat_inj.mp⟩
theorem low_lower (c : UInt8) : lowI (c.toNat : Int) = ((lower c).toNat : Int) := by
  have key : ∀ k : Fin 256, lowI (k.val : Int) = ((lower (UInt8.ofNat k.val)).toNat : Int) := by decide +kernel
  have := key ⟨c.toNat, c.toNat_lt⟩
  simp only [UInt8.ofNat_toNat] at this
  exact this
theorem dig_iff (c : UInt8) : isDigit c = true ↔ (48 ≤ (c.toNat : Int) ∧ (c.toNat : Int) ≤ 57) := by
  unfold isDigit
  simp
  omega
section
variable {P : Program} {w : World} {K : PySem.W.Frag} {mg : Str → Option Value} {base : Heap}
def digEnd (b : Bytes) (i : Nat) : Nat := i + ((b.drop i).takeWhile isDigit).length
abbrev sEod : Stmt := top 22
def spEod (K : PySem.W.Frag) : Sp := fun vs H Q _ => ∃ a b, ∃ (i : Nat), vs = [.ref a, .int i] ∧ SqL K H a (bv b) ∧ i ≤ b.length ∧ Q (.int (digEnd b i)) H
theorem scEod : FnScope ["codes", "begin", "end"] ["codes", "begin"] (defScope sEod) := ⟨rfl, rfl, rfl, by decide +kernel, rfl, by decide +kernel, by decide +kernel⟩
theorem ok_eod {f : Addr} {fd : FuncData} (T : TX P w K mg) (F : Fun K "end_of_digits" "end_of_digits" sEod f fd) : FnOk P w K mg base CX0 1 f fd ["codes", "begin"] (spEod K) := by
  refine F.ok scEod (fun vs H Q E h => ?_) (fun cdv A outer s H vs Q E hr h => ?_)
  · obtain ⟨a, b, i, rfl, _⟩ := h
    rfl
  · obtain ⟨a, b, i, rfl, hS, hi, k⟩ := h
    have nd := scEod.nd
    refine ⟨_, (pss_cons (ps_set (i := 2) nd rfl (Or.inl rfl) (pv 1))
      (pss_cons (ps_while PassesOwn.never (PW.pt (pw_and (pt_cmpR op_lt (pv 2) (pe_callB call_len_seq rfl T.n_len PySem.boot_len (pa_cons (pv 0) pa_nil)) (nomark _)) (pw_and1 (pt_chain op_le op_le (pe_gi T.c_ZERO) (pe_ix ix_list (pv 0) (pv 2) (fun _ _ => rfl)) (pe_gi T.c_NINE))))) (pss_one (ps_aug (i := 2) nd rfl (Or.inl rfl) pe_int ip_add)))
      (pss_one (ps_ret (pv 2))))), ?_⟩
    refine ⟨_, rfl, ?_⟩
    refine ⟨fun m σ H' => ∃ j : Nat, σ = [some (.ref a), some (.int i), some (.int j)] ∧ H = H' ∧ j ≤ b.length ∧ digEnd b j = digEnd b i ∧ m = b.length - j, ⟨_, i, rfl, rfl, hi, rfl, rfl⟩, ?_⟩
    rintro m σ H' ⟨j, rfl, rfl, hj, hd, rfl⟩
    refine ⟨_, rfl, _, rfl, a, _, rfl, .inl hS, _, _, rfl, rfl, _, rfl, ite2 (fun q => ?_) (fun q => ?_)⟩
    · have hlt : j < b.length := by
        have := of_decide_eq_true q
        rw [bv_length] at this
        omega
      obtain ⟨c, hc⟩ : ∃ c, b[j]? = some c := ⟨_, List.getElem?_eq_getElem hlt⟩
      have ed := drop_get hc
      have stop : isDigit c = false → Q (.int j) H := fun z => by
        have : digEnd b j = j := by
          unfold digEnd
          rw [ed, List.takeWhile_cons, z]
          rfl
        rw [← hd, this] at k
        exact k
      refine ⟨_, rfl, _, rfl, a, _, _, _, rfl, rfl, hS, atI_nat (bv_get hc), _, _, rfl, rfl, _, rfl, ite2 (fun q1 => ?_) (fun q1 => ?_)⟩
      · have q1 : (48 : Int) ≤ c.toNat := of_decide_eq_true q1
        refine ⟨_, _, rfl, rfl, _, rfl, ite2 (fun q2 => ?_) (fun q2 => ?_)⟩
        · have q2 : (c.toNat : Int) ≤ 57 := of_decide_eq_true q2
          refine ⟨_, fun σ' H' z => z, _, rfl, _, _, rfl, rfl, b.length - (j + 1), by omega, j + 1, rfl, rfl, hlt, ?_, rfl⟩
          rw [← hd]
          unfold digEnd
          rw [ed, List.takeWhile_cons, if_pos ((dig_iff c).mpr ⟨q1, q2⟩), List.length_cons]
          omega
        · have q2 : ¬ (c.toNat : Int) ≤ 57 := fun z => q2 (decide_eq_true z)
          exact ⟨_, rfl, stop (by rw [Bool.eq_false_iff]; exact fun z => q2 ((dig_iff c).mp z).2)⟩
      · have q1 : ¬ (48 : Int) ≤ c.toNat := fun z => q1 (decide_eq_true z)
        exact ⟨_, rfl, iteF ⟨_, rfl, stop (by rw [Bool.eq_false_iff]; exact fun z => q1 ((dig_iff c).mp z).1)⟩⟩
    · have hge : b.length ≤ j := by
        have : ¬ (j : Int) < ((bv b).length : Int) := fun z => q (decide_eq_true z)
        rw [bv_length] at this
        omega
      refine iteF ⟨_, rfl, ?_⟩
      have : digEnd b j = j := by
        unfold digEnd
        rw [List.drop_of_length_le hge]
        rfl
      rw [← hd, this] at k
      exact k
abbrev sAred : Stmt := top 23
def areDig (b : Bytes) (lo hi : Nat) : Bool := decide (lo ≤ b.length) && (decide (b.length ≤ hi) && b.all isDigit)
def spAred (K : PySem.W.Frag) : Sp := fun vs H Q _ => ∃ a b, ∃ (lo hi : Nat), vs = [.ref a, .int lo, .int hi] ∧ SqL K H a (bv b) ∧ Q (.bl (areDig b lo hi)) H
theorem scAred : FnScope ["codes", "least", "most"] ["codes", "least", "most"] (defScope sAred) := ⟨rfl, rfl, rfl, by decide +kernel, rfl, by decide +kernel, by decide +kernel⟩
theorem takeWhile_all {α : Type} (p : α → Bool) : ∀ l : List α, (l.takeWhile p).length = l.length ↔ l.all p = true
  | [] => by simp
  | a :: l => by
    rw [List.takeWhile_cons, List.all_cons]
    cases h : p a with
    | true => simpa using takeWhile_all p l
    | false => simp
theorem ok_ared {f : Addr} {fd : FuncData} (T : TX P w K mg) (O_eod : Own P w K mg base CX0 1 "end_of_digits" ["codes", "begin"] (spEod K)) (F : Fun K "are_digits" "are_digits" sAred f fd) : FnOk P w K mg base CX0 2 f fd ["codes", "least", "most"] (spAred K) := by
  refine F.ok scAred (fun vs H Q E h => ?_) (fun cdv A outer s H vs Q E hr h => ?_)
  · obtain ⟨a, b, lo, hi, rfl, _⟩ := h
    rfl
  · obtain ⟨a, b, lo, hi, rfl, hS, k⟩ := h
    refine ⟨_, (pss_one (ps_ret (pe_and (pe_chain op_le op_le (pv 1) (pe_callB call_len_seq rfl T.n_len PySem.boot_len (pa_cons (pv 0) pa_nil)) (pv 2)) (pe_one (pe_cmpR op_eq (pe_own O_eod (hr.mono (by decide)) pass0 (pa_cons (pv 0) (pa_cons pe_int pa_nil))) (pe_callB call_len_seq rfl T.n_len PySem.boot_len (pa_cons (pv 0) pa_nil)) (nomark _)))))), ?_⟩
    unfold areDig at k
    refine ⟨_, rfl, _, rfl, a, _, rfl, .inl hS, _, _, rfl, rfl, _, rfl, ite2 (fun q => ?_) (fun q => ?_)⟩
    · have q1 : lo ≤ b.length := by
        have := of_decide_eq_true q
        rw [bv_length] at this
        omega
      rw [decide_eq_true q1, Bool.true_and] at k
      refine ⟨_, rfl, _, _, rfl, rfl, _, rfl, ite2 (fun q => ?_) (fun q => ?_)⟩
      · have q2 : b.length ≤ hi := by
          have := of_decide_eq_true q
          rw [bv_length] at this
          omega
        rw [decide_eq_true q2, Bool.true_and] at k
        refine ⟨_, rfl, a, b, 0, rfl, hS, Nat.zero_le _, _, rfl, a, _, rfl, .inl hS, rfl, ?_⟩
        have e : decide (V.int ((digEnd b 0 : Nat) : Int) = V.int (((bv b).length : Nat) : Int)) = b.all isDigit := by
          rw [Bool.eq_iff_iff, decide_eq_true_iff, ← takeWhile_all, bv_length]
          unfold digEnd
          rw [List.drop_zero, Nat.zero_add]
          exact ⟨fun z => Int.ofNat_inj.mp (V.int.inj z), fun z => by rw [z]⟩
        rw [← e] at k
        exact k
      · have q2 : ¬ b.length ≤ hi := fun z => q (decide_eq_true (by rw [bv_length]; omega))
        rw [decide_eq_false q2, Bool.false_and] at k
        exact k
    · have q1 : ¬ lo ≤ b.length := fun z => q (decide_eq_true (by rw [bv_length]; omega))
      rw [decide_eq_false q1, Bool.false_and] at k
      exact ⟨_, rfl, iteF k⟩
abbrev sNumof : Stmt := top 25
def spNumof (K : PySem.W.Frag) : Sp := fun vs H Q _ => ∃ a b, vs = [.ref a] ∧ SqL K H a (bv b) ∧ b.all isDigit = true ∧ Q (.int (Sv68.number b)) H
theorem scNumof : FnScope ["digits", "number", "digit"] ["digits"] (defScope sNumof) := ⟨rfl, rfl, rfl, by decide +kernel, rfl, by decide +kernel, by decide +kernel⟩
theorem number_snoc (b : Bytes) (c : UInt8) : Sv68.number (b ++ [c]) = 10 * Sv68.number b + (c.toNat - 48) := by
  unfold Sv68.number
  rw [List.foldl_append]
  rfl
theorem take_snoc {α : Type} {l : List α} {i : Nat} {x : α} (h : l[i]? = some x) : l.take (i + 1) = l.take i ++ [x] := by
  rw [List.take_succ, h]
  rfl
theorem ok_numof {f : Addr} {fd : FuncData} (T : TX P w K mg) (F : Fun K "number_of" "number_of" sNumof f fd) : FnOk P w K mg base CX0 1 f fd ["digits"] (spNumof K) := by
  refine F.ok scNumof (fun vs H Q E h => ?_) (fun cdv A outer s H vs Q E hr h => ?_)
  · obtain ⟨a, b, rfl, _⟩ := h
    rfl
  · obtain ⟨a, b, rfl, hS, hd, k⟩ := h
    have nd := scNumof.nd
    refine ⟨_, (pss_cons (ps_set (i := 1) nd rfl (Or.inl rfl) pe_int)
      (pss_cons (ps_for PassesOwn.never rfl (pi_list (pv 0)) (pg_name (i := 2) nd rfl (Or.inl rfl)) (pss_one (ps_set (i := 1) nd rfl (Or.inl rfl) (pe_op op_sub (pe_op op_add (pe_op op_mul (pv 1) pe_int) (pv 2)) (pe_gi T.c_ZERO)))))
      (pss_one (ps_ret (pv 1))))), ?_⟩
    refine ⟨_, rfl, a, rfl, ⟨_, hS⟩, for_list (K := K) (a := a) (xs := bv b) (fun i σ H' => ∃ v : Option V, σ = [some (.ref a), some (.int (Sv68.number (b.take i) : Nat)), v] ∧ H = H') ⟨none, rfl, rfl⟩ (fun i σ H' _ ⟨_, _, e⟩ => e ▸ hS) ?_ ?_⟩
    · rintro i y σ H' hy ⟨v, rfl, rfl⟩
      obtain ⟨c, hc, rfl⟩ := bv_got hy
      have hdc := (dig_iff c).mp (List.all_eq_true.mp hd c (List.mem_of_getElem? hc))
      refine ⟨_, rfl, _, _, rfl, rfl, .inr ⟨by decide, by decide⟩, _, rfl, _, _, rfl, rfl, _, _, rfl, rfl, some (V.int c.toNat), ?_, rfl⟩
      rw [take_snoc hc, number_snoc]
      show [some (V.ref a), some (V.int ((Sv68.number (b.take i) : Int) * 10 + c.toNat - 48)), some (V.int c.toNat)] = _
      rw [show (Sv68.number (b.take i) : Int) * 10 + c.toNat - 48 = ((10 * Sv68.number (b.take i) + (c.toNat - 48) : Nat) : Int) by omega]
    · rintro σ H' ⟨v, rfl, rfl⟩
      rw [List.take_of_length_le (by rw [bv_length]; exact Nat.le_refl _)]
      exact ⟨_, rfl, k⟩
end
end NP
end
section
set_option Elab.async false
set_option linter.all false
set_option maxRecDepth 100000
set_option maxHeartbeats 1000000
namespace NP
open PySem PySem.Spec PyProof.Rows L2
open Sv68 (isDigit lower)
theorem split_cons (p : UInt8 → Bool) (x : UInt8) (xs : Bytes) : List.splitOnP p (x :: xs) = if p x = true then [] :: List.splitOnP p xs else List.modifyHead (List.cons x) (List.splitOnP p xs) := List.splitOnP_cons_eq_if_modifyHead ..
theorem split_free {c : UInt8} : ∀ {t : Bytes}, (∀ x ∈ t, x ≠ c) → t.splitOn c = [t]
  | [], _ => List.splitOn_nil c
  | x :: t, h => by
    have hx := h x List.mem_cons_self
    have ih : List.splitOnP (fun y => y == c) t = [t] := split_free (c := c) (t := t) fun y hy => h y (List.mem_cons_of_mem _ hy)
    show List.splitOnP (fun y => y == c) (x :: t) = _
    rw [split_cons, if_neg (by simpa using hx), ih]
    rfl
theorem split_at {c : UInt8} {r : Bytes} : ∀ {t : Bytes}, (∀ x ∈ t, x ≠ c) → (t ++ c :: r).splitOn c = t :: r.splitOn c
  | [], _ => by
    show List.splitOnP (fun y => y == c) (c :: r) = _
    rw [split_cons, if_pos (by simp)]
    rfl
  | x :: t, h => by
    have hx := h x List.mem_cons_self
    have ih : List.splitOnP (fun y => y == c) (t ++ c :: r) = t :: r.splitOn c := split_at (c := c) (t := t) fun y hy => h y (List.mem_cons_of_mem _ hy)
    show List.splitOnP (fun y => y == c) (x :: (t ++ c :: r)) = _
    rw [split_cons, if_neg (by simpa using hx), ih]
    rfl
theorem split_len {c : UInt8} : ∀ b : Bytes, (b.splitOn c).length ≤ b.length + 1
  | [] => by rw [List.splitOn_nil]; simp
  | x :: t => by
    have ih : (List.splitOnP (fun y => y == c) t).length ≤ t.length + 1 := split_len (c := c) t
    show (List.splitOnP (fun y => y == c) (x :: t)).length ≤ _
    rw [split_cons]
    split
    · simpa using ih
    · rw [List.length_modifyHead]
      simp
      omega
theorem split_ne (c : UInt8) (b : Bytes) : b.splitOn c ≠ [] := fun h => List.splitOn_ne_nil _ _ h
section
variable {P : Program} {w : World} {K : PySem.W.Frag} {mg : Str → Option Value} {base : Heap}
abbrev sPower : Stmt := top 35
theorem scPower : FnScope ["base", "exponent", "result", "step"] ["base", "exponent"] (defScope sPower) := ⟨rfl, rfl, rfl, by decide +kernel, rfl, by decide +kernel, by decide +kernel⟩
def spPower : Sp := fun vs H Q _ => ∃ (x : Int) (e : Nat), vs = [.int x, .int e] ∧ 0 ≤ x ∧ x < 2 ^ 64 ∧ e < 1000 ∧ Q (.int (x ^ e)) H
theorem ok_power {f : Addr} {fd : FuncData} (T : TX P w K mg) (F : Fun K "power" "power" sPower f fd) : FnOk P w K mg base CX0 1 f fd ["base", "exponent"] spPower := by
  refine F.ok scPower (fun vs H Q E h => ?_) (fun cdv A outer s H vs Q E hr h => ?_)
  · obtain ⟨x, e, rfl, _⟩ := h
    rfl
  · obtain ⟨x, e, rfl, h0, h1, he, k⟩ := h
    have nd := scPower.nd
    refine ⟨_, (pss_cons (ps_set (i := 2) nd rfl (Or.inl rfl) pe_int)
      (pss_cons (ps_for PassesOwn.never rfl (pi_range1 rfl T.n_range (pa_cons (pv 1) pa_nil)) (pg_name (i := 3) nd rfl (Or.inl rfl)) (pss_one (ps_aug (i := 2) nd rfl (Or.inl rfl) (pv 0) iop_mul)))
      (pss_one (ps_ret (pv 2))))), ?_⟩
    refine ⟨_, rfl, (e : Int), rfl, by omega, by omega, ?_⟩
    refine for_range (fun i σ H' => ∃ v, H = H' ∧ σ = [some (.int x), some (.int e), some (.int (x ^ i)), v]) ⟨none, rfl, by rw [Int.pow_zero]; rfl⟩ ?_ ?_
    · rintro i σ H' hi ⟨v, rfl, rfl⟩
      refine ⟨_, rfl, _, rfl, _, _, rfl, rfl, .inr ⟨by omega, h1⟩, some (V.int (0 + (i : Int))), rfl, ?_⟩
      rw [Int.pow_succ]
      rfl
    · rintro σ H' ⟨v, rfl, rfl⟩
      refine ⟨_, rfl, ?_⟩
      rw [Int.toNat_natCast]
      exact k
abbrev sParted : Stmt := top 24
theorem scParted : FnScope ["codes", "sign", "parts", "begin", "at", "code"] ["codes", "sign"] (defScope sParted) := ⟨rfl, rfl, rfl, by decide +kernel, rfl, by decide +kernel, by decide +kernel⟩
def ListsAt (H : Hp) (qs : List Addr) (ls : List Bytes) : Prop := A2 (fun q l => H q = some (.lst (bv l))) qs ls
def spParted (K : PySem.W.Frag) : Sp := fun vs H Q _ => ∃ a b, ∃ (c : UInt8), vs = [.ref a, .int c.toNat] ∧ SqL K H a (bv b) ∧ b.length ≤ 70000 ∧ ∀ (p : Addr) (H' : Hp) (qs : List Addr), Same H H' → H' p = some (.lst (qs.map V.ref)) → ListsAt H' qs (b.splitOn c) → Q (.ref p) H'
theorem ok_parted {f : Addr} {fd : FuncData} (T : TX P w K mg) (F : Fun K "parted" "parted" sParted f fd) : FnOk P w K mg base CX0 1 f fd ["codes", "sign"] (spParted K) := by
  refine F.ok scParted (fun vs H Q E h => ?_) (fun cdv A outer s H vs Q E hr h => ?_)
  · obtain ⟨a, b, c, rfl, _⟩ := h
    rfl
  · obtain ⟨a, b, c, rfl, hS, hlen, k⟩ := h
    have nd := scParted.nd
    refine ⟨_, (pss_cons (ps_set (i := 2) nd rfl (Or.inl rfl) (pe_lst pa_nil))
      (pss_cons (ps_set (i := 3) nd rfl (Or.inl rfl) pe_int)
      (pss_cons (ps_for PassesOwn.never rfl (pi_enum rfl T.n_enumerate (pa_cons (pv 0) pa_nil)) (pg_tup rfl (pgs_cons (pg_name (i := 4) nd rfl (Or.inl rfl)) (pgs_cons (pg_name (i := 5) nd rfl (Or.inl rfl)) pgs_nil))) (pss_one (ps_if (pt_cmpR op_eq (pv 5) (pv 1) (nomark _)) (pss_cons (ps_expr (pe_bm PySem.F.plainAttrs_list PySem.F.slot_list_append PySem.F.type_list_append mt_append (pv 2) (pa_cons (pe_slice sl_list (pv 0) (po_some (pv 3)) (po_some (pv 4))) pa_nil)))
      (pss_one (ps_set (i := 3) nd rfl (Or.inl rfl) (pe_op op_add (pv 4) pe_int)))) pss_nil)))
      (pss_cons (ps_expr (pe_bm PySem.F.plainAttrs_list PySem.F.slot_list_append PySem.F.type_list_append mt_append (pv 2) (pa_cons (pe_slice sl_list (pv 0) (po_some (pv 3)) po_none) pa_nil)))
      (pss_one (ps_ret (pv 2))))))), ?_⟩
    refine ⟨Nat.zero_le _, fun p hp => ?_⟩
    refine ⟨_, rfl, a, _, rfl, (Same.upd hp).seq hS, for_enum (K := K) (a := a) (xs := bv b) (fun i σ H' => ∃ (g : Nat) (qs : List Addr) (ls : List Bytes) (v4 v5 : Option V), σ = [some (.ref a), some (.int c.toNat), some (.ref p), some (.int g), v4, v5] ∧ Same H H' ∧ H' p = some (.lst (qs.map V.ref)) ∧
        A2 (fun q l => q ≠ p ∧ H' q = some (.lst (bv l))) qs ls ∧ g ≤ i ∧ (∀ x ∈ (b.drop g).take (i - g), x ≠ c) ∧ b.splitOn c = ls ++ (b.drop g).splitOn c ∧ qs.length ≤ i)
      ⟨0, [], [], none, none, rfl, Same.upd hp, upd_same, .nil, Nat.le_refl _, by simp, rfl, Nat.le_refl _⟩ (fun i σ H' _ ⟨_, _, _, _, _, _, sm, _⟩ => sm.seq hS) ?_ ?_⟩
    · rintro i y σ H' T' hy ⟨g, qs, ls, v4, v5, rfl, sm, hpl, hA, hg, hf, hs, hq⟩ hT
      obtain ⟨x, hx, rfl⟩ := bv_got hy
      have hil : i < b.length := (List.getElem?_eq_some_iff.mp hx).1
      refine ⟨T', _, rfl, SqT.of upd_same, rfl, _, _, rfl, _, _, rfl, rfl, ?_⟩
      have sT : Same H' (upd H' T' (.tup [.int (i : Nat), .int x.toNat])) := Same.upd hT
      have sm' := sm.trans sT
      refine ⟨_, rfl, _, rfl, rfl, _, rfl, ite2 (fun q => ?_) (fun q => ?_)⟩
      · have exc : x = c := u8_eq.mpr (V.int.inj (of_decide_eq_true q))
        subst exc
        have ep : ((b.drop g).take (i - g)) ++ x :: b.drop (i + 1) = b.drop g := by
          have := List.take_append_drop (i - g) (b.drop g)
          rw [List.drop_drop, show g + (i - g) = i by omega, drop_get hx] at this
          exact this
        have es : (b.drop g).splitOn x = (b.drop g).take (i - g) :: (b.drop (i + 1)).splitOn x := by
          conv => lhs; rw [← ep]
          exact split_at hf
        refine ⟨_, rfl, .inl ⟨rfl, _, SqL.of (sT _ _ hpl)⟩, _, rfl, _, rfl, (g : Int), rfl, _, rfl, (i : Int), rfl, a, _, rfl, sm'.seq hS, fun q hqn => ?_⟩
        rw [bcut]
        have pq : p ≠ q := ne_of_none (sT _ _ hpl) hqn
        refine ⟨p, _, _, rfl, rfl, (by rw [upd_ne pq]; exact sT _ _ hpl), (by rw [List.length_map]; show _ < 2 ^ 24; omega), ?_⟩
        refine ⟨_, rfl, _, _, rfl, rfl, i + 1, qs ++ [q], ls ++ [(b.drop g).take (i - g)], _, _, rfl, ?_, ?_, ?_, by omega, by simp, ?_, ?_⟩
        · exact ((sm'.trans (Same.upd hqn)).off hp)
        · rw [upd_same, List.map_append]
          rfl
        · refine A2.snoc ⟨Ne.symm pq, ?_⟩ (A2.imp (fun q' l' h' => ⟨h'.1, ?_⟩) hA)
          · rw [upd_ne (Ne.symm pq), upd_same]
          · rw [upd_ne h'.1]
            exact (Same.upd hqn) _ _ (sT _ _ h'.2)
        · rw [hs, es, List.append_assoc]
          rfl
        · rw [List.length_append]
          exact Nat.succ_le_succ hq
      · have exc : x ≠ c := fun e => q (decide_eq_true (by rw [e]))
        refine ⟨g, qs, ls, _, _, rfl, sm', sT _ _ hpl, A2.imp (fun q' l' h' => ⟨h'.1, sT _ _ h'.2⟩) hA, by omega, ?_, hs, by omega⟩
        intro z hz
        have e1 : i + 1 - g = (i - g) + 1 := by omega
        have e2 : (b.drop g)[i - g]? = some x := by
          rw [List.getElem?_drop, show g + (i - g) = i by omega]
          exact hx
        rw [e1, take_snoc e2, List.mem_append] at hz
        rcases hz with hz | hz
        · exact hf z hz
        · rw [List.mem_singleton] at hz
          rw [hz]
          exact exc
    · rintro σ H' ⟨g, qs, ls, v4, v5, rfl, sm, hpl, hA, hg, hf, hs, hq⟩
      rw [bv_length] at hg hf hq
      have ef : (b.drop g).take (b.length - g) = b.drop g := List.take_of_length_le (by simp)
      rw [ef] at hf
      refine ⟨_, rfl, .inl ⟨rfl, _, SqL.of hpl⟩, _, rfl, _, rfl, (g : Int), rfl, a, _, rfl, sm.seq hS, fun q hqn => ?_⟩
      rw [bcut_from]
      have pq : p ≠ q := ne_of_none hpl hqn
      refine ⟨p, _, _, rfl, rfl, (by rw [upd_ne pq]; exact hpl), (by rw [List.length_map]; show _ < 2 ^ 24; omega), ?_⟩
      refine ⟨_, rfl, k p _ (qs ++ [q]) ((sm.trans (Same.upd hqn)).off hp) (by rw [upd_same, List.map_append]; rfl) ?_⟩
      rw [hs, split_free hf]
      refine A2.snoc ?_ (A2.imp (fun q' l' h' => ?_) hA)
      · rw [upd_ne (Ne.symm pq), upd_same]
      · rw [upd_ne h'.1]
        exact (Same.upd hqn) _ _ h'.2
end
end NP
end
section
set_option Elab.async false
set_option linter.all false
set_option maxRecDepth 100000
set_option maxHeartbeats 1000000
namespace NP
open PySem PySem.Spec PyProof.Rows L2
open Sv68 (isDigit lower)
theorem number_from (b : Bytes) : ∀ n : Nat, b.foldl (fun n c => 10 * n + (c.toNat - 48)) n = n * 10 ^ b.length + Sv68.number b := by
  induction b with
  | nil => intro n; simp [Sv68.number]
  | cons c b ih =>
    intro n
    unfold Sv68.number
    rw [List.foldl_cons, List.foldl_cons, ih, ih (10 * 0 + (c.toNat - 48)), List.length_cons, Nat.pow_succ, Nat.add_mul, Nat.mul_zero, Nat.zero_add, Nat.add_assoc]
    congr 1
    rw [Nat.mul_comm 10 n, Nat.mul_assoc, Nat.mul_comm 10 (10 ^ b.length)]
theorem number_append (a b : Bytes) : Sv68.number (a ++ b) = Sv68.number a * 10 ^ b.length + Sv68.number b := by
  conv => lhs; unfold Sv68.number
  rw [List.foldl_append, number_from b]
  rfl
theorem number_zeros : ∀ k : Nat, Sv68.number (List.replicate k 48) = 0
  | 0 => rfl
  | k + 1 => by
    rw [List.replicate_succ, show (48 : UInt8) :: List.replicate k 48 = [48] ++ List.replicate k 48 from rfl, number_append, number_zeros k]
    simp [Sv68.number]
def limW (s : Bool) (w d : Bytes) : Int := let z : Int := (Sv68.number (w ++ d) : Int) * 10 ^ (12 - d.length)
  if s = true then -z else z
def limI (b : Bytes) : Option Int :=
  let s := decide (b.take 1 = [45])
  match (if s = true then b.drop 1 else b).splitOn 46 with
  | [w] => if areDig w 1 24 = true then some (limW s w []) else none
  | [w, d] => if areDig w 1 24 = true ∧ areDig d 1 12 = true then some (limW s w d) else none
  | _ => none
theorem areDig_iff {b : Bytes} {lo hi : Nat} : areDig b lo hi = true ↔ (lo ≤ b.length ∧ b.length ≤ hi ∧ b.all isDigit = true) := by
  unfold areDig
  simp [Bool.and_eq_true]
theorem cut_at (c : UInt8) : ∀ l : Bytes, (∀ x ∈ l, x ≠ c) ∨ ∃ t r, l = t ++ c :: r ∧ ∀ x ∈ t, x ≠ c
  | [] => .inl fun _ h => by cases h
  | a :: l => by
    by_cases h : a = c
    · exact .inr ⟨[], l, by rw [h]; rfl, fun _ h => by cases h⟩
    · rcases cut_at c l with hl | ⟨t, r, e, ht⟩
      · refine .inl fun x hx => ?_
        rcases List.mem_cons.mp hx with e | hx
        · rw [e]; exact h
        · exact hl x hx
      · refine .inr ⟨a :: t, r, by rw [e]; rfl, fun x hx => ?_⟩
        rcases List.mem_cons.mp hx with e | hx
        · rw [e]; exact h
        · exact ht x hx
theorem tw_all {p : UInt8 → Bool} : ∀ {l : Bytes}, l.all p = true → l.takeWhile p = l
  | [], _ => rfl
  | a :: l, h => by
    rw [List.all_cons, Bool.and_eq_true] at h
    rw [List.takeWhile_cons, if_pos h.1, tw_all h.2]
theorem tw_append {p : UInt8 → Bool} {c : UInt8} {r : Bytes} (hc : p c = false) : ∀ {l : Bytes}, (l ++ c :: r).takeWhile p = l.takeWhile p
  | [] => by rw [List.nil_append, List.takeWhile_cons, hc]; rfl
  | a :: l => by
    rw [List.cons_append, List.takeWhile_cons, List.takeWhile_cons]
    split
    · rw [tw_append hc]
    · rfl
theorem tw_stop {p : UInt8 → Bool} : ∀ {l : Bytes}, l.all p = false → ∃ a r, l.drop (l.takeWhile p).length = a :: r ∧ p a = false ∧ a ∈ l
  | [], h => by cases h
  | a :: l, h => by
    rw [List.takeWhile_cons]
    cases hp : p a with
    | false => exact ⟨a, l, rfl, hp, List.mem_cons_self⟩
    | true =>
      rw [List.all_cons, hp, Bool.true_and] at h
      obtain ⟨x, r, e, hx, hm⟩ := tw_stop h
      exact ⟨x, r, e, hx, List.mem_cons_of_mem _ hm⟩
theorem limI_eq (b : Bytes) : limI b = Sv68.decimalIn b := by
  unfold limI Sv68.decimalIn
  have es : (b.head? == some 45) = decide (b.take 1 = [45]) := by
    cases b with
    | nil => rfl
    | cons c r =>
      show (some c == some 45) = decide ([c] = [45])
      rw [Bool.eq_iff_iff]
      simp
  rw [es]
  generalize decide (b.take 1 = [45]) = s
  dsimp only
  generalize (if s = true then b.drop 1 else b) = l
  have pd : isDigit 46 = false := by decide
  rcases cut_at 46 l with hl | ⟨t, r, rfl, ht⟩
  · rw [split_free hl]
    dsimp only
    cases ha : l.all isDigit with
    | true =>
      rw [tw_all ha, List.drop_length, if_pos rfl]
      dsimp only [Option.bind_some]
      have e1 : areDig l 1 24 = true ↔ ¬ (l = [] ∨ 24 < l.length ∨ 12 < ([] : Bytes).length) := by
        rw [areDig_iff, ha]
        cases l <;> simp
        all_goals (try omega)
      by_cases h : areDig l 1 24 = true
      · rw [if_pos h, if_neg (e1.mp h)]
        unfold limW
        rw [List.append_nil, List.nil_append, List.length_nil, show Sv68.number (List.replicate (12 - 0) 48) = 0 from number_zeros 12]
        simp [Wbk.ONE]
      · rw [if_neg h, if_pos (by by_cases q : l = [] ∨ 24 < l.length ∨ 12 < ([] : Bytes).length; exact q; exact (h (e1.mpr q)).elim)]
    | false =>
      obtain ⟨a, r, e, ha', hm⟩ := tw_stop ha
      rw [if_neg (by rw [areDig_iff, ha]; simp), e, if_neg (by simp), if_neg (by rintro ⟨h, _⟩; exact hl a hm (Option.some.inj h))]
      rfl
  · rw [split_at ht, tw_append pd]
    cases ha : t.all isDigit with
    | true =>
      rw [tw_all ha, List.drop_left, if_neg (by simp)]
      have e2 : ((46 :: r).head? = some (46 : UInt8) ∧ 2 ≤ (46 :: r).length ∧ ((46 :: r).drop 1).all isDigit = true) ↔ (1 ≤ r.length ∧ r.all isDigit = true) := by
        simp
      rcases cut_at 46 r with hr | ⟨t2, r2, rfl, ht2⟩
      · rw [split_free hr]
        dsimp only
        by_cases h : 1 ≤ r.length ∧ r.all isDigit = true
        · rw [if_pos (e2.mpr h)]
          show _ = Option.bind (some r) _
          rw [Option.bind_some]
          have e1 : (areDig t 1 24 = true ∧ areDig r 1 12 = true) ↔ ¬ (t = [] ∨ 24 < t.length ∨ 12 < r.length) := by
            rw [areDig_iff, areDig_iff, ha, h.2]
            cases t <;> simp
            all_goals (try omega)
          by_cases h' : areDig t 1 24 = true ∧ areDig r 1 12 = true
          · rw [if_pos h', if_neg (e1.mp h')]
            have hr12 := (areDig_iff.mp h'.2).2.1
            unfold limW
            have ez : (Sv68.number (t ++ r) : Int) * 10 ^ (12 - r.length) = (Sv68.number t : Int) * Wbk.ONE + (Sv68.number (r ++ List.replicate (12 - r.length) 48) : Int) := by
              rw [number_append, number_append r, number_zeros, List.length_replicate, Nat.add_zero]
              have e3 : (10 : Int) ^ r.length * 10 ^ (12 - r.length) = Wbk.ONE := by
                rw [← Int.pow_add, show r.length + (12 - r.length) = 12 by omega]
                rfl
              push_cast
              rw [Int.add_mul, Int.mul_assoc, e3]
            rw [ez]
          · rw [if_neg h', if_pos (by by_cases q : t = [] ∨ 24 < t.length ∨ 12 < r.length; exact q; exact (h' (e1.mpr q)).elim)]
        · rw [if_neg (fun z => h (e2.mp z)), if_neg (fun z => h ⟨(areDig_iff.mp z.2).1, (areDig_iff.mp z.2).2.2⟩)]
          rfl
      · have hno : ¬ (1 ≤ (t2 ++ 46 :: r2).length ∧ (t2 ++ 46 :: r2).all isDigit = true) := by
          rintro ⟨_, h⟩
          rw [List.all_append, List.all_cons, pd] at h
          simp at h
        rw [if_neg (fun z => hno (e2.mp z)), split_at ht2]
        obtain ⟨x, y, e⟩ : ∃ x y, r2.splitOn 46 = x :: y := List.exists_cons_of_ne_nil (split_ne 46 r2)
        rw [e]
        rfl
    | false =>
      obtain ⟨a, q, e, ha', hm⟩ := tw_stop ha
      have ed : (t ++ 46 :: r).drop (t.takeWhile isDigit).length = a :: (q ++ 46 :: r) := by
        rw [List.drop_append_of_le_length ((List.takeWhile_prefix _).length_le), e]
        rfl
      rw [ed, if_neg (by simp), if_neg (by rintro ⟨h, _⟩; exact ht a hm (Option.some.inj h))]
      have nd : areDig t 1 24 = false := by
        rw [Bool.eq_false_iff, Ne, areDig_iff, ha]
        simp
      split
      · rename_i w' h
        have := List.cons.inj h
        rw [← this.1, nd]
        rfl
      · rename_i w' d' h
        have := List.cons.inj h
        rw [← this.1, nd]
        rfl
      · rfl
end NP
end
section
set_option Elab.async false
set_option linter.all false
set_option maxRecDepth 100000
set_option maxHeartbeats 1000000
namespace NP
open PySem PySem.Spec PyProof.Rows L2
open Sv68 (isDigit lower)
def fs_Condition (v1 v2 : V) : List (Str × V) := (putF "limit" v2 (putF "comparison" v1 []))
structure Tx_Condition (K : PySem.W.Frag) (C : Addr) : Prop where
  cl : Cls K C
  n_comparison : NoAttr K C "comparison"
  n_limit : NoAttr K C "limit"
def At_Condition (C : Addr) (H : Hp) (a : Addr) (v1 v2 : V) : Prop := ∃ dx, H a = some (.ins C dx (fs_Condition v1 v2))
abbrev si_Condition : Stmt := inClass (top 40) 0
def sp_Condition (C : Addr) : Sp := fun vs H Q _ => ∃ (p dx : Addr) (v1 v2 : V), vs = [.ref p, v1, v2] ∧ H p = some (.ins C dx []) ∧ Q .non (upd H p (.ins C dx (fs_Condition v1 v2)))
theorem sc_Condition : FnScope ["self", "comparison", "limit"] ["self", "comparison", "limit"] (defScope si_Condition) := ⟨rfl, rfl, rfl, by decide +kernel, rfl, by decide +kernel, by decide +kernel⟩
theorem ok_Condition {P : Program} {w : World} {K : PySem.W.Frag} {mg : Str → Option Value} {base : Heap} {f C : Addr} {fd : FuncData} (T : Tx_Condition K C) (F : Fun K "__init__" "Condition.__init__" si_Condition f fd) : FnOk P w K mg base CX0 1 f fd ["self", "comparison", "limit"] (sp_Condition C) := by
  refine F.ok sc_Condition (fun vs H Q E h => ?_) (fun cdv A outer s H vs Q E hr h => ?_)
  · obtain ⟨p, dx, v1, v2, rfl, _⟩ := h
    rfl
  · obtain ⟨p, dx, v1, v2, rfl, hp, k⟩ := h
    refine ⟨_, (pss_cons (ps_fld (pv 0) (pv 1) rfl) (pss_one (ps_fld (pv 0) (pv 2) rfl))), ?_⟩
    refine ⟨_, rfl, _, rfl, p, C, dx, [], rfl, hp, T.cl, T.n_comparison, (by show 0 < 1000; decide), ?_⟩
    refine ⟨_, rfl, _, rfl, p, C, dx, _, rfl, upd_same, T.cl, T.n_limit, (by show 1 < 1000; decide), ?_⟩
    rw [upd_upd]
    exact k
theorem bi_dec (a b : Bytes) : decide (bi a = bi b) = decide (a = b) := decide_eq_decide.mpr ⟨bi_inj, fun h => by rw [h]⟩
section
variable {P : Program} {w : World} {K : PySem.W.Frag} {mg : Str → Option Value} {base : Heap}
abbrev sRlim : Stmt := top 42
theorem scRlim : FnScope ["comparison", "codes", "is_below", "parts", "decimals", "limit"] ["comparison", "codes"] (defScope sRlim) := ⟨rfl, rfl, rfl, by decide +kernel, rfl, by decide +kernel, by decide +kernel⟩
def spRlim (K : PySem.W.Frag) (C : Addr) : Sp := fun vs H Q _ => ∃ z a b, vs = [.str z, .ref a] ∧ SqL K H a (bv b) ∧ b.length ≤ 300 ∧
  (∀ H', Same H H' → Sv68.decimalIn b = none → Q .non H') ∧ ∀ H' c v, Same H H' → Sv68.decimalIn b = some v → H c = none → At_Condition C H' c (.str z) (.int v) → Q (.ref c) H'
theorem ok_rlim {f C : Addr} {fd : FuncData} (T : TX P w K mg) (O_are_digits : Own P w K mg base CX0 2 "are_digits" ["codes", "least", "most"] (spAred K)) (O_parted : Own P w K mg base CX0 1 "parted" ["codes", "sign"] (spParted K))
    (O_number_of : Own P w K mg base CX0 1 "number_of" ["digits"] (spNumof K)) (O_power : Own P w K mg base CX0 1 "power" ["base", "exponent"] spPower) (O_Condition : OwnC P w K mg base CX0 1 C "Condition" ["self", "comparison", "limit"] (sp_Condition C))
    (F : Fun K "read_limit" "read_limit" sRlim f fd) : FnOk P w K mg base CX0 3 f fd ["comparison", "codes"] (spRlim K C) := by
  refine F.ok scRlim (fun vs H Q E h => ?_) (fun cdv A outer s H vs Q E hr h => ?_)
  · obtain ⟨z, a, b, rfl, _⟩ := h
    rfl
  · obtain ⟨z, a, b, rfl, hS, hlen, k0, k1⟩ := h
    have nd := scRlim.nd
    have hu64 := hr.units
    rw [← limI_eq] at k0 k1
    -- limit = ..; return Condition(..)
    obtain ⟨t5, h5, q5⟩ : ∃ t5, PSs (cxOf CX0 P w K mg base ["comparison", "codes", "is_below", "parts", "decimals", "limit"] "read_limit" (defScope sRlim) f cdv A outer s H E).nox ((defBody sRlim).drop 5) t5 ∧
        ∀ (sg : Bool) (p q0 dq : Addr) (qs : List Addr) (w' d' : Bytes) (H2 : Hp), Same H H2 → H2 p = some (.lst ((q0 :: qs).map V.ref)) → H2 q0 = some (.lst (bv w')) → H2 dq = some (.lst (bv d')) → w'.all isDigit = true → d'.all isDigit = true → w'.length ≤ 24 → d'.length ≤ 12 →
          limI b = some (limW sg w' d') → t5 { nx := fun _ H' => Q .non H', rt := Q } [some (.str z), some (.ref a), some (.bl sg), some (.ref p), some (.ref dq), none] H2 := by
      refine ⟨_, (pss_cons (ps_set (i := 5) nd rfl (Or.inl rfl) (pe_op op_mul (pe_own O_number_of (hr.mono (by decide)) pass0 (pa_cons (pe_op op_cat (pe_ix ix_list (pv 3) pe_int (fun _ _ => rfl)) (pv 4)) pa_nil)) (pe_own O_power (hr.mono (by decide)) pass0 (pa_cons pe_int (pa_cons (pe_op op_sub (pe_gi T.c_MOST_DECIMALS) (pe_callB call_len_seq rfl T.n_len (by decide +kernel) (pa_cons (pv 4) pa_nil))) pa_nil)))))
      (pss_one (ps_ret (pe_new O_Condition (hr.mono (by decide)) pass0 (pa_cons (pv 0) (pa_cons (pe_ifExp (pt_val (pv 2)) (pe_un un_neg (pv 5)) (pv 5)) pa_nil)))))), ?_⟩
      intro sg p q0 dq qs w' d' H2 sm hp hq hd aw ad lw ld hl
      refine ⟨_, rfl, p, _, _, _, rfl, rfl, SqL.of hp, atI_nat (j := 0) rfl, _, rfl, q0, dq, _, _, rfl, rfl, hq, hd, (by rw [bv_length, bv_length]; show _ ≤ 2 ^ 24; omega), fun r hr' => ?_⟩
      have er : bv w' ++ bv d' = bv (w' ++ d') := by
        unfold bv bi
        rw [List.map_append, List.map_append]
      rw [er]
      have s3 := sm.trans (Same.upd (o := .lst (bv (w' ++ d'))) hr')
      have hd3 := (Same.upd (o := .lst (bv (w' ++ d'))) hr') _ _ hd
      refine ⟨r, w' ++ d', rfl, SqL.of upd_same, (by rw [List.all_append, aw, ad]; rfl), _, rfl, dq, _, rfl, .inl (SqL.of hd3), _, _, rfl, rfl, (10 : Int), 12 - d'.length, ?_, by decide, by decide, by omega, _, _, rfl, rfl, .inr ?_, ?_⟩
      · rw [bv_length, show ((12 - d'.length : Nat) : Int) = 12 - (d'.length : Int) by omega]
        rfl
      · have : (10 : Int) ^ (12 - d'.length) ≤ 10 ^ 12 := by
          have := Nat.pow_le_pow_right (n := 10) (by decide) (show 12 - d'.length ≤ 12 by omega)
          exact_mod_cast this
        have p0 : (0 : Int) < 10 ^ (12 - d'.length) := Int.pow_pos (by decide)
        constructor
        · omega
        · omega
      · have fin : ∀ v : Int, limW sg w' d' = v → ∀ x dx : Addr, ∀ H3, Same H H3 → H3 x = none → H3 dx = none → dx ≠ x → sp_Condition C (.ref x :: ([.str z, .int v] ++ [])) (upd (upd H3 dx (.own x)) x (.ins C dx [])) (fun v H2 => v = .non ∧ Q (.ref x) H2) E0 := by
          intro v ev x dx H3 s4 hx hdx hne
          exact ⟨x, dx, _, _, rfl, upd_same, rfl, k1 _ x v (s4.ins hx hdx) (by rw [hl, ev]) (s4.free hx) ⟨dx, upd_same⟩⟩
        refine ⟨_, rfl, _, rfl, _, rfl, ?_⟩
        cases sg with
        | true => exact iteT ⟨_, rfl, _, rfl, fun x dx hx hdx hne => fin _ (by unfold limW; rfl) x dx _ s3 hx hdx hne⟩
        | false => exact iteF ⟨_, rfl, fun x dx hx hdx hne => fin _ (by unfold limW; rfl) x dx _ s3 hx hdx hne⟩
    -- behind parts = ..
    obtain ⟨t2, h2, q2⟩ : ∃ t2, PSs (cxOf CX0 P w K mg base ["comparison", "codes", "is_below", "parts", "decimals", "limit"] "read_limit" (defScope sRlim) f cdv A outer s H E).nox ((defBody sRlim).drop 2) t2 ∧
        ∀ (sg : Bool) (p : Addr) (qs : List Addr) (ls : List Bytes) (H2 : Hp), Same H H2 → H2 p = some (.lst (qs.map V.ref)) → ListsAt H2 qs ls → ls ≠ [] → ls.length ≤ 1000 →
          limI b = (match ls with
            | [w] => if areDig w 1 24 = true then some (limW sg w []) else none
            | [w, d] => if areDig w 1 24 = true ∧ areDig d 1 12 = true then some (limW sg w d) else none
            | _ => none) → t2 { nx := fun _ H' => Q .non H', rt := Q } [some (.str z), some (.ref a), some (.bl sg), some (.ref p), none, none] H2 := by
      refine ⟨_, (pss_cons (ps_if (PW.pt (pw_or (pt_cmpR op_gt (pe_callB call_len_seq rfl T.n_len (by decide +kernel) (pa_cons (pv 3) pa_nil)) pe_int (nomark _)) (pw_or1 (pt_not (pt_val (pe_own O_are_digits (hr.mono (by decide)) pass0 (pa_cons (pe_ix ix_list (pv 3) pe_int (fun _ _ => rfl)) (pa_cons pe_int (pa_cons (pe_gi T.c_MOST_DIGITS) pa_nil))))))))) (pss_one (ps_ret pe_non)) pss_nil)
      (pss_cons (ps_if (PW.pt (pw_and (pt_cmpR op_eq (pe_callB call_len_seq rfl T.n_len (by decide +kernel) (pa_cons (pv 3) pa_nil)) pe_int (nomark _)) (pw_and1 (pt_not (pt_val (pe_own O_are_digits (hr.mono (by decide)) pass0 (pa_cons (pe_ix ix_list (pv 3) pe_int (fun _ _ => rfl)) (pa_cons pe_int (pa_cons (pe_gi T.c_MOST_DECIMALS) pa_nil))))))))) (pss_one (ps_ret pe_non)) pss_nil)
      (pss_cons (ps_set (i := 4) nd rfl (Or.inl rfl) (pe_ifExp (pt_cmpR op_eq (pe_callB call_len_seq rfl T.n_len (by decide +kernel) (pa_cons (pv 3) pa_nil)) pe_int (nomark _)) (pe_ix ix_list (pv 3) pe_int (fun _ _ => rfl)) (pe_lst pa_nil)))
      h5))), ?_⟩
      intro sg p qs ls H2 sm hp hL hne hls hl
      cases hL with
      | nil => exact (hne rfl).elim
      | @cons q0 w' qs' ls' c0 hL =>
      cases hL with
      | nil =>
        dsimp only at hl
        refine ⟨_, rfl, p, _, rfl, .inl (SqL.of hp), _, _, rfl, rfl, _, rfl, ite2 (fun q => by simp at q) fun _ => ?_⟩
        refine ⟨_, rfl, p, _, _, _, rfl, rfl, SqL.of hp, atI_nat (j := 0) rfl, q0, w', 1, 24, rfl, SqL.of c0, _, rfl, ?_⟩
        cases hd : areDig w' 1 24 with
        | false =>
          rw [hd] at hl
          exact iteT (k0 _ sm hl)
        | true =>
          rw [hd, if_pos rfl] at hl
          obtain ⟨hd1, hd2, hd3⟩ := areDig_iff.mp hd
          refine iteF ⟨_, rfl, p, _, rfl, .inl (SqL.of hp), rfl, _, rfl, ite2 (fun q => by simp at q) fun _ => iteF ?_⟩
          refine ⟨_, rfl, p, _, rfl, .inl (SqL.of hp), rfl, _, rfl, ite2 (fun q => by simp at q) fun _ => ⟨Nat.zero_le _, fun r hr' => ?_⟩⟩
          have su := Same.upd (o := .lst []) hr'
          exact q5 sg p q0 r [] w' [] _ (sm.trans su) (su _ _ hp) (su _ _ c0) upd_same hd3 rfl hd2 (by decide) hl
      | @cons q1 d' qs' ls' c1 hL =>
      cases hL with
      | nil =>
        dsimp only at hl
        refine ⟨_, rfl, p, _, rfl, .inl (SqL.of hp), _, _, rfl, rfl, _, rfl, ite2 (fun q => by simp at q) fun _ => ?_⟩
        refine ⟨_, rfl, p, _, _, _, rfl, rfl, SqL.of hp, atI_nat (j := 0) rfl, q0, w', 1, 24, rfl, SqL.of c0, _, rfl, ?_⟩
        cases hd : areDig w' 1 24 with
        | false =>
          rw [hd, if_neg (by simp)] at hl
          exact iteT (k0 _ sm hl)
        | true =>
          obtain ⟨hd1, hd2, hd3⟩ := areDig_iff.mp hd
          refine iteF ⟨_, rfl, p, _, rfl, .inl (SqL.of hp), rfl, _, rfl, ite2 (fun _ => ?_) (fun q => by simp at q)⟩
          refine ⟨_, rfl, p, _, _, _, rfl, rfl, SqL.of hp, atI_nat (j := 1) rfl, q1, d', 1, 12, rfl, SqL.of c1, _, rfl, ?_⟩
          cases he : areDig d' 1 12 with
          | false =>
            rw [he, if_neg (by simp)] at hl
            exact iteT (k0 _ sm hl)
          | true =>
            rw [hd, he, if_pos ⟨rfl, rfl⟩] at hl
            obtain ⟨he1, he2, he3⟩ := areDig_iff.mp he
            refine iteF ⟨_, rfl, p, _, rfl, .inl (SqL.of hp), rfl, _, rfl, ite2 (fun _ => ?_) (fun q => by simp at q)⟩
            exact ⟨_, rfl, p, _, _, _, rfl, rfl, SqL.of hp, atI_nat (j := 1) rfl, q5 sg p q0 q1 [q1] w' d' _ sm hp c0 c1 hd3 he3 hd2 he2 hl⟩
      | @cons q2 e' qs' ls' c2 hL =>
        dsimp only at hl
        refine ⟨_, rfl, p, _, rfl, .inl (SqL.of hp), _, _, rfl, rfl, _, rfl, ite2 (fun _ => k0 _ sm hl) fun q => ?_⟩
        refine absurd (decide_eq_true ?_) q
        simp only [List.map_cons, List.length_cons]
        omega
    refine ⟨_, (pss_cons (ps_set (i := 2) nd rfl (Or.inl rfl) (pe_cmpR (op_eqD hu64) (pe_slice sl_list (pv 1) po_none (po_some pe_int)) (pe_lst (pa_cons (pe_gi T.c_MINUS) pa_nil)) (nomark _)))
      (pss_cons (ps_set (i := 3) nd rfl (Or.inl rfl) (pe_own O_parted (hr.mono (by decide)) pass0 (pa_cons (pe_ifExp (pt_val (pv 2)) (pe_slice sl_list (pv 1) (po_some pe_int) po_none) (pv 1)) (pa_cons (pe_gi T.c_POINT) pa_nil))))
      h2)), ?_⟩
    have e1 : cutV (bv b) none (some 1) = bv (b.take 1) := bcut_to b 1
    refine ⟨_, rfl, (1 : Int), rfl, a, _, rfl, hS, ?_⟩
    rw [e1]
    refine fun p hp => ⟨(by show 1 ≤ 2 ^ 24; decide), fun q hq => ?_⟩
    have sp1 : Same H (upd H p (.lst (bv (b.take 1)))) := Same.upd hp
    have pq : p ≠ q := ne_of_none upd_same hq
    have sp2 := sp1.trans (Same.upd (o := .lst [V.int 45]) hq)
    refine ⟨_, _, dp_ints (l := bi (b.take 1)) (SqL.of (by rw [upd_ne pq, upd_same])), dp_ints (l := [45]) (SqL.of upd_same), shaped_ints _, shaped_ints _, ?_⟩
    rw [eqv_ints, show ([45] : List Int) = bi [45] from rfl, bi_dec]
    have hl : limI b = (match (if decide (b.take 1 = [45]) = true then b.drop 1 else b).splitOn 46 with
            | [w] => if areDig w 1 24 = true then some (limW (decide (b.take 1 = [45])) w []) else none
            | [w, d] => if areDig w 1 24 = true ∧ areDig d 1 12 = true then some (limW (decide (b.take 1 = [45])) w d) else none
            | _ => none) := rfl
    refine ⟨_, rfl, _, rfl, ?_⟩
    cases hs : decide (b.take 1 = [45]) with
    | true =>
      rw [hs, if_pos rfl] at hl
      have e2 : cutV (bv b) (some 1) none = bv (b.drop 1) := bcut_from b 1
      refine iteT ⟨_, rfl, (1 : Int), rfl, a, _, rfl, sp2.seq hS, ?_⟩
      rw [e2]
      refine fun r hr' => ⟨r, _, 46, rfl, SqL.of upd_same, (by rw [List.length_drop]; omega), fun p' H' qs sm hp' hL => ?_⟩
      have := split_len (c := 46) (b.drop 1)
      rw [List.length_drop] at this
      exact q2 true p' qs _ H' ((sp2.trans (Same.upd hr')).trans sm) hp' hL (split_ne _ _) (by omega) hl
    | false =>
      rw [hs, if_neg (by simp)] at hl
      refine iteF ⟨_, rfl, a, b, 46, rfl, sp2.seq hS, (by omega), fun p' H' qs sm hp' hL => ?_⟩
      have := split_len (c := 46) b
      exact q2 false p' qs _ H' (sp2.trans sm) hp' hL (split_ne _ _) (by omega) hl
end
end NP
end
section
set_option Elab.async false
set_option linter.all false
set_option maxRecDepth 100000
set_option maxHeartbeats 1000000
namespace NP
open PySem PySem.Spec PyProof.Rows L2
open Sv68 (isDigit lower)
def fs_Piece (v1 v2 v3 : V) : List (Str × V) := (putF "end" v3 (putF "value" v2 (putF "name" v1 [])))
theorem fs_Piece_name (v1 v2 v3 : V) : (fs_Piece v1 v2 v3).lookup ("name" : Str) = some v1 := by
  unfold fs_Piece
  rw [lookup_putF, if_neg (by decide +kernel), lookup_putF, if_neg (by decide +kernel), lookup_putF, if_pos rfl]
theorem fs_Piece_value (v1 v2 v3 : V) : (fs_Piece v1 v2 v3).lookup ("value" : Str) = some v2 := by
  unfold fs_Piece
  rw [lookup_putF, if_neg (by decide +kernel), lookup_putF, if_pos rfl]
theorem fs_Piece_end (v1 v2 v3 : V) : (fs_Piece v1 v2 v3).lookup ("end" : Str) = some v3 := by
  unfold fs_Piece
  rw [lookup_putF, if_pos rfl]
structure Tx_Piece (K : PySem.W.Frag) (C : Addr) : Prop where
  cl : Cls K C
  n_name : NoAttr K C "name"
  n_value : NoAttr K C "value"
  n_end : NoAttr K C "end"
def At_Piece (C : Addr) (H : Hp) (a : Addr) (v1 v2 v3 : V) : Prop := ∃ dx, H a = some (.ins C dx (fs_Piece v1 v2 v3))
abbrev si_Piece : Stmt := inClass (top 52) 0
def sp_Piece (C : Addr) : Sp := fun vs H Q _ => ∃ (p dx : Addr) (v1 v2 v3 : V), vs = [.ref p, v1, v2, v3] ∧ H p = some (.ins C dx []) ∧ Q .non (upd H p (.ins C dx (fs_Piece v1 v2 v3)))
theorem sc_Piece : FnScope ["self", "name", "value", "end"] ["self", "name", "value", "end"] (defScope si_Piece) := ⟨rfl, rfl, rfl, by decide +kernel, rfl, by decide +kernel, by decide +kernel⟩
theorem ok_Piece {P : Program} {w : World} {K : PySem.W.Frag} {mg : Str → Option Value} {base : Heap} {f C : Addr} {fd : FuncData} (T : Tx_Piece K C) (F : Fun K "__init__" "Piece.__init__" si_Piece f fd) : FnOk P w K mg base CX0 1 f fd ["self", "name", "value", "end"] (sp_Piece C) := by
  refine F.ok sc_Piece (fun vs H Q E h => ?_) (fun cdv A outer s H vs Q E hr h => ?_)
  · obtain ⟨p, dx, v1, v2, v3, rfl, _⟩ := h
    rfl
  · obtain ⟨p, dx, v1, v2, v3, rfl, hp, k⟩ := h
    refine ⟨_, (pss_cons (ps_fld (pv 0) (pv 1) rfl) (pss_cons (ps_fld (pv 0) (pv 2) rfl) (pss_one (ps_fld (pv 0) (pv 3) rfl)))), ?_⟩
    refine ⟨_, rfl, _, rfl, p, C, dx, [], rfl, hp, T.cl, T.n_name, (by show 0 < 1000; decide), ?_⟩
    refine ⟨_, rfl, _, rfl, p, C, dx, _, rfl, upd_same, T.cl, T.n_value, (by show 1 < 1000; decide), ?_⟩
    refine ⟨_, rfl, _, rfl, p, C, dx, _, rfl, upd_same, T.cl, T.n_end, (by show 2 < 1000; decide), ?_⟩
    rw [upd_upd, upd_upd]
    exact k
def fs_Part (v1 v2 v3 : V) : List (Str × V) := (putF "decimals" v3 (putF "size" v2 (putF "letter" v1 [])))
structure Tx_Part (K : PySem.W.Frag) (C : Addr) : Prop where
  cl : Cls K C
  n_letter : NoAttr K C "letter"
  n_size : NoAttr K C "size"
  n_decimals : NoAttr K C "decimals"
def At_Part (C : Addr) (H : Hp) (a : Addr) (v1 v2 v3 : V) : Prop := ∃ dx, H a = some (.ins C dx (fs_Part v1 v2 v3))
abbrev si_Part : Stmt := inClass (top 53) 0
def sp_Part (C : Addr) : Sp := fun vs H Q _ => ∃ (p dx : Addr) (v1 v2 v3 : V), vs = [.ref p, v1, v2, v3] ∧ H p = some (.ins C dx []) ∧ Q .non (upd H p (.ins C dx (fs_Part v1 v2 v3)))
theorem sc_Part : FnScope ["self", "letter", "size", "decimals"] ["self", "letter", "size", "decimals"] (defScope si_Part) := ⟨rfl, rfl, rfl, by decide +kernel, rfl, by decide +kernel, by decide +kernel⟩
theorem ok_Part {P : Program} {w : World} {K : PySem.W.Frag} {mg : Str → Option Value} {base : Heap} {f C : Addr} {fd : FuncData} (T : Tx_Part K C) (F : Fun K "__init__" "Part.__init__" si_Part f fd) : FnOk P w K mg base CX0 1 f fd ["self", "letter", "size", "decimals"] (sp_Part C) := by
  refine F.ok sc_Part (fun vs H Q E h => ?_) (fun cdv A outer s H vs Q E hr h => ?_)
  · obtain ⟨p, dx, v1, v2, v3, rfl, _⟩ := h
    rfl
  · obtain ⟨p, dx, v1, v2, v3, rfl, hp, k⟩ := h
    refine ⟨_, (pss_cons (ps_fld (pv 0) (pv 1) rfl) (pss_cons (ps_fld (pv 0) (pv 2) rfl) (pss_one (ps_fld (pv 0) (pv 3) rfl)))), ?_⟩
    refine ⟨_, rfl, _, rfl, p, C, dx, [], rfl, hp, T.cl, T.n_letter, (by show 0 < 1000; decide), ?_⟩
    refine ⟨_, rfl, _, rfl, p, C, dx, _, rfl, upd_same, T.cl, T.n_size, (by show 1 < 1000; decide), ?_⟩
    refine ⟨_, rfl, _, rfl, p, C, dx, _, rfl, upd_same, T.cl, T.n_decimals, (by show 2 < 1000; decide), ?_⟩
    rw [upd_upd, upd_upd]
    exact k
inductive Pc where
  | text (b : Bytes)
  | sign (nm : Str) (c : UInt8)
  | exponent (c : UInt8)
  | word (nm : Str) (n : Nat)
  | part (l : UInt8) (n d : Nat)
  | passed (l : UInt8) (n d : Nat)
  | colour (k : Nat)
  | condition (z : Str) (v : Int)
def Pc.name : Pc → Str
  | .text _ => "text"
  | .sign nm _ => nm
  | .exponent _ => "exponent"
  | .word nm _ => nm
  | .part _ _ _ => "part"
  | .passed _ _ _ => "passed"
  | .colour _ => "colour"
  | .condition _ _ => "condition"
structure Cs where
  piece : Addr
  part : Addr
  condition : Addr
def Pc.val (C : Cs) (H0 H : Hp) (v : V) : Pc → Prop
  | .text b => ∃ q, v = .ref q ∧ H0 q = none ∧ H q = some (.lst (bv b))
  | .sign _ c => v = .int c.toNat
  | .exponent c => v = .int c.toNat
  | .word _ n => v = .int n
  | .part l n d => ∃ q, v = .ref q ∧ H0 q = none ∧ At_Part C.part H q (.int l.toNat) (.int n) (.int d)
  | .passed l n d => ∃ q, v = .ref q ∧ H0 q = none ∧ At_Part C.part H q (.int l.toNat) (.int n) (.int d)
  | .colour k => v = .int k
  | .condition z x => ∃ q, v = .ref q ∧ H0 q = none ∧ At_Condition C.condition H q (.str z) (.int x)
def PieceAt (C : Cs) (H0 H : Hp) (a : Addr) (p : Pc) (e : Nat) : Prop := H0 a = none ∧ ∃ v, At_Piece C.piece H a (.str p.name) v (.int e) ∧ p.val C H0 H v
theorem Pc.val_to {C : Cs} {H0 H1 H H' : Hp} {v : V} {p : Pc} (f : ∀ a o, H0 a = none → H a = some o → H1 a = none) (s : ∀ a o, H0 a = none → H a = some o → H' a = some o) (h : p.val C H0 H v) : p.val C H1 H' v := by
  cases p with
  | text b => obtain ⟨q, e, n, h⟩ := h; exact ⟨q, e, f _ _ n h, s _ _ n h⟩
  | sign nm c => exact h
  | exponent c => exact h
  | word nm n => exact h
  | part l n d => obtain ⟨q, e, m, dx, h⟩ := h; exact ⟨q, e, f _ _ m h, dx, s _ _ m h⟩
  | passed l n d => obtain ⟨q, e, m, dx, h⟩ := h; exact ⟨q, e, f _ _ m h, dx, s _ _ m h⟩
  | colour k => exact h
  | condition z x => obtain ⟨q, e, m, dx, h⟩ := h; exact ⟨q, e, f _ _ m h, dx, s _ _ m h⟩
theorem PieceAt.to {C : Cs} {H0 H1 H H' : Hp} {a : Addr} {p : Pc} {e : Nat} (f : ∀ a o, H0 a = none → H a = some o → H1 a = none) (s : ∀ a o, H0 a = none → H a = some o → H' a = some o) (h : PieceAt C H0 H a p e) : PieceAt C H1 H' a p e := by
  obtain ⟨n, v, ⟨dx, h1⟩, h2⟩ := h
  exact ⟨f _ _ n h1, v, ⟨dx, s _ _ n h1⟩, Pc.val_to f s h2⟩
theorem PieceAt.same {C : Cs} {H0 H H' : Hp} (s : Same H H') {a : Addr} {p : Pc} {e : Nat} (h : PieceAt C H0 H a p e) : PieceAt C H0 H' a p e := h.to (fun _ _ z _ => z) fun a o _ z => s a o z
theorem PieceAt.old {C : Cs} {H0 H1 H : Hp} (s : Same H1 H0) {a : Addr} {p : Pc} {e : Nat} (h : PieceAt C H0 H a p e) : PieceAt C H1 H a p e := h.to (fun _ _ z _ => s.free z) fun _ _ _ z => z
theorem PieceAt.off {C : Cs} {H0 H : Hp} {a l : Addr} {p : Pc} {e : Nat} {o o' : HO} (hl : H0 l = some o) (h : PieceAt C H0 H a p e) : PieceAt C H0 (upd H l o') a p e := h.to (fun _ _ z _ => z) fun b u n z => by
  rw [upd_ne (fun e => by rw [e, hl] at n; cases n)]
  exact z
def COMPS : List Str := ["<=", ">=", "<>", "<", ">", "="]
def condL : List Str → Bytes → Option (Str × Int)
  | [], _ => none
  | z :: r, b => if begI (bi b) 0 z = true then (Sv68.decimalIn (b.drop z.length)).map fun v => (z, v) else condL r b
def condI (b : Bytes) : Option (Str × Int) := condL COMPS b
section
variable {P : Program} {w : World} {K : PySem.W.Frag} {mg : Str → Option Value} {base : Heap}
abbrev sRcond : Stmt := top 41
theorem scRcond : FnScope ["inner", "comparison"] ["inner"] (defScope sRcond) := ⟨rfl, rfl, rfl, by decide +kernel, rfl, by decide +kernel, by decide +kernel⟩
def spRcond (K : PySem.W.Frag) (C : Addr) : Sp := fun vs H Q _ => ∃ a b, vs = [.ref a] ∧ SqL K H a (bv b) ∧ b.length ≤ 300 ∧
  (∀ H', Same H H' → condI b = none → Q .non H') ∧ ∀ H' c z v, Same H H' → condI b = some (z, v) → H c = none → At_Condition C H' c (.str z) (.int v) → Q (.ref c) H'
theorem ok_rcond {f C : Addr} {fd : FuncData} (T : TX P w K mg) (O_begins_with : Own P w K mg base CX0 2 "begins_with" ["codes", "at", "word"] (spBegins K)) (O_read_limit : Own P w K mg base CX0 3 "read_limit" ["comparison", "codes"] (spRlim K C))
    (F : Fun K "read_condition" "read_condition" sRcond f fd) : FnOk P w K mg base CX0 4 f fd ["inner"] (spRcond K C) := by
  refine F.ok scRcond (fun vs H Q E h => ?_) (fun cdv A outer s H vs Q E hr h => ?_)
  · obtain ⟨a, b, rfl, _⟩ := h
    rfl
  · obtain ⟨a, b, rfl, hS, hlen, k0, k1⟩ := h
    have nd := scRcond.nd
    obtain ⟨a_COMPARISONS, g_COMPARISONS, s_COMPARISONS⟩ := T.c_COMPARISONS
    refine ⟨_, (pss_cons (ps_for PassesOwn.never rfl (pi_tup (pe_gr g_COMPARISONS)) (pg_name (i := 1) nd rfl (Or.inl rfl)) (pss_one (ps_if (pt_val (pe_own O_begins_with (hr.mono (by decide)) pass0 (pa_cons (pv 0) (pa_cons pe_int (pa_cons (pv 1) pa_nil))))) (pss_one (ps_ret (pe_own O_read_limit (hr.mono (by decide)) pass0 (pa_cons (pv 1) (pa_cons (pe_slice sl_list (pv 0) (po_some (pe_callB call_len_str rfl T.n_len (by decide +kernel) (pa_cons (pv 1) pa_nil))) po_none) pa_nil))))) pss_nil)))
      (pss_one (ps_ret pe_non))), ?_⟩
    refine ⟨a_COMPARISONS, rfl, ⟨_, s_COMPARISONS _⟩, for_tup (K := K) (a := a_COMPARISONS) (xs := COMPS.map V.str) (fun i σ H' => ∃ v : Option V, σ = [some (.ref a), v] ∧ Same H H' ∧ condI b = condL (COMPS.drop i) b) ⟨none, rfl, Same.refl H, rfl⟩ (fun i σ H' _ _ => s_COMPARISONS _) ?_ ?_⟩
    · rintro i y σ H' hy ⟨v, rfl, sm, hc⟩
      rw [List.getElem?_map] at hy
      obtain ⟨z, hz, rfl⟩ := Option.map_eq_some_iff.mp hy
      have hzl : z.length ≤ 2 := by
        have : ∀ z ∈ COMPS, z.length ≤ 2 := by decide +kernel
        exact this z (List.mem_of_getElem? hz)
      rw [drop_get hz] at hc
      unfold condL at hc
      refine ⟨_, rfl, _, rfl, a, bi b, 0, z, rfl, sm.seq hS, Nat.zero_le _, by omega, fun H2 s2 => ⟨_, rfl, ite2 (fun q => ?_) (fun q => ?_)⟩⟩
      · rw [if_pos q] at hc
        have s3 := sm.trans s2
        refine ⟨_, rfl, _, rfl, _, rfl, z, rfl, (by show z.length ≤ 2 ^ 24; omega), (z.length : Int), rfl, a, _, rfl, s3.seq hS, ?_⟩
        rw [bcut_from]
        refine fun r hr' => ⟨z, r, _, rfl, SqL.of upd_same, (by rw [List.length_drop]; omega), fun H4 s4 hn => ?_, fun H4 c v s4 hv hf hA => ?_⟩
        · rw [hn] at hc
          exact k0 H4 ((s3.trans (Same.upd hr')).trans s4) hc
        · rw [hv] at hc
          exact k1 H4 c z v ((s3.trans (Same.upd hr')).trans s4) hc ((s3.trans (Same.upd hr')).free hf) hA
      · rw [if_neg q] at hc
        exact ⟨_, rfl, sm.trans s2, hc⟩
    · rintro σ H' ⟨v, rfl, sm, hc⟩
      exact k0 H' sm hc
variable {CN : Addr} {B newId initId : String} {bm : List Value}
abbrev sClose : Stmt := top 55
theorem scClose : FnScope ["picture", "at", "closing", "end"] ["picture", "at", "closing"] (defScope sClose) := ⟨rfl, rfl, rfl, by decide +kernel, rfl, by decide +kernel, by decide +kernel⟩
def upTo (b : Bytes) (i : Nat) (c : UInt8) : Nat := ((b.drop i).takeWhile fun x => x != c).length
def spClose (K : PySem.W.Frag) (CN : Addr) : Sp := fun vs H Q E => ∃ a b, ∃ (i : Nat) (c : UInt8), vs = [.ref a, .int i, .int c.toNat] ∧ SqL K H a (bv b) ∧ i < b.length ∧
  (i + 1 + upTo b (i + 1) c = b.length → E (.ref CN) none H) ∧ (i + 1 + upTo b (i + 1) c < b.length → Q (.int ((i + 1 + upTo b (i + 1) c : Nat) : Int)) H)
theorem upTo_le (b : Bytes) (i : Nat) (c : UInt8) (h : i ≤ b.length) : i + upTo b i c ≤ b.length := by
  unfold upTo
  have := ((b.drop i).takeWhile_prefix fun x => x != c).length_le
  rw [List.length_drop] at this
  omega
theorem ok_close {f : Addr} {fd : FuncData} (T : TX P w K mg) (EX_NoPicture : OwnCls "NoPicture" CN bm newId mg base) (FB : ExcBaseFacts B newId initId bm) (F : Fun K "closing_place" "closing_place" sClose f fd) : FnOk P w K mg base (CXN P w CN) 1 f fd ["picture", "at", "closing"] (spClose K CN) := by
  refine F.okX scClose (fun vs H Q E h => ?_) (fun cdv A outer s H vs Q E hr h xk hp => ?_)
  · obtain ⟨a, b, i, c, rfl, _⟩ := h
    rfl
  · obtain ⟨a, b, i, c, rfl, hS, hi, k0, k1⟩ := h
    have nd := scClose.nd
    refine ⟨_, (pss_cons (ps_set (i := 3) nd rfl (Or.inl rfl) (pe_op op_add (pv 1) pe_int))
      (pss_cons (ps_while hp (PW.pt (pw_and (pt_cmpR op_lt (pv 3) (pe_callB call_len_seq rfl T.n_len (by decide +kernel) (pa_cons (pv 0) pa_nil)) (nomark _)) (pw_and1 (pt_cmpR op_ne (pe_ix ix_list (pv 0) (pv 3) (fun _ _ => rfl)) (pv 2) (nomark _))))) (pss_one (ps_aug (i := 3) nd rfl (Or.inl rfl) pe_int ip_add)))
      (pss_cons (ps_if (pt_cmpR op_eq (pv 3) (pe_callB call_len_seq rfl T.n_len (by decide +kernel) (pa_cons (pv 0) pa_nil)) (nomark _)) (pss_one (ps_raise EX_NoPicture FB rfl xk rfl (pa_cons pe_str pa_nil))) pss_nil)
      (pss_one (ps_ret (pv 3)))))), ?_⟩
    refine ⟨_, rfl, _, _, rfl, rfl, ?_⟩
    refine ⟨fun m σ H' => ∃ j : Nat, σ = [some (.ref a), some (.int i), some (.int c.toNat), some (.int j)] ∧ H = H' ∧ j ≤ b.length ∧ j + upTo b j c = i + 1 + upTo b (i + 1) c ∧ m = b.length - j, ⟨_, i + 1, rfl, rfl, hi, rfl, rfl⟩, ?_⟩
    rintro m σ H' ⟨j, rfl, rfl, hj, hd, rfl⟩
    have fin : upTo b j c = 0 → (if decide (V.int (j : Int) = V.int (((bv b).length : Nat) : Int)) = true then (1 ≤ sizeLine ∧ E (.ref CN) none H) else Q (.int j) H) := fun z => by
      rw [z, Nat.add_zero] at hd
      refine ite2 (fun q => ⟨by decide, k0 ?_⟩) fun q => ?_
      · have := V.int.inj (of_decide_eq_true q)
        rw [bv_length] at this
        omega
      · have hlt : j < b.length := by
          rcases Nat.lt_or_ge j b.length with h | h
          · exact h
          · exact absurd (decide_eq_true (by rw [bv_length, show j = b.length by omega])) q
        rw [← hd] at k1
        exact k1 hlt
    refine ⟨_, rfl, _, rfl, a, _, rfl, .inl hS, _, _, rfl, rfl, _, rfl, ite2 (fun q => ?_) (fun q => ?_)⟩
    · have hlt : j < b.length := by
        have := of_decide_eq_true q
        rw [bv_length] at this
        omega
      obtain ⟨x, hx⟩ : ∃ x, b[j]? = some x := ⟨_, List.getElem?_eq_getElem hlt⟩
      have ed := drop_get hx
      refine ⟨_, rfl, _, rfl, a, _, _, _, rfl, rfl, hS, atI_nat (bv_get hx), _, rfl, rfl, _, rfl, ite2 (fun q => ?_) (fun q => ?_)⟩
      · have hne : x ≠ c := fun e => by
          rw [e] at q
          simp at q
        refine ⟨_, fun σ' H' z => z, _, rfl, _, _, rfl, rfl, b.length - (j + 1), by omega, j + 1, rfl, rfl, hlt, ?_, rfl⟩
        rw [← hd]
        unfold upTo
        rw [ed, List.takeWhile_cons, if_pos (by simpa using hne), List.length_cons]
        omega
      · have he : x = c := by
          by_cases h : x = c
          · exact h
          · exact absurd (by simp [u8_eq] at h ⊢; omega) q
        have z : upTo b j c = 0 := by
          unfold upTo
          rw [ed, List.takeWhile_cons, if_neg (by simp [he])]
          rfl
        exact ⟨_, rfl, _, rfl, a, _, rfl, .inl hS, rfl, _, rfl, ite2 (fun q => by have := fin z; rw [if_pos q] at this; exact this) fun q => ⟨_, rfl, by have := fin z; rw [if_neg q] at this; exact this⟩⟩
    · have hge : b.length ≤ j := by
        have : ¬ (j : Int) < ((bv b).length : Int) := fun z => q (decide_eq_true z)
        rw [bv_length] at this
        omega
      have z : upTo b j c = 0 := by
        unfold upTo
        rw [List.drop_of_length_le hge]
        rfl
      exact iteF ⟨_, rfl, _, rfl, a, _, rfl, .inl hS, rfl, _, rfl, ite2 (fun q => by have := fin z; rw [if_pos q] at this; exact this) fun q => ⟨_, rfl, by have := fin z; rw [if_neg q] at this; exact this⟩⟩
end
end NP
end
section
set_option Elab.async false
set_option linter.all false
set_option maxRecDepth 100000
set_option maxHeartbeats 1000000
namespace NP
open PySem PySem.Spec PyProof.Rows L2
open Sv68 (isDigit lower tenths)
def csz (c : UInt8) : Nat := (csize c.toNat).toNat
theorem csz_eq (c : UInt8) : ((csz c : Nat) : Int) = csize c.toNat := Int.toNat_of_nonneg (csize_le _).1
section
variable {P : Program} {w : World} {K : PySem.W.Frag} {mg : Str → Option Value} {base : Heap} {CN : Addr} {B newId initId : String} {bm : List Value}
abbrev sRbeh : Stmt := top 56
theorem scRbeh : FnScope ["picture", "at", "end"] ["picture", "at"] (defScope sRbeh) := ⟨rfl, rfl, rfl, by decide +kernel, rfl, by decide +kernel, by decide +kernel⟩
def behC (c d : UInt8) (r : Bytes) : Bytes := if c = 95 then [32] else r.take (csz d)
def spRbeh (K : PySem.W.Frag) (C : Cs) (CN : Addr) : Sp := fun vs H Q E => ∃ a b, ∃ (i : Nat) (c : UInt8), vs = [.ref a, .int i] ∧ SqL K H a (bv b) ∧ b[i]? = some c ∧
  (i + 1 = b.length → ∀ H', Same H H' → E (.ref CN) none H') ∧ (∀ d a' H', b[i + 1]? = some d → Same H H' → PieceAt C H H' a' (.text (behC c d (b.drop (i + 1)))) (i + 1 + csz d) → Q (.ref a') H')
theorem ok_rbeh {f : Addr} {fd : FuncData} {C : Cs} (T : TX P w K mg) (EX_NoPicture : OwnCls "NoPicture" CN bm newId mg base) (FB : ExcBaseFacts B newId initId bm) (O_character_size : Own P w K mg base CX0 1 "character_size" ["first"] spCsize)
    (O_Piece : OwnC P w K mg base CX0 1 C.piece "Piece" ["self", "name", "value", "end"] (sp_Piece C.piece)) (F : Fun K "read_character_behind" "read_character_behind" sRbeh f fd) : FnOk P w K mg base (CXN P w CN) 3 f fd ["picture", "at"] (spRbeh K C CN) := by
  refine F.okX scRbeh (fun vs H Q E h => ?_) (fun cdv A outer s H vs Q E hr h xk hp => ?_)
  · obtain ⟨a, b, i, c, rfl, _⟩ := h
    rfl
  · obtain ⟨a, b, i, c, rfl, hS, hc, k0, k1⟩ := h
    have nd := scRbeh.nd
    have hil := (List.getElem?_eq_some_iff.mp hc).1
    refine ⟨_, (pss_cons (ps_if (pt_cmpR op_eq (pe_op op_add (pv 1) pe_int) (pe_callB call_len_seq rfl T.n_len (by decide +kernel) (pa_cons (pv 0) pa_nil)) (nomark _)) (pss_one (ps_raise EX_NoPicture FB rfl xk rfl (pa_cons pe_str pa_nil))) pss_nil)
      (pss_cons (ps_set (i := 2) nd rfl (Or.inl rfl) (pe_op op_add (pe_op op_add (pv 1) pe_int) (pe_own O_character_size (hr.mono (by decide)) pass0 (pa_cons (pe_ix ix_list (pv 0) (pe_op op_add (pv 1) pe_int) (fun _ _ => rfl)) pa_nil))))
      (pss_one (ps_ret (pe_new O_Piece (hr.mono (by decide)) pass0 (pa_cons pe_str (pa_cons (pe_ifExp (pt_cmpR op_eq (pe_ix ix_list (pv 0) (pv 1) (fun _ _ => rfl)) (pe_gi T.c_UNDERSCORE) (nomark _)) (pe_lst (pa_cons (pe_gi T.c_BLANK) pa_nil)) (pe_slice sl_list (pv 0) (po_some (pe_op op_add (pv 1) pe_int)) (po_some (pv 2)))) (pa_cons (pv 2) pa_nil)))))))), ?_⟩
    refine ⟨_, rfl, _, _, rfl, rfl, _, rfl, a, _, rfl, .inl hS, rfl, _, rfl, ite2 (fun q => ⟨by decide, k0 ?_ H (Same.refl H)⟩) fun q => ?_⟩
    · have := V.int.inj (of_decide_eq_true q)
      rw [bv_length] at this
      omega
    · have hlt : i + 1 < b.length := by
        rcases Nat.lt_or_ge (i + 1) b.length with h | h
        · exact h
        · exact absurd (decide_eq_true (by rw [bv_length, show b.length = i + 1 by omega]; rfl)) q
      obtain ⟨d, hd⟩ : ∃ d, b[i + 1]? = some d := ⟨_, List.getElem?_eq_getElem hlt⟩
      have k1 := k1 d
      have ad : atI (bv b) ((i : Int) + 1) = some (V.int d.toNat) := at_of (j := i + 1) (by omega) (bv_get hd)
      refine ⟨_, rfl, _, _, rfl, rfl, _, rfl, _, rfl, _, _, rfl, rfl, a, _, _, _, rfl, rfl, hS, ad, _, rfl, _, _, rfl, rfl, ?_⟩
      have ee : (i : Int) + 1 + csize d.toNat = ((i + 1 + csz d : Nat) : Int) := by
        have := csz_eq d
        omega
      have fin : ∀ (q : Addr) (H3 : Hp), H q = none → Same H H3 → H3 q = some (.lst (bv (behC c d (b.drop (i + 1))))) → ∀ x dx : Addr, H3 x = none → H3 dx = none → dx ≠ x →
          sp_Piece C.piece (.ref x :: ([.str "text", .ref q, .int ((i : Int) + 1 + csize d.toNat)] ++ [])) (upd (upd H3 dx (.own x)) x (.ins C.piece dx [])) (fun v H2 => v = .non ∧ Q (.ref x) H2) E0 := by
        intro q H3 hqn s4 hq x dx hx hdx hne
        refine ⟨x, dx, _, _, _, rfl, upd_same, rfl, k1 x _ hd (s4.ins hx hdx) ⟨s4.free hx, _, ⟨dx, ?_⟩, q, rfl, hqn, ?_⟩⟩
        · rw [upd_same, ← ee]
          rfl
        · exact (Same.refl H3).ins hx hdx _ _ hq
      refine ⟨_, rfl, _, rfl, a, _, _, _, rfl, rfl, hS, atI_nat (bv_get hc), rfl, _, rfl, ite2 (fun q => ?_) (fun q => ?_)⟩
      · have e : c = 95 := u8_eq.mpr (V.int.inj (of_decide_eq_true q))
        refine ⟨by decide, fun p hp => ⟨_, rfl, fun x dx hx hdx hne => fin p _ hp (Same.upd hp) ?_ x dx hx hdx hne⟩⟩
        rw [upd_same]
        unfold behC
        rw [if_pos e]
        rfl
      · have e : c ≠ 95 := fun e => q (by rw [e]; rfl)
        refine ⟨_, rfl, _, rfl, _, _, rfl, rfl, (((i + 1 : Nat)) : Int), rfl, _, rfl, ((i + 1 + csz d : Nat) : Int), ?_, a, _, rfl, hS, ?_⟩
        · rw [← ee]
        · rw [bcut]
          refine fun p hp => ⟨_, rfl, fun x dx hx hdx hne => fin p _ hp (Same.upd hp) ?_ x dx hx hdx hne⟩
          rw [upd_same]
          unfold behC
          rw [if_neg e, show i + 1 + csz d - (i + 1) = csz d by omega]
abbrev sCdec : Stmt := top 59
theorem scCdec : FnScope ["picture", "at", "end"] ["picture", "at"] (defScope sCdec) := ⟨rfl, rfl, rfl, by decide +kernel, rfl, by decide +kernel, by decide +kernel⟩
def spCdec (K : PySem.W.Frag) : Sp := fun vs H Q _ => ∃ a b, ∃ (i : Nat), vs = [.ref a, .int i] ∧ SqL K H a (bv b) ∧ ∀ H', Same H H' → Q (.int (tenths (b.drop i))) H'
theorem head_take (b : Bytes) (c : UInt8) : b.head? = some c ↔ b.take 1 = [c] := by
  cases b <;> simp
theorem ok_cdec {f : Addr} {fd : FuncData} (T : TX P w K mg) (F : Fun K "count_decimals" "count_decimals" sCdec f fd) : FnOk P w K mg base CX0 1 f fd ["picture", "at"] (spCdec K) := by
  refine F.ok scCdec (fun vs H Q E h => ?_) (fun cdv A outer s H vs Q E hr h => ?_)
  · obtain ⟨a, b, i, rfl, _⟩ := h
    rfl
  · obtain ⟨a, b, i, rfl, hS, k⟩ := h
    have nd := scCdec.nd
    have hu64 := hr.units
    refine ⟨_, (pss_cons (ps_if (pt_cmpR (op_neD hu64) (pe_slice sl_list (pv 0) (po_some (pv 1)) (po_some (pe_op op_add (pv 1) pe_int))) (pe_lst (pa_cons (pe_gi T.c_POINT) pa_nil)) (nomark _)) (pss_one (ps_ret pe_int)) pss_nil)
      (pss_cons (ps_set (i := 2) nd rfl (Or.inl rfl) (pe_op op_add (pv 1) pe_int))
      (pss_cons (ps_while PassesOwn.never (PW.pt (pw_and (pt_cmpR op_le (pv 2) (pe_op op_add (pv 1) (pe_gi T.c_MOST_DECIMALS_OF_SECONDS)) (nomark _)) (pw_and1 (pt_cmpR (op_eqD hu64) (pe_slice sl_list (pv 0) (po_some (pv 2)) (po_some (pe_op op_add (pv 2) pe_int))) (pe_lst (pa_cons (pe_gi T.c_ZERO) pa_nil)) (nomark _))))) (pss_one (ps_aug (i := 2) nd rfl (Or.inl rfl) pe_int ip_add)))
      (pss_one (ps_ret (pe_op op_sub (pe_op op_sub (pv 2) (pv 1)) pe_int)))))), ?_⟩
    -- a slice of one against a list of one
    have ec : ∀ j : Nat, cutV (bv b) (some (j : Int)) (some ((j : Int) + 1)) = bv ((b.drop j).take 1) := fun j => by
      have := bcut b j (j + 1)
      rw [show j + 1 - j = 1 by omega] at this
      exact this
    unfold tenths at k
    refine ⟨_, rfl, _, rfl, (i : Int), rfl, _, rfl, _, _, rfl, rfl, (i : Int) + 1, rfl, a, _, rfl, hS, ?_⟩
    rw [ec i]
    refine fun p hp => ⟨by decide, fun q hq => ?_⟩
    have pq : p ≠ q := ne_of_none upd_same hq
    have s1 := (Same.upd (o := .lst (bv ((b.drop i).take 1))) hp).trans (Same.upd (o := .lst [V.int 46]) hq)
    refine ⟨_, _, dp_ints (l := bi ((b.drop i).take 1)) (SqL.of (by rw [upd_ne pq, upd_same])), dp_ints (l := [46]) (SqL.of upd_same), shaped_ints _, shaped_ints _, ?_⟩
    rw [eqv_ints, show ([46] : List Int) = bi [46] from rfl, bi_dec]
    refine ⟨_, rfl, ite2 (fun z => ?_) (fun z => ?_)⟩
    · have : ¬ (b.drop i).head? = some 46 := by
        rw [head_take]
        simpa using z
      rw [if_neg this] at k
      exact k _ s1
    · have hh : (b.drop i).head? = some 46 := by
        rw [head_take]
        simpa using z
      rw [if_pos hh, List.drop_drop] at k
      refine ⟨_, rfl, _, _, rfl, rfl, ?_⟩
      have hp46 : ∀ j : Nat, (b.drop j).head? ≠ some 48 → ((b.drop j).takeWhile fun c => c == 48).length = 0 := fun j h => by
        cases e : b.drop j with
        | nil => rfl
        | cons x r =>
          rw [e] at h
          rw [List.takeWhile_cons, if_neg (by simpa using h)]
          rfl
      refine ⟨fun m σ H' => ∃ n : Nat, σ = [some (.ref a), some (.int i), some (.int ((i + 1 + n : Nat) : Int))] ∧ Same H H' ∧ n ≤ 3 ∧ min 3 ((b.drop (i + 1)).takeWhile fun c => c == 48).length = n + min (3 - n) ((b.drop (i + 1 + n)).takeWhile fun c => c == 48).length ∧ m = 3 - n,
        ⟨_, 0, rfl, s1, Nat.zero_le _, by simp, rfl⟩, ?_⟩
      rintro m σ H' ⟨n, rfl, sm, hn, hT, rfl⟩
      refine ⟨_, rfl, _, rfl, _, _, rfl, rfl, _, _, rfl, rfl, _, rfl, ite2 (fun z => ?_) (fun z => ?_)⟩
      · have hn3 : n < 3 := by
          have := of_decide_eq_true z
          omega
        refine ⟨_, rfl, _, rfl, ((i + 1 + n : Nat) : Int), rfl, _, rfl, _, _, rfl, rfl, ((i + 1 + n : Nat) : Int) + 1, rfl, a, _, rfl, sm.seq hS, ?_⟩
        rw [ec (i + 1 + n)]
        refine fun p hp => ⟨by decide, fun q hq => ?_⟩
        have pq : p ≠ q := ne_of_none upd_same hq
        have s2 := sm.trans ((Same.upd (o := .lst (bv ((b.drop (i + 1 + n)).take 1))) hp).trans (Same.upd (o := .lst [V.int 48]) hq))
        refine ⟨_, _, dp_ints (l := bi ((b.drop (i + 1 + n)).take 1)) (SqL.of (by rw [upd_ne pq, upd_same])), dp_ints (l := [48]) (SqL.of upd_same), shaped_ints _, shaped_ints _, ?_⟩
        rw [eqv_ints, show ([48] : List Int) = bi [48] from rfl, bi_dec]
        refine ⟨_, rfl, ite2 (fun z => ?_) (fun z => ?_)⟩
        · have h48 : (b.drop (i + 1 + n)).head? = some 48 := by
            rw [head_take]
            exact of_decide_eq_true z
          refine ⟨_, fun σ' H' z => z, _, rfl, _, _, rfl, rfl, 3 - (n + 1), by omega, n + 1, rfl, s2, by omega, ?_, rfl⟩
          rw [hT]
          cases e : b.drop (i + 1 + n) with
          | nil =>
            rw [e] at h48
            cases h48
          | cons x r =>
            rw [e] at h48
            have ex : x = 48 := Option.some.inj h48
            have er : b.drop (i + 1 + (n + 1)) = r := by
              have := List.drop_drop (i := 1) (j := i + 1 + n) (l := b)
              rw [show i + 1 + (n + 1) = i + 1 + n + 1 by omega, ← this, e]
              rfl
            rw [er, List.takeWhile_cons, if_pos (by simp [ex]), List.length_cons]
            omega
        · have h48 : (b.drop (i + 1 + n)).head? ≠ some 48 := by
            rw [Ne, head_take]
            exact fun e => z (decide_eq_true e)
          rw [hp46 _ h48, Nat.min_zero, Nat.add_zero] at hT
          refine ⟨_, rfl, _, rfl, _, _, rfl, rfl, _, _, rfl, rfl, ?_⟩
          have := k _ s2
          rw [hT] at this
          show Q (V.int (((i + 1 + n : Nat) : Int) - (i : Int) - 1)) _
          rw [show ((i + 1 + n : Nat) : Int) - (i : Int) - 1 = (n : Int) by omega]
          exact this
      · have hn3 : n = 3 := by
          rcases Nat.lt_or_ge n 3 with h | h
          · exact absurd (decide_eq_true (by omega)) z
          · omega
        subst hn3
        rw [Nat.sub_self, Nat.zero_min, Nat.add_zero] at hT
        refine iteF ⟨_, rfl, _, rfl, _, _, rfl, rfl, _, _, rfl, rfl, ?_⟩
        have := k _ sm
        rw [hT] at this
        show Q (V.int (((i + 1 + 3 : Nat) : Int) - (i : Int) - 1)) _
        rw [show ((i + 1 + 3 : Nat) : Int) - (i : Int) - 1 = ((3 : Nat) : Int) by omega]
        exact this
abbrev sMpart : Stmt := top 58
theorem scMpart : FnScope ["picture", "name", "letter", "size", "end", "decimals", "behind"] ["picture", "name", "letter", "size", "end"] (defScope sMpart) := ⟨rfl, rfl, rfl, by decide +kernel, rfl, by decide +kernel, by decide +kernel⟩
def decC (l : UInt8) (q : Bytes) : Nat := if l = 115 then tenths q else 0
def more (d : Nat) : Nat := if d = 0 then 0 else d + 1
def spMpart (K : PySem.W.Frag) (C : Cs) : Sp := fun vs H Q _ => ∃ a b, ∃ (nm : Str) (l : UInt8) (n e : Nat), vs = [.ref a, .str nm, .int l.toNat, .int n, .int e] ∧ SqL K H a (bv b) ∧
  ∀ a' q H', Same H H' → H a' = none → H q = none → At_Piece C.piece H' a' (.str nm) (.ref q) (.int ((e + more (decC l (b.drop e)) : Nat) : Int)) → At_Part C.part H' q (.int l.toNat) (.int n) (.int (decC l (b.drop e) : Nat)) → Q (.ref a') H'
theorem ok_mpart {f : Addr} {fd : FuncData} {C : Cs} (T : TX P w K mg) (O_count_decimals : Own P w K mg base CX0 1 "count_decimals" ["picture", "at"] (spCdec K)) (O_Piece : OwnC P w K mg base CX0 1 C.piece "Piece" ["self", "name", "value", "end"] (sp_Piece C.piece))
    (O_Part : OwnC P w K mg base CX0 1 C.part "Part" ["self", "letter", "size", "decimals"] (sp_Part C.part)) (F : Fun K "make_part" "make_part" sMpart f fd) : FnOk P w K mg base CX0 3 f fd ["picture", "name", "letter", "size", "end"] (spMpart K C) := by
  refine F.ok scMpart (fun vs H Q E h => ?_) (fun cdv A outer s H vs Q E hr h => ?_)
  · obtain ⟨a, b, nm, l, n, e, rfl, _⟩ := h
    rfl
  · obtain ⟨a, b, nm, l, n, e, rfl, hS, k⟩ := h
    have nd := scMpart.nd
    obtain ⟨t1, h1, q1⟩ : ∃ t1, PSs (cxOf CX0 P w K mg base ["picture", "name", "letter", "size", "end", "decimals", "behind"] "make_part" (defScope sMpart) f cdv A outer s H E).nox ((defBody sMpart).drop 1) t1 ∧
        ∀ (d : Nat) (H2 : Hp), decC l (b.drop e) = d → Same H H2 → t1 { nx := fun _ H' => Q .non H', rt := Q } [some (.ref a), some (.str nm), some (.int l.toNat), some (.int n), some (.int e), some (.int d), none] H2 := by
      refine ⟨_, (pss_cons (ps_set (i := 6) nd rfl (Or.inl rfl) (pe_ifExp (pt_cmpR op_gt (pv 5) pe_int (nomark _)) (pe_op op_add (pe_op op_add (pv 4) pe_int) (pv 5)) (pv 4)))
      (pss_one (ps_ret (pe_new O_Piece (hr.mono (by decide)) pass0 (pa_cons (pv 1) (pa_cons (pe_new O_Part (hr.mono (by decide)) pass0 (pa_cons (pv 2) (pa_cons (pv 3) (pa_cons (pv 5) pa_nil)))) (pa_cons (pv 6) pa_nil))))))), ?_⟩
      intro d H2 ed sm
      rw [ed] at k
      have fin : ∀ v : Int, v = ((e + more d : Nat) : Int) → ∀ x dx : Addr, H2 x = none → H2 dx = none → dx ≠ x → sp_Part C.part (.ref x :: ([.int l.toNat, .int n, .int d] ++ [])) (upd (upd H2 dx (.own x)) x (.ins C.part dx [])) (fun u H3 => u = .non ∧
          ∀ x' dx' : Addr, H3 x' = none → H3 dx' = none → dx' ≠ x' → sp_Piece C.piece (.ref x' :: ([.str nm, .ref x, .int v] ++ [])) (upd (upd H3 dx' (.own x')) x' (.ins C.piece dx' [])) (fun v H4 => v = .non ∧ Q (.ref x') H4) E0) E0 := by
        intro v hv x dx hx hdx hne
        refine ⟨x, dx, _, _, _, rfl, upd_same, rfl, fun x' dx' hx' hdx' hne' => ?_⟩
        refine ⟨x', dx', _, _, _, rfl, upd_same, rfl, k x' x _ (((sm.ins hx hdx)).ins hx' hdx') ((sm.ins hx hdx).free hx') (sm.free hx) ⟨dx', ?_⟩ ⟨dx, ?_⟩⟩
        · rw [upd_same, hv]
        · exact (Same.refl _).ins hx' hdx' _ _ upd_same
      refine ⟨_, rfl, _, _, rfl, rfl, _, rfl, ite2 (fun z => ?_) (fun z => ?_)⟩
      · have hd : 0 < d := by
          have := of_decide_eq_true z
          omega
        refine ⟨_, rfl, _, _, rfl, rfl, _, rfl, _, _, rfl, rfl, _, rfl, _, rfl, _, rfl, _, rfl, fun x dx hx hdx hne => ?_⟩
        have := fin ((e : Int) + 1 + d) (by unfold more; rw [if_neg (by omega)]; omega) x dx hx hdx hne
        obtain ⟨p', dx', y1, y2, y3, ey, hy, ky, kz⟩ := this
        exact ⟨p', dx', y1, y2, y3, ey, hy, ky, _, rfl, kz⟩
      · have hd : d = 0 := by
          rcases Nat.eq_zero_or_pos d with h | h
          · exact h
          · exact absurd (decide_eq_true (by omega)) z
        refine ⟨_, rfl, _, rfl, _, rfl, _, rfl, _, rfl, fun x dx hx hdx hne => ?_⟩
        have := fin (e : Int) (by unfold more; rw [if_pos hd]; omega) x dx hx hdx hne
        obtain ⟨p', dx', y1, y2, y3, ey, hy, ky, kz⟩ := this
        exact ⟨p', dx', y1, y2, y3, ey, hy, ky, _, rfl, kz⟩
    refine ⟨_, (pss_cons (ps_set (i := 5) nd rfl (Or.inl rfl) (pe_ifExp (pt_cmpR op_eq (pv 2) (pe_gi T.c_SMALL_S) (nomark _)) (pe_own O_count_decimals (hr.mono (by decide)) pass0 (pa_cons (pv 0) (pa_cons (pv 4) pa_nil))) pe_int))
      h1), ?_⟩
    refine ⟨_, rfl, rfl, _, rfl, ite2 (fun z => ?_) (fun z => ?_)⟩
    · have el : l = 115 := u8_eq.mpr (V.int.inj (of_decide_eq_true z))
      exact ⟨_, rfl, _, rfl, a, b, e, rfl, hS, fun H2 s2 => q1 _ H2 (by unfold decC; rw [if_pos el]) s2⟩
    · have el : l ≠ 115 := fun h => z (by rw [h]; rfl)
      exact q1 0 H (by unfold decC; rw [if_neg el]) (Same.refl H)
end
end NP
end
section
set_option Elab.async false
set_option linter.all false
set_option maxRecDepth 100000
set_option maxHeartbeats 1000000
namespace NP
open PySem PySem.Spec PyProof.Rows L2
open Sv68 (isDigit lower tenths)
section
variable {P : Program} {w : World} {K : PySem.W.Frag} {mg : Str → Option Value} {base : Heap} {CN : Addr} {B newId initId : String} {bm : List Value}
abbrev sRrow : Stmt := top 57
theorem scRrow : FnScope ["picture", "at", "letter", "end"] ["picture", "at"] (defScope sRrow) := ⟨rfl, rfl, rfl, by decide +kernel, rfl, by decide +kernel, by decide +kernel⟩
def LROWS : List (Key × V) := [(.inl 121, .int 4), (.inl 109, .int 5), (.inl 100, .int 4), (.inl 104, .int 2), (.inl 115, .int 2)]
def longest (c : UInt8) : Option Nat := if c = 121 then some 4 else if c = 109 then some 5 else if c = 100 then some 4 else if c = 104 then some 2 else if c = 115 then some 2 else none
theorem lrows_val (c : UInt8) : valV LROWS (.inl (c.toNat : Int)) = (longest c).map (fun (n : Nat) => V.int (n : Int)) := by
  have key : ∀ k : Fin 256, valV LROWS (.inl (k.val : Int)) = (longest (UInt8.ofNat k.val)).map (fun (n : Nat) => V.int (n : Int)) := by decide +kernel
  have := key ⟨c.toNat, c.toNat_lt⟩
  simp only [UInt8.ofNat_toNat] at this
  exact this
def rowN (b : Bytes) (i : Nat) (l : UInt8) : Nat := ((b.drop i).takeWhile fun x => lower x == l).length
def spRrow (K : PySem.W.Frag) (C : Cs) (CN : Addr) : Sp := fun vs H Q E => ∃ a b, ∃ (i : Nat) (c : UInt8) (m : Nat), vs = [.ref a, .int i] ∧ SqL K H a (bv b) ∧ b[i]? = some c ∧ longest (lower c) = some m ∧
  (m < rowN b i (lower c) → E (.ref CN) none H) ∧
  (rowN b i (lower c) ≤ m → ∀ a' H', Same H H' → PieceAt C H H' a' (.part (lower c) (rowN b i (lower c)) (decC (lower c) (b.drop (i + rowN b i (lower c))))) (i + rowN b i (lower c) + more (decC (lower c) (b.drop (i + rowN b i (lower c))))) → Q (.ref a') H')
theorem ok_rrow {f : Addr} {fd : FuncData} {C : Cs} (T : TX P w K mg) (EX_NoPicture : OwnCls "NoPicture" CN bm newId mg base) (FB : ExcBaseFacts B newId initId bm) (O_small : Own P w K mg base CX0 1 "small" ["code"] spSmall)
    (O_make_part : Own P w K mg base CX0 3 "make_part" ["picture", "name", "letter", "size", "end"] (spMpart K C)) (F : Fun K "read_row" "read_row" sRrow f fd) : FnOk P w K mg base (CXN P w CN) 4 f fd ["picture", "at"] (spRrow K C CN) := by
  refine F.okX scRrow (fun vs H Q E h => ?_) (fun cdv A outer s H vs Q E hr h xk hp => ?_)
  · obtain ⟨a, b, i, c, m, rfl, _⟩ := h
    rfl
  · obtain ⟨a, b, i, c, m, rfl, hS, hc, hm, k0, k1⟩ := h
    have nd := scRrow.nd
    obtain ⟨a_LONGEST_ROWS, g_LONGEST_ROWS, s_LONGEST_ROWS⟩ := T.c_LONGEST_ROWS
    have hil := (List.getElem?_eq_some_iff.mp hc).1
    obtain ⟨t3, h3, q3⟩ : ∃ t3, PSs (cxOf (CXN P w CN) P w K mg base ["picture", "at", "letter", "end"] "read_row" (defScope sRrow) f cdv A outer s H E) ((defBody sRrow).drop 3) t3 ∧
        ∀ j : Nat, j = i + rowN b i (lower c) → t3 { nx := fun _ H' => Q .non H', rt := Q } [some (.ref a), some (.int i), some (.int (lower c).toNat), some (.int j)] H := by
      refine ⟨_, (pss_cons (ps_if (pt_cmpR op_gt (pe_op op_sub (pv 3) (pv 1)) (pe_kget (pe_gr g_LONGEST_ROWS) (pv 2) (fun _ _ => rfl)) (nomark _)) (pss_one (ps_raise EX_NoPicture FB rfl xk rfl (pa_cons pe_str pa_nil))) pss_nil)
      (pss_one (ps_ret (pe_own O_make_part (hr.mono (by decide)) pass0 (pa_cons (pv 0) (pa_cons pe_str (pa_cons (pv 2) (pa_cons (pe_op op_sub (pv 3) (pv 1)) (pa_cons (pv 3) pa_nil))))))))), ?_⟩
      intro j ej
      have en : (j : Int) - (i : Int) = (rowN b i (lower c) : Int) := by omega
      refine ⟨_, rfl, _, rfl, _, _, rfl, rfl, _, rfl, _, _, .inl ((lower c).toNat : Int), _, rfl, s_LONGEST_ROWS, rfl, (lrows_val (lower c)).trans (by rw [hm]; rfl), _, _, rfl, rfl, _, rfl, ite2 (fun q => ⟨by decide, k0 ?_⟩) fun q => ?_⟩
      · have := of_decide_eq_true q
        omega
      · have hle : rowN b i (lower c) ≤ m := by
          rcases Nat.lt_or_ge m (rowN b i (lower c)) with h | h
          · exact absurd (decide_eq_true (by omega)) q
          · exact h
        refine ⟨_, rfl, _, rfl, _, rfl, _, rfl, _, _, rfl, rfl, _, rfl, a, b, "part", lower c, rowN b i (lower c), j, ?_, hS, fun a' q' H' sm n1 n2 hP hA => ?_⟩
        · rw [← en]
          rfl
        · subst ej
          exact k1 hle a' H' sm ⟨n1, _, hP, q', rfl, n2, hA⟩
    refine ⟨_, (pss_cons (ps_set (i := 2) nd rfl (Or.inl rfl) (pe_own O_small (hr.mono (by decide)) pass0 (pa_cons (pe_ix ix_list (pv 0) (pv 1) (fun _ _ => rfl)) pa_nil)))
      (pss_cons (ps_set (i := 3) nd rfl (Or.inl rfl) (pe_op op_add (pv 1) pe_int))
      (pss_cons (ps_while hp (PW.pt (pw_and (pt_cmpR op_lt (pv 3) (pe_callB call_len_seq rfl T.n_len (by decide +kernel) (pa_cons (pv 0) pa_nil)) (nomark _)) (pw_and1 (pt_cmpR op_eq (pe_own O_small (hr.mono (by decide)) pass0 (pa_cons (pe_ix ix_list (pv 0) (pv 3) (fun _ _ => rfl)) pa_nil)) (pv 2) (nomark _))))) (pss_one (ps_aug (i := 3) nd rfl (Or.inl rfl) pe_int ip_add)))
      h3))), ?_⟩
    refine ⟨_, rfl, _, rfl, a, _, _, _, rfl, rfl, hS, atI_nat (bv_get hc), _, rfl, ?_⟩
    rw [low_lower]
    refine ⟨_, rfl, _, _, rfl, rfl, ?_⟩
    have e1 : rowN b i (lower c) = 1 + rowN b (i + 1) (lower c) := by
      unfold rowN
      rw [drop_get hc, List.takeWhile_cons, if_pos (by simp), List.length_cons]
      omega
    refine ⟨fun mm σ H' => ∃ j : Nat, σ = [some (.ref a), some (.int i), some (.int (lower c).toNat), some (.int j)] ∧ H = H' ∧ j ≤ b.length ∧ j + rowN b j (lower c) = i + rowN b i (lower c) ∧ mm = b.length - j, ⟨_, i + 1, rfl, rfl, hil, by omega, rfl⟩, ?_⟩
    rintro mm σ H' ⟨j, rfl, rfl, hj, hd, rfl⟩
    have stop : rowN b j (lower c) = 0 → j = i + rowN b i (lower c) := fun z => by omega
    refine ⟨_, rfl, _, rfl, a, _, rfl, .inl hS, _, _, rfl, rfl, _, rfl, ite2 (fun q => ?_) (fun q => ?_)⟩
    · have hlt : j < b.length := by
        have := of_decide_eq_true q
        rw [bv_length] at this
        omega
      obtain ⟨x, hx⟩ : ∃ x, b[j]? = some x := ⟨_, List.getElem?_eq_getElem hlt⟩
      have ed := drop_get hx
      refine ⟨_, rfl, _, rfl, a, _, _, _, rfl, rfl, hS, atI_nat (bv_get hx), _, rfl, _, rfl, rfl, _, rfl, ?_⟩
      rw [low_lower]
      refine ite2 (fun q => ?_) (fun q => ?_)
      · have he : lower x = lower c := u8_eq.mpr (V.int.inj (of_decide_eq_true q))
        refine ⟨_, fun σ' H' z => z, _, rfl, _, _, rfl, rfl, b.length - (j + 1), by omega, j + 1, rfl, rfl, hlt, ?_, rfl⟩
        rw [← hd]
        unfold rowN
        rw [ed, List.takeWhile_cons, if_pos (by simpa using he), List.length_cons]
        omega
      · have hne : ¬ lower x = lower c := fun e => q (by rw [e]; exact decide_eq_true rfl)
        refine q3 j (stop ?_)
        unfold rowN
        rw [ed, List.takeWhile_cons, if_neg (by simpa using hne)]
        rfl
    · have hge : b.length ≤ j := by
        have : ¬ (j : Int) < ((bv b).length : Int) := fun z => q (decide_eq_true z)
        rw [bv_length] at this
        omega
      refine iteF (q3 j (stop ?_))
      unfold rowN
      rw [List.drop_of_length_le hge]
      rfl
abbrev sPas : Stmt := top 62
theorem scPas : FnScope ["inner"] ["inner"] (defScope sPas) := ⟨rfl, rfl, rfl, by decide +kernel, rfl, by decide +kernel, by decide +kernel⟩
def pasI : Bytes → Bool
  | [] => false
  | c :: r => decide ((c :: r).length ≤ 9) && ((c == 104 || (c == 109 || c == 115)) && (c :: r).all fun x => x == c)
def spPas (K : PySem.W.Frag) : Sp := fun vs H Q _ => ∃ a b, vs = [.ref a] ∧ SqL K H a (bv b) ∧ ∀ H', Same H H' → Q (.bl (pasI b)) H'
theorem bv_flat (b : Bytes) : (bv b).all flatV = true := by
  unfold bv
  rw [List.all_map]
  exact List.all_eq_true.mpr fun _ _ => rfl
theorem countP_all {α : Type} (p : α → Bool) : ∀ l : List α, (l.countP p = l.length) ↔ l.all p = true
  | [] => by simp
  | a :: l => by
    rw [List.countP_cons, List.all_cons]
    have := countP_all p l
    have h2 := List.countP_le_length (p := p) (l := l)
    cases h : p a with
    | true => simp [this]
    | false =>
      simp
      omega
theorem ok_pas {f : Addr} {fd : FuncData} (T : TX P w K mg) (F : Fun K "is_passed_time" "is_passed_time" sPas f fd) : FnOk P w K mg base CX0 1 f fd ["inner"] (spPas K) := by
  refine F.ok scPas (fun vs H Q E h => ?_) (fun cdv A outer s H vs Q E hr h => ?_)
  · obtain ⟨a, b, rfl, _⟩ := h
    rfl
  · obtain ⟨a, b, rfl, hS, k⟩ := h
    refine ⟨_, (pss_cons (ps_if (PW.pt (pw_or (pt_not (pt_chain op_le op_le pe_int (pe_callB call_len_seq rfl T.n_len (by decide +kernel) (pa_cons (pv 0) pa_nil)) (pe_gi T.c_LONGEST_PASSED_TIME))) (pw_or1 (pt_cmpR op_notIn_seq (pe_ix ix_list (pv 0) pe_int (fun _ _ => rfl)) (pe_tup (pa_cons (pe_gi T.c_SMALL_H) (pa_cons (pe_gi T.c_SMALL_M) (pa_cons (pe_gi T.c_SMALL_S) pa_nil)))) (by with_unfolding_all rfl))))) (pss_one (ps_ret pe_bl)) pss_nil)
      (pss_one (ps_ret (pe_cmpR op_eq (pe_bm PySem.F.plainAttrs_list PySem.F.slot_list_count PySem.F.type_list_count mt_lcount (pv 0) (pa_cons (pe_ix ix_list (pv 0) pe_int (fun _ _ => rfl)) pa_nil)) (pe_callB call_len_seq rfl T.n_len (by decide +kernel) (pa_cons (pv 0) pa_nil)) (nomark _))))), ?_⟩
    cases b with
    | nil => exact ⟨_, rfl, a, _, rfl, .inl hS, _, _, rfl, rfl, _, rfl, iteF ⟨_, rfl, iteT (iteT (k H (Same.refl H)))⟩⟩
    | cons c r =>
      have k : ∀ H', Same H H' → Q (.bl (decide ((c :: r).length ≤ 9) && ((c == 104 || (c == 109 || c == 115)) && (c :: r).all fun x => x == c))) H' := k
      refine ⟨_, rfl, a, _, rfl, .inl hS, _, _, rfl, rfl, _, rfl, ite2 (fun _ => ?_) (fun q => absurd (decide_eq_true (by rw [bv_length, List.length_cons]; omega)) q)⟩
      refine ⟨_, _, rfl, rfl, _, rfl, ite2 (fun q => ?_) (fun q => ?_)⟩
      · have hl : ¬ (c :: r).length ≤ 9 := by
          intro z
          rw [decide_eq_true (by rw [bv_length]; omega)] at q
          cases q
        rw [decide_eq_false hl, Bool.false_and] at k
        exact iteT (k H (Same.refl H))
      · have hl : (c :: r).length ≤ 9 := by
          by_cases z : (c :: r).length ≤ 9
          · exact z
          · exact (q (by rw [decide_eq_false (by rw [bv_length]; omega)]; rfl)).elim
        rw [decide_eq_true hl, Bool.true_and] at k
        have a0 : atI (bv (c :: r)) 0 = some (V.int c.toNat) := atI_nat (j := 0) rfl
        refine ⟨_, rfl, a, _, _, _, rfl, rfl, hS, a0, (by show 3 ≤ 2 ^ 24; decide), fun p hp => ⟨p, _, rfl, .inr (SqT.of upd_same), rfl, rfl, _, rfl, ?_⟩⟩
        have su := Same.upd (o := .tup [.int 104, .int 109, .int 115]) hp
        have ein : inV (V.int c.toNat) [.int 104, .int 109, .int 115] = (c == 104 || (c == 109 || c == 115)) := by
          have key : ∀ k : Fin 256, inV (V.int k.val) [.int 104, .int 109, .int 115] = (UInt8.ofNat k.val == 104 || (UInt8.ofNat k.val == 109 || UInt8.ofNat k.val == 115)) := by decide +kernel
          have := key ⟨c.toNat, c.toNat_lt⟩
          simp only [UInt8.ofNat_toNat] at this
          exact this
        show if (!inV (V.int c.toNat) [.int 104, .int 109, .int 115]) = true then _ else _
        rw [ein]
        cases hh : (c == 104 || (c == 109 || c == 115)) with
        | false =>
          rw [hh, Bool.false_and] at k
          exact iteT (k _ su)
        | true =>
          rw [hh, Bool.true_and] at k
          refine iteF ?_
          refine ⟨_, rfl, .inl ⟨rfl, _, su.seq hS⟩, _, rfl, a, _, _, _, rfl, rfl, su.seq hS, a0, a, _, _, rfl, rfl, su.seq hS, rfl, bv_flat _, _, rfl, a, _, rfl, .inl (su.seq hS), rfl, ?_⟩
          have e : decide (V.int (((bv (c :: r)).countP fun z => eqV z (V.int c.toNat) : Nat) : Int) = V.int (((bv (c :: r)).length : Nat) : Int)) = (c :: r).all fun x => x == c := by
            rw [Bool.eq_iff_iff, decide_eq_true_iff]
            have h1 : (V.int (((bv (c :: r)).countP fun z => eqV z (V.int c.toNat) : Nat) : Int) = V.int (((bv (c :: r)).length : Nat) : Int)) ↔ (bv (c :: r)).countP (fun z => eqV z (V.int c.toNat)) = (bv (c :: r)).length := ⟨fun z => Int.ofNat_inj.mp (V.int.inj z), fun z => by rw [z]⟩
            rw [h1, countP_all]
            unfold bv bi
            rw [List.all_map, List.all_map]
            have h2 : ((fun z => eqV z (V.int (c.toNat : Int))) ∘ V.int) ∘ (fun c : UInt8 => (c.toNat : Int)) = fun x => x == c := by
              funext x
              show ((x.toNat : Int) == (c.toNat : Int)) = (x == c)
              rw [Bool.eq_iff_iff]
              simp [u8_eq]
            rw [h2]
          rw [← e] at k
          exact k _ su
end
end NP
end
section
set_option Elab.async false
set_option linter.all false
set_option maxRecDepth 100000
set_option maxHeartbeats 1000000
namespace NP
open PySem PySem.Spec PyProof.Rows L2
open Sv68 (isDigit lower tenths)
def COLS : List Str := ["black", "blue", "cyan", "green", "magenta", "red", "white", "yellow"]
def colL : List Str → Nat → Bytes → Nat
  | [], _, _ => 0
  | z :: r, k, b => if bi b = codesI z then k else colL r (k + 1) b
def colI (b : Bytes) : Nat := colL COLS 1 b
def brkI (low q : Bytes) : Option (Pc × Nat) := if 0 < colI low then some (.colour (colI low), 0) else match condI low with
  | some x => some (.condition x.1 x.2, 0)
  | none => if pasI low = true then some (.passed (low.headD 0) low.length (decC (low.headD 0) q), more (decC (low.headD 0) q)) else none
def brk (b : Bytes) (i : Nat) : Option (Pc × Nat) := if i + 1 + upTo b (i + 1) 93 = b.length then none else (brkI (((b.drop (i + 1)).take (upTo b (i + 1) 93)).map lower) (b.drop (i + 1 + upTo b (i + 1) 93 + 1))).map fun x => (x.1, upTo b (i + 1) 93 + 2 + x.2)
section
variable {P : Program} {w : World} {K : PySem.W.Frag} {mg : Str → Option Value} {base : Heap} {CN : Addr} {B newId initId : String} {bm : List Value}
abbrev sCol : Stmt := top 61
theorem scCol : FnScope ["inner", "number", "word"] ["inner"] (defScope sCol) := ⟨rfl, rfl, rfl, by decide +kernel, rfl, by decide +kernel, by decide +kernel⟩
def spCol (K : PySem.W.Frag) : Sp := fun vs H Q _ => ∃ a b, vs = [.ref a] ∧ SqL K H a (bv b) ∧ ∀ H', Same H H' → Q (.int (colI b)) H'
theorem ok_col {f : Addr} {fd : FuncData} (T : TX P w K mg) (O_codes_of : Own P w K mg base CX0 1 "codes_of" ["word"] spCodes) (F : Fun K "colour_number" "colour_number" sCol f fd) : FnOk P w K mg base CX0 2 f fd ["inner"] (spCol K) := by
  refine F.ok scCol (fun vs H Q E h => ?_) (fun cdv A outer s H vs Q E hr h => ?_)
  · obtain ⟨a, b, rfl, _⟩ := h
    rfl
  · obtain ⟨a, b, rfl, hS, k⟩ := h
    have nd := scCol.nd
    have hu64 := hr.units
    obtain ⟨a_COLOURS, g_COLOURS, s_COLOURS⟩ := T.c_COLOURS
    refine ⟨_, (pss_cons (ps_for PassesOwn.never rfl (pi_enumT rfl T.n_enumerate (pe_gr g_COLOURS)) (pg_tup rfl (pgs_cons (pg_name (i := 1) nd rfl (Or.inl rfl)) (pgs_cons (pg_name (i := 2) nd rfl (Or.inl rfl)) pgs_nil))) (pss_one (ps_if (pt_cmpR (op_eqD hu64) (pv 0) (pe_own O_codes_of (hr.mono (by decide)) pass0 (pa_cons (pv 2) pa_nil)) (nomark _)) (pss_one (ps_ret (pv 1))) pss_nil)))
      (pss_one (ps_ret pe_int))), ?_⟩
    refine ⟨a_COLOURS, _, rfl, s_COLOURS _, for_enumT (K := K) (a := a_COLOURS) (xs := COLS.map V.str) (fun i σ H' => ∃ v1 v2 : Option V, σ = [some (.ref a), v1, v2] ∧ Same H H' ∧ colI b = colL (COLS.drop i) (i + 1) b) ⟨none, none, rfl, Same.refl H, rfl⟩ (fun H' => s_COLOURS _) ?_ ?_⟩
    · rintro i y σ H' T' hy ⟨v1, v2, rfl, sm, hc⟩ hT
      rw [List.getElem?_map] at hy
      obtain ⟨z, hz, rfl⟩ := Option.map_eq_some_iff.mp hy
      have hzl : z.length ≤ 100 := by
        have : ∀ z ∈ COLS, z.length ≤ 100 := by decide +kernel
        exact this z (List.mem_of_getElem? hz)
      rw [drop_get hz] at hc
      unfold colL at hc
      have sT := sm.trans (Same.upd (o := .tup [.int ((i + 1 : Nat) : Int), .str z]) hT)
      refine ⟨T', _, rfl, SqT.of upd_same, rfl, _, _, rfl, _, _, rfl, rfl, ?_⟩
      refine ⟨_, rfl, _, rfl, z, rfl, hzl, fun p hp => ?_⟩
      have sp := sT.trans (Same.upd (o := .lst ((codesI z).map V.int)) hp)
      refine ⟨_, _, dp_ints (l := bi b) (sp.seq hS), dp_ints (l := codesI z) (SqL.of upd_same), shaped_ints _, shaped_ints _, ?_⟩
      rw [eqv_ints]
      refine ⟨_, rfl, ite2 (fun q => ?_) (fun q => ?_)⟩
      · rw [if_pos (of_decide_eq_true q)] at hc
        refine ⟨_, rfl, ?_⟩
        have := k _ sp
        rw [hc] at this
        exact this
      · rw [if_neg (fun e => q (decide_eq_true e))] at hc
        exact ⟨_, _, rfl, sp, hc⟩
    · rintro σ H' ⟨v1, v2, rfl, sm, hc⟩
      have := k _ sm
      rw [hc] at this
      exact this
abbrev sRbrk : Stmt := top 60
theorem scRbrk : FnScope ["picture", "at", "closing", "inner", "colour", "condition", "code"] ["picture", "at"] (defScope sRbrk) := ⟨rfl, rfl, rfl, by decide +kernel, rfl, by decide +kernel, by decide +kernel⟩
def spRbrk (K : PySem.W.Frag) (C : Cs) (CN : Addr) : Sp := fun vs H Q E => ∃ a b, ∃ (i : Nat), vs = [.ref a, .int i] ∧ SqL K H a (bv b) ∧ b.length ≤ 255 ∧ i < b.length ∧
  (∀ H', Same H H' → brk b i = none → E (.ref CN) none H') ∧ ∀ p n a' H', Same H H' → brk b i = some (p, n) → PieceAt C H H' a' p (i + n) → Q (.ref a') H'
theorem ok_rbrk {f : Addr} {fd : FuncData} {C : Cs} (T : TX P w K mg) (EX_NoPicture : OwnCls "NoPicture" CN bm newId mg base) (FB : ExcBaseFacts B newId initId bm) (O_small : Own P w K mg base CX0 1 "small" ["code"] spSmall)
    (O_closing_place : Own P w K mg base (CXN P w CN) 1 "closing_place" ["picture", "at", "closing"] (spClose K CN)) (O_colour_number : Own P w K mg base CX0 2 "colour_number" ["inner"] (spCol K))
    (O_read_condition : Own P w K mg base CX0 4 "read_condition" ["inner"] (spRcond K C.condition)) (O_is_passed_time : Own P w K mg base CX0 1 "is_passed_time" ["inner"] (spPas K))
    (O_make_part : Own P w K mg base CX0 3 "make_part" ["picture", "name", "letter", "size", "end"] (spMpart K C)) (O_Piece : OwnC P w K mg base CX0 1 C.piece "Piece" ["self", "name", "value", "end"] (sp_Piece C.piece))
    (F : Fun K "read_bracket" "read_bracket" sRbrk f fd) : FnOk P w K mg base (CXN P w CN) 5 f fd ["picture", "at"] (spRbrk K C CN) := by
  refine F.okX scRbrk (fun vs H Q E h => ?_) (fun cdv A outer s H vs Q E hr h xk hp => ?_)
  · obtain ⟨a, b, i, rfl, _⟩ := h
    rfl
  · obtain ⟨a, b, i, rfl, hS, hlen, hi, k0, k1⟩ := h
    have nd := scRbrk.nd
    -- behind inner = ..
    obtain ⟨t2, h2, q2⟩ : ∃ t2, PSs (cxOf (CXN P w CN) P w K mg base ["picture", "at", "closing", "inner", "colour", "condition", "code"] "read_bracket" (defScope sRbrk) f cdv A outer s H E) ((defBody sRbrk).drop 2) t2 ∧
        ∀ (u : Nat) (low : Bytes) (D : Addr) (H2 : Hp), low.length ≤ 255 → brk b i = (brkI low (b.drop (i + 1 + u + 1))).map (fun x => (x.1, u + 2 + x.2)) → Same H H2 → H2 D = some (.lst (bv low)) →
          t2 { nx := fun _ H' => Q .non H', rt := Q } [some (.ref a), some (.int i), some (.int ((i + 1 + u : Nat) : Int)), some (.ref D), none, none, none] H2 := by
      refine ⟨_, (pss_cons (ps_set (i := 4) nd rfl (Or.inl rfl) (pe_own O_colour_number (hr.mono (by decide)) pass0 (pa_cons (pv 3) pa_nil)))
      (pss_cons (ps_if (pt_cmpR op_gt (pv 4) pe_int (nomark _)) (pss_one (ps_ret (pe_new O_Piece (hr.mono (by decide)) pass0 (pa_cons pe_str (pa_cons (pv 4) (pa_cons (pe_op op_add (pv 2) pe_int) pa_nil)))))) pss_nil)
      (pss_cons (ps_set (i := 5) nd rfl (Or.inl rfl) (pe_own O_read_condition (hr.mono (by decide)) pass0 (pa_cons (pv 3) pa_nil)))
      (pss_cons (ps_if (pt_cmpR op_notN (pv 5) pe_non (nomark _)) (pss_one (ps_ret (pe_new O_Piece (hr.mono (by decide)) pass0 (pa_cons pe_str (pa_cons (pv 5) (pa_cons (pe_op op_add (pv 2) pe_int) pa_nil)))))) pss_nil)
      (pss_cons (ps_if (pt_val (pe_own O_is_passed_time (hr.mono (by decide)) pass0 (pa_cons (pv 3) pa_nil))) (pss_one (ps_ret (pe_own O_make_part (hr.mono (by decide)) pass0 (pa_cons (pv 0) (pa_cons pe_str (pa_cons (pe_ix ix_list (pv 3) pe_int (fun _ _ => rfl)) (pa_cons (pe_callB call_len_seq rfl T.n_len (by decide +kernel) (pa_cons (pv 3) pa_nil)) (pa_cons (pe_op op_add (pv 2) pe_int) pa_nil)))))))) pss_nil)
      (pss_one (ps_raise EX_NoPicture FB rfl xk rfl (pa_cons pe_str pa_nil)))))))), ?_⟩
      intro u low D H2 hll hb sm hD
      refine ⟨_, rfl, D, low, rfl, SqL.of hD, fun H3 s3 => ?_⟩
      have sm3 := sm.trans s3
      have hD3 := s3 _ _ hD
      unfold brkI at hb
      refine ⟨_, rfl, _, _, rfl, rfl, _, rfl, ite2 (fun q => ?_) (fun q => ?_)⟩
      · have hc : 0 < colI low := by
          have := of_decide_eq_true q
          omega
        rw [if_pos hc] at hb
        refine ⟨_, rfl, _, rfl, _, _, rfl, rfl, fun x dx hx hdx hne => ?_⟩
        refine ⟨x, dx, _, _, _, rfl, upd_same, rfl, k1 _ _ x _ (sm3.ins hx hdx) hb ⟨sm3.free hx, _, ⟨dx, ?_⟩, rfl⟩⟩
        rw [upd_same, show ((i + (u + 2 + 0) : Nat) : Int) = ((i + 1 + u : Nat) : Int) + 1 by omega]
        rfl
      · have hc : ¬ 0 < colI low := fun z => q (decide_eq_true (by omega))
        rw [if_neg hc] at hb
        refine ⟨_, rfl, D, low, rfl, SqL.of hD3, (by omega), fun H4 s4 hn => ?_, fun H4 c z v s4 hv hf hA => ?_⟩
        · rw [hn] at hb
          have sm4 := sm3.trans s4
          have hD4 := s4 _ _ hD3
          refine ⟨_, rfl, rfl, _, rfl, iteF ⟨_, rfl, D, low, rfl, SqL.of hD4, fun H5 s5 => ⟨_, rfl, ?_⟩⟩⟩
          have sm5 := sm4.trans s5
          have hD5 := s5 _ _ hD4
          cases hp' : pasI low with
          | true =>
            rw [hp', if_pos rfl] at hb
            obtain ⟨c0, r0, rfl⟩ : ∃ c0 r0, low = c0 :: r0 := by
              cases low with
              | nil => cases hp'
              | cons c0 r0 => exact ⟨c0, r0, rfl⟩
            refine iteT ⟨_, rfl, _, rfl, D, _, _, _, rfl, rfl, SqL.of hD5, atI_nat (j := 0) rfl, _, rfl, D, _, rfl, .inl (SqL.of hD5), _, rfl, _, _, rfl, rfl, ?_⟩
            refine ⟨a, b, "passed", c0, (c0 :: r0).length, i + 1 + u + 1, ?_, sm5.seq hS, fun a' q' H' s6 n1 n2 hP hA => k1 _ _ a' H' (sm5.trans s6) hb ⟨sm5.free n1, _, ?_, q', rfl, sm5.free n2, hA⟩⟩
            · rw [bv_length]
              rfl
            · have e : i + (u + 2 + more (decC ((c0 :: r0).headD 0) (b.drop (i + 1 + u + 1)))) = i + 1 + u + 1 + more (decC c0 (b.drop (i + 1 + u + 1))) := by
                show i + (u + 2 + more (decC c0 (b.drop (i + 1 + u + 1)))) = _
                omega
              rw [e]
              exact hP
          | false =>
            rw [hp', if_neg (by simp)] at hb
            exact iteF ⟨by decide, k0 H5 sm5 hb⟩
        · rw [hv] at hb
          have sm4 := sm3.trans s4
          refine ⟨_, rfl, rfl, _, rfl, iteT ⟨_, rfl, _, rfl, _, _, rfl, rfl, fun x dx hx hdx hne => ?_⟩⟩
          obtain ⟨dc, hA⟩ := hA
          refine ⟨x, dx, _, _, _, rfl, upd_same, rfl, k1 _ _ x _ (sm4.ins hx hdx) hb ⟨sm4.free hx, _, ⟨dx, ?_⟩, c, rfl, sm3.free hf, dc, ?_⟩⟩
          · rw [upd_same, show ((i + (u + 2 + 0) : Nat) : Int) = ((i + 1 + u : Nat) : Int) + 1 by omega]
            rfl
          · exact (Same.refl H4).ins hx hdx _ _ hA
    refine ⟨_, (pss_cons (ps_set (i := 2) nd rfl (Or.inl rfl) (pe_own O_closing_place (hr.mono (by decide)) (passN xk (fun _ z => z)) (pa_cons (pv 0) (pa_cons (pv 1) (pa_cons (pe_gi T.c_CLOSING_BRACKET) pa_nil)))))
      (pss_cons (ps_setLc (i := 3) rfl nd rfl rfl (sw_true rfl rfl rfl rfl) (pi_list (pe_slice sl_list (pv 0) (po_some (pe_op op_add (pv 1) pe_int)) (po_some (pv 2)))) (blkOk_by (N := ["picture", "at", "closing", "inner", "colour", "condition", "code"]) (sc := defScope (top 60)) (own := [("code", 6)]) (by decide +kernel)) (fun _ _ _ _ _ => pg_name (i := 6) nd rfl (Or.inl rfl) (.inr rfl)) (fun _ _ _ _ _ => pts_nil) (fun _ _ _ _ _ => (pe_own O_small (hr.mono (by decide)) pass0 (pa_cons (pv 6) pa_nil))))
      h2)), ?_⟩
    refine ⟨_, rfl, _, rfl, a, b, i, 93, rfl, hS, hi, fun e => ?_, fun hlt => ?_⟩
    · exact k0 H (Same.refl H) (by unfold brk; rw [if_pos e])
    · generalize hu : upTo b (i + 1) 93 = u at hlt ⊢
      have hb : brk b i = (brkI (((b.drop (i + 1)).take u).map lower) (b.drop (i + 1 + u + 1))).map (fun x => (x.1, u + 2 + x.2)) := by
        unfold brk
        rw [hu, if_neg (by omega)]
      have ec : cutV (bv b) (some ((i : Int) + 1)) (some ((i + 1 + u : Nat) : Int)) = bv ((b.drop (i + 1)).take u) := by
        have := bcut b (i + 1) (i + 1 + u)
        rw [show i + 1 + u - (i + 1) = u by omega] at this
        exact this
      refine ⟨_, rfl, _, rfl, _, _, rfl, rfl, (i : Int) + 1, rfl, _, rfl, ((i + 1 + u : Nat) : Int), rfl, a, _, rfl, hS, ?_⟩
      rw [ec]
      generalize hl : (b.drop (i + 1)).take u = l at hb ⊢
      have hll : l.length ≤ 255 := by
        rw [← hl, List.length_take, List.length_drop]
        omega
      refine fun p hp => ⟨p, rfl, ⟨_, SqL.of upd_same⟩, fun D hD => lc_list (K := K) (a := p) (xs := bv l) (fun j H' => H' = upd (upd H p (.lst (bv l))) D (.lst (bv ((l.map lower).take j)))) rfl ?_ ?_ ?_⟩
      · rintro j H' _ rfl
        have : p ≠ D := ne_of_none upd_same hD
        exact SqL.of (by rw [upd_ne this, upd_same])
      · rintro j x H' hx rfl
        obtain ⟨c, hc, rfl⟩ := bv_got hx
        refine ⟨rfl, _, rfl, _, rfl, _, upd_same, ?_, ?_⟩
        · rw [bv_length, List.length_take, List.length_map]
          show _ < 2 ^ 24
          omega
        · rw [upd_upd, low_lower]
          have e : (l.map lower).take (j + 1) = (l.map lower).take j ++ [lower c] := take_snoc (by rw [List.getElem?_map, hc]; rfl)
          rw [e]
          unfold bv bi
          rw [List.map_append, List.map_append]
          rfl
      · rintro H' rfl
        rw [List.take_of_length_le (by rw [bv_length, List.length_map]; exact Nat.le_refl _)]
        exact q2 u (l.map lower) D _ (by rw [List.length_map]; exact hll) hb ((Same.upd hp).trans (Same.upd hD)) upd_same
end
end NP
end
section
set_option Elab.async false
set_option linter.all false
set_option maxRecDepth 100000
set_option maxHeartbeats 2000000
namespace NP
open PySem PySem.Spec PyProof.Rows L2
open Sv68 (isDigit lower tenths)
def SIGNL : List (Key × V) := [(.inl 48, .str "place"), (.inl 35, .str "place"), (.inl 63, .str "place"), (.inl 46, .str "point"), (.inl 44, .str "comma"), (.inl 37, .str "percent"), (.inl 64, .str "at")]
def signI (c : UInt8) : Option Str := if c = 48 ∨ c = 35 ∨ c = 63 then some "place" else if c = 46 then some "point" else if c = 44 then some "comma" else if c = 37 then some "percent" else if c = 64 then some "at" else none
theorem sign_val (c : UInt8) : valV SIGNL (.inl (c.toNat : Int)) = (signI c).map V.str := by
  have key : ∀ k : Fin 256, valV SIGNL (.inl (k.val : Int)) = (signI (UInt8.ofNat k.val)).map V.str := by decide +kernel
  have := key ⟨c.toNat, c.toNat_lt⟩
  simp only [UInt8.ofNat_toNat] at this
  exact this
def WORDL : List (Key × V) := [(.inr "general", .str "general"), (.inr "am/pm", .str "noon"), (.inr "a/p", .str "noon")]
def WORDP : List (Str × Str) := [("general", "general"), ("am/pm", "noon"), ("a/p", "noon")]
def wordL : List (Str × Str) → Bytes → Nat → Option (Str × Nat)
  | [], _, _ => none
  | x :: r, b, i => if begI (bi b) i x.1 = true then some (x.2, x.1.length) else wordL r b i
theorem wordL_cons (x : Str × Str) (r : List (Str × Str)) (b : Bytes) (i : Nat) : wordL (x :: r) b i = if begI (bi b) i x.1 = true then some (x.2, x.1.length) else wordL r b i := rfl
def PLAINS : Str := " !$&'()+-/:<=>^{}~"
def plainI (c : UInt8) : Bool := inV (V.int c.toNat) ((codesI PLAINS).map V.int)
def rp8 (b : Bytes) (i : Nat) (c : UInt8) : Option (Pc × Nat) := if 127 < c.toNat ∨ plainI c = true then some (.text ((b.drop i).take (csz c)), csz c) else none
def rp7 (b : Bytes) (i : Nat) (c : UInt8) : Option (Pc × Nat) := match longest (lower c) with
  | some m => if m < rowN b i (lower c) then none else some (.part (lower c) (rowN b i (lower c)) (decC (lower c) (b.drop (i + rowN b i (lower c)))), rowN b i (lower c) + more (decC (lower c) (b.drop (i + rowN b i (lower c)))))
  | none => rp8 b i c
def rp6 (b : Bytes) (i : Nat) (c : UInt8) : Option (Pc × Nat) := match wordL WORDP b i with
  | some x => some (.word x.1 x.2, x.2)
  | none => rp7 b i c
def rp5 (b : Bytes) (i : Nat) (c : UInt8) : Option (Pc × Nat) := if c = 69 ∧ ((b.drop (i + 1)).take 1 = [43] ∨ (b.drop (i + 1)).take 1 = [45]) then some (.exponent ((b.drop (i + 1)).headD 0), 2) else rp6 b i c
def rp4 (b : Bytes) (i : Nat) (c : UInt8) : Option (Pc × Nat) := match signI c with
  | some nm => some (.sign nm c, 1)
  | none => rp5 b i c
def rp3 (b : Bytes) (i : Nat) (c : UInt8) : Option (Pc × Nat) := if c = 91 then brk b i else rp4 b i c
def rp2 (b : Bytes) (i : Nat) (c : UInt8) : Option (Pc × Nat) := if c = 92 ∨ c = 95 then (b[i + 1]?).map (fun d => (.text (behC c d (b.drop (i + 1))), 1 + csz d)) else rp3 b i c
def rp (b : Bytes) (i : Nat) (c : UInt8) : Option (Pc × Nat) := if c = 34 then (if i + 1 + upTo b (i + 1) 34 = b.length then none else some (.text ((b.drop (i + 1)).take (upTo b (i + 1) 34)), upTo b (i + 1) 34 + 2)) else rp2 b i c
section
variable {P : Program} {w : World} {K : PySem.W.Frag} {mg : Str → Option Value} {base : Heap} {CN : Addr} {B newId initId : String} {bm : List Value}
abbrev sRp : Stmt := top 54
theorem scRp : FnScope ["picture", "at", "code", "word", "closing", "end"] ["picture", "at"] (defScope sRp) := ⟨rfl, rfl, rfl, by decide +kernel, rfl, by decide +kernel, by decide +kernel⟩
def spRp (K : PySem.W.Frag) (C : Cs) (CN : Addr) : Sp := fun vs H Q E => ∃ a b, ∃ (i : Nat) (c : UInt8), vs = [.ref a, .int i] ∧ SqL K H a (bv b) ∧ b.length ≤ 255 ∧ b[i]? = some c ∧
  (∀ H', Same H H' → rp b i c = none → E (.ref CN) none H') ∧ ∀ p n a' H', Same H H' → rp b i c = some (p, n) → PieceAt C H H' a' p (i + n) → Q (.ref a') H'
theorem ok_rp {f : Addr} {fd : FuncData} {C : Cs} (T : TX P w K mg) (EX_NoPicture : OwnCls "NoPicture" CN bm newId mg base) (FB : ExcBaseFacts B newId initId bm) (O_small : Own P w K mg base CX0 1 "small" ["code"] spSmall)
    (O_codes_of : Own P w K mg base CX0 1 "codes_of" ["word"] spCodes) (O_begins_with : Own P w K mg base CX0 2 "begins_with" ["codes", "at", "word"] (spBegins K)) (O_character_size : Own P w K mg base CX0 1 "character_size" ["first"] spCsize)
    (O_closing_place : Own P w K mg base (CXN P w CN) 1 "closing_place" ["picture", "at", "closing"] (spClose K CN)) (O_read_character_behind : Own P w K mg base (CXN P w CN) 3 "read_character_behind" ["picture", "at"] (spRbeh K C CN))
    (O_read_bracket : Own P w K mg base (CXN P w CN) 5 "read_bracket" ["picture", "at"] (spRbrk K C CN)) (O_read_row : Own P w K mg base (CXN P w CN) 4 "read_row" ["picture", "at"] (spRrow K C CN))
    (O_Piece : OwnC P w K mg base CX0 1 C.piece "Piece" ["self", "name", "value", "end"] (sp_Piece C.piece))
    (F : Fun K "read_piece" "read_piece" sRp f fd) : FnOk P w K mg base (CXN P w CN) 6 f fd ["picture", "at"] (spRp K C CN) := by
  refine F.okX scRp (fun vs H Q E h => ?_) (fun cdv A outer s H vs Q E hr h xk hp => ?_)
  · obtain ⟨a, b, i, c, rfl, _⟩ := h
    rfl
  · obtain ⟨a, b, i, c, rfl, hS, hlen, hc, k0, k1⟩ := h
    have nd := scRp.nd
    have hu65 : (A.deeper (envOfC "read_piece" (defScope sRp) s.heap.objs.size f cdv)).units + 65 < cLine := by
      have := hr.un
      omega
    have hil := (List.getElem?_eq_some_iff.mp hc).1
    obtain ⟨a_SIGNS, g_SIGNS, s_SIGNS⟩ := T.c_SIGNS
    obtain ⟨a_WORDS, g_WORDS, s_WORDS⟩ := T.c_WORDS
    obtain ⟨a_LONGEST_ROWS, g_LONGEST_ROWS, s_LONGEST_ROWS⟩ := T.c_LONGEST_ROWS
    have s_SIGNS : DicK P w K a_SIGNS SIGNL := s_SIGNS
    have s_WORDS : DicK P w K a_WORDS WORDL := s_WORDS
    have s_LONGEST_ROWS : DicK P w K a_LONGEST_ROWS LROWS := s_LONGEST_ROWS
    -- a plain one, or none
    obtain ⟨t7, h7, q7⟩ : ∃ t7, PSs (cxOf (CXN P w CN) P w K mg base ["picture", "at", "code", "word", "closing", "end"] "read_piece" (defScope sRp) f cdv A outer s H E) ((defBody sRp).drop 7) t7 ∧
        ∀ (v3 : Option V) (H2 : Hp), Same H H2 → rp b i c = rp7 b i c → t7 { nx := fun _ H' => Q .non H', rt := Q } [some (.ref a), some (.int i), some (.int c.toNat), v3, none, none] H2 := by
      refine ⟨_, (pss_cons (ps_if (pt_cmp (pc_kin (pe_own O_small (hr.mono (by decide)) pass0 (pa_cons (pv 2) pa_nil)) (pe_gr g_LONGEST_ROWS)) (by with_unfolding_all rfl)) (pss_one (ps_ret (pe_own O_read_row (hr.mono (by decide)) (passN xk (fun _ z => z)) (pa_cons (pv 0) (pa_cons (pv 1) pa_nil))))) pss_nil)
      (pss_cons (ps_if (PW.pt (pw_or (pt_cmpR op_gt (pv 2) pe_int (nomark _)) (pw_or1 (pt_cmpR op_in_seq (pv 2) (pe_own O_codes_of (hr.mono (by decide)) pass0 (pa_cons (pe_gs T.c_PLAIN) pa_nil)) (by with_unfolding_all rfl))))) (pss_cons (ps_set (i := 5) nd rfl (Or.inl rfl) (pe_op op_add (pv 1) (pe_own O_character_size (hr.mono (by decide)) pass0 (pa_cons (pv 2) pa_nil))))
      (pss_one (ps_ret (pe_new O_Piece (hr.mono (by decide)) pass0 (pa_cons pe_str (pa_cons (pe_slice sl_list (pv 0) (po_some (pv 1)) (po_some (pv 5))) (pa_cons (pv 5) pa_nil))))))) pss_nil)
      (pss_one (ps_raise EX_NoPicture FB rfl xk rfl (pa_cons pe_str pa_nil))))), ?_⟩
      intro v3 H2 sm hb
      unfold rp7 at hb
      refine ⟨_, rfl, _, rfl, _, _, .inl (lowI c.toNat), rfl, s_LONGEST_ROWS, rfl, _, rfl, ?_⟩
      rw [low_lower, lrows_val]
      cases hm : longest (lower c) with
      | some m =>
        rw [hm] at hb
        dsimp only at hb
        refine iteT ⟨_, rfl, _, rfl, a, b, i, c, m, rfl, sm.seq hS, hc, hm, fun hlt => ?_, fun hle a' H' s3 hP => ?_⟩
        · rw [if_pos hlt] at hb
          exact k0 H2 sm hb
        · rw [if_neg (by omega)] at hb
          refine k1 _ _ a' H' (sm.trans s3) hb ?_
          rw [← Nat.add_assoc]
          exact hP.old sm
      | none =>
        rw [hm] at hb
        dsimp only at hb
        unfold rp8 at hb
        refine iteF ?_
        have hit : (127 < c.toNat ∨ plainI c = true) → ∀ H3, Same H H3 → tSeq (tAsg (tOp (rI0 fun i j => .int (i + j)) (tVar 1) (tCall spCsize [] E0 (tCons (tVar 2) tNil))) (gName 5)) (tRet (tMake C.piece (sp_Piece C.piece) [] E0 (tCons (tC (.str "text")) (tCons (tSl (rSlL K) (tVar 0) (tPart (tVar 1)) (tPart (tVar 5))) (tCons (tVar 5) tNil))))) { nx := fun _ H' => Q .non H', rt := Q } [some (.ref a), some (.int i), some (.int c.toNat), v3, none, none] H3 := by
          intro h H3 s3
          rw [if_pos h] at hb
          refine ⟨_, rfl, _, rfl, _, rfl, _, _, rfl, rfl, ?_⟩
          have ee : (i : Int) + csize c.toNat = ((i + csz c : Nat) : Int) := by
            have := csz_eq c
            omega
          refine ⟨_, rfl, _, rfl, (i : Int), rfl, _, rfl, ((i + csz c : Nat) : Int), by rw [← ee], a, _, rfl, s3.seq hS, ?_⟩
          rw [bcut, show i + csz c - i = csz c by omega]
          refine fun p hp => ⟨_, rfl, fun x dx hx hdx hne => ?_⟩
          refine ⟨x, dx, _, _, _, rfl, upd_same, rfl, k1 _ _ x _ ((s3.trans (Same.upd hp)).ins hx hdx) hb ⟨(s3.trans (Same.upd hp)).free hx, _, ⟨dx, ?_⟩, p, rfl, s3.free hp, ?_⟩⟩
          · rw [upd_same, ← ee]
            rfl
          · exact (Same.refl _).ins hx hdx _ _ upd_same
        refine ⟨_, rfl, _, _, rfl, rfl, _, rfl, ite2 (fun q => ?_) (fun q => ?_)⟩
        · have h : 127 < c.toNat := by
            have := of_decide_eq_true q
            omega
          exact hit (.inl h) H2 sm
        · have h : ¬ 127 < c.toNat := fun z => q (decide_eq_true (by omega))
          refine ⟨_, rfl, PLAINS, rfl, (by decide), fun p hp => ⟨p, _, rfl, .inl (SqL.of upd_same), rfl, (by decide +kernel), _, rfl, ?_⟩⟩
          have s3 := sm.trans (Same.upd (o := .lst ((codesI PLAINS).map V.int)) hp)
          show if plainI c = true then _ else _
          refine ite2 (fun q => hit (.inr q) _ s3) fun q => ?_
          rw [if_neg (by rintro (z | z); exact h z; exact q z)] at hb
          exact ⟨by decide, k0 _ s3 hb⟩
    -- a word
    obtain ⟨t6, h6, q6⟩ : ∃ t6, PSs (cxOf (CXN P w CN) P w K mg base ["picture", "at", "code", "word", "closing", "end"] "read_piece" (defScope sRp) f cdv A outer s H E) ((defBody sRp).drop 6) t6 ∧
        ∀ H2 : Hp, Same H H2 → rp b i c = rp6 b i c → t6 { nx := fun _ H' => Q .non H', rt := Q } [some (.ref a), some (.int i), some (.int c.toNat), none, none, none] H2 := by
      refine ⟨_, (pss_cons (ps_for hp rfl (pi_kkeys (pe_gr g_WORDS)) (pg_name (i := 3) nd rfl (Or.inl rfl)) (pss_one (ps_if (pt_val (pe_own O_begins_with (hr.mono (by decide)) pass0 (pa_cons (pv 0) (pa_cons (pv 1) (pa_cons (pv 3) pa_nil))))) (pss_one (ps_ret (pe_new O_Piece (hr.mono (by decide)) pass0 (pa_cons (pe_kget (pe_gr g_WORDS) (pv 3) (fun _ _ => rfl)) (pa_cons (pe_callB call_len_str rfl T.n_len (by decide +kernel) (pa_cons (pv 3) pa_nil)) (pa_cons (pe_op op_add (pv 1) (pe_callB call_len_str rfl T.n_len (by decide +kernel) (pa_cons (pv 3) pa_nil))) pa_nil)))))) pss_nil)))
      h7), ?_⟩
      intro H2 sm hb
      refine ⟨a_WORDS, WORDL, rfl, s_WORDS, for_plain (plain_keys WORDL) (fun j σ H' => ∃ v3 : Option V, σ = [some (.ref a), some (.int i), some (.int c.toNat), v3, none, none] ∧ Same H H' ∧ wordL WORDP b i = wordL (WORDP.drop j) b i) ⟨none, rfl, sm, rfl⟩ ?_ ?_⟩
      · rintro j y σ H' hy ⟨v3, rfl, sm', hc'⟩
        obtain ⟨x, hx, rfl⟩ : ∃ x, WORDP[j]? = some x ∧ y = V.str x.1 := by
          have e : WORDL.map (fun p => kV p.1) = WORDP.map fun x => V.str x.1 := rfl
          rw [e, List.getElem?_map] at hy
          obtain ⟨x, hx, e⟩ := Option.map_eq_some_iff.mp hy
          exact ⟨x, hx, e.symm⟩
        have hxl : x.1.length ≤ 100 ∧ valV WORDL (.inr x.1) = some (.str x.2) := by
          have : ∀ x ∈ WORDP, x.1.length ≤ 100 ∧ valV WORDL (.inr x.1) = some (.str x.2) := by decide +kernel
          exact this x (List.mem_of_getElem? hx)
        rw [drop_get hx, wordL_cons] at hc'
        refine ⟨_, rfl, _, rfl, _, rfl, a, bi b, i, x.1, rfl, sm'.seq hS, (by rw [bi_length]; omega), hxl.1, fun H3 s3 => ⟨_, rfl, ite2 (fun q => ?_) (fun q => ?_)⟩⟩
        · rw [if_pos q] at hc'
          have hb' : rp b i c = some (.word x.2 x.1.length, x.1.length) := by
            rw [hb]
            unfold rp6
            rw [hc']
          have s4 := sm'.trans s3
          have hsz : x.1.length ≤ sizeLine := by
            have := hxl.1
            show _ ≤ 2 ^ 24
            omega
          refine ⟨_, rfl, a_WORDS, WORDL, .inr x.1, _, rfl, s_WORDS, rfl, hxl.2, _, rfl, x.1, rfl, hsz, _, rfl, _, rfl, x.1, rfl, hsz, _, _, rfl, rfl, fun z dz hz hdz hne => ?_⟩
          refine ⟨z, dz, _, _, _, rfl, upd_same, rfl, k1 _ _ z _ (s4.ins hz hdz) hb' ⟨s4.free hz, _, ⟨dz, ?_⟩, rfl⟩⟩
          rw [upd_same]
          rfl
        · rw [if_neg q] at hc'
          exact ⟨_, rfl, sm'.trans s3, hc'⟩
      · rintro σ H' ⟨v3, rfl, sm', hc'⟩
        refine q7 v3 H' sm' ?_
        rw [hb]
        unfold rp6
        rw [hc']
        rfl
    refine ⟨_, (pss_cons (ps_set (i := 2) nd rfl (Or.inl rfl) (pe_ix ix_list (pv 0) (pv 1) (fun _ _ => rfl)))
      (pss_cons (ps_if (pt_cmpR op_eq (pv 2) (pe_gi T.c_QUOTE) (nomark _)) (pss_cons (ps_set (i := 4) nd rfl (Or.inl rfl) (pe_own O_closing_place (hr.mono (by decide)) (passN xk (fun _ z => z)) (pa_cons (pv 0) (pa_cons (pv 1) (pa_cons (pe_gi T.c_QUOTE) pa_nil)))))
      (pss_one (ps_ret (pe_new O_Piece (hr.mono (by decide)) pass0 (pa_cons pe_str (pa_cons (pe_slice sl_list (pv 0) (po_some (pe_op op_add (pv 1) pe_int)) (po_some (pv 4))) (pa_cons (pe_op op_add (pv 4) pe_int) pa_nil))))))) pss_nil)
      (pss_cons (ps_if (PW.pt (pw_or (pt_cmpR op_eq (pv 2) (pe_gi T.c_BACKSLASH) (nomark _)) (pw_or1 (pt_cmpR op_eq (pv 2) (pe_gi T.c_UNDERSCORE) (nomark _))))) (pss_one (ps_ret (pe_own O_read_character_behind (hr.mono (by decide)) (passN xk (fun _ z => z)) (pa_cons (pv 0) (pa_cons (pv 1) pa_nil))))) pss_nil)
      (pss_cons (ps_if (pt_cmpR op_eq (pv 2) (pe_gi T.c_OPENING_BRACKET) (nomark _)) (pss_one (ps_ret (pe_own O_read_bracket (hr.mono (by decide)) (passN xk (fun _ z => z)) (pa_cons (pv 0) (pa_cons (pv 1) pa_nil))))) pss_nil)
      (pss_cons (ps_if (pt_cmp (pc_kin (pv 2) (pe_gr g_SIGNS)) (by with_unfolding_all rfl)) (pss_one (ps_ret (pe_new O_Piece (hr.mono (by decide)) pass0 (pa_cons (pe_kget (pe_gr g_SIGNS) (pv 2) (fun _ _ => rfl)) (pa_cons (pv 2) (pa_cons (pe_op op_add (pv 1) pe_int) pa_nil)))))) pss_nil)
      (pss_cons (ps_if (PW.pt (pw_and (pt_cmpR op_eq (pv 2) (pe_gi T.c_LARGE_E) (nomark _)) (pw_and1 (pt_cmpR (op_inD hu65) (pe_slice sl_list (pv 0) (po_some (pe_op op_add (pv 1) pe_int)) (po_some (pe_op op_add (pv 1) pe_int))) (pe_tup (pa_cons (pe_lst (pa_cons (pe_gi T.c_PLUS) pa_nil)) (pa_cons (pe_lst (pa_cons (pe_gi T.c_MINUS) pa_nil)) pa_nil))) (by with_unfolding_all rfl))))) (pss_one (ps_ret (pe_new O_Piece (hr.mono (by decide)) pass0 (pa_cons pe_str (pa_cons (pe_ix ix_list (pv 0) (pe_op op_add (pv 1) pe_int) (fun _ _ => rfl)) (pa_cons (pe_op op_add (pv 1) pe_int) pa_nil)))))) pss_nil)
      h6)))))), ?_⟩
    refine ⟨_, rfl, _, rfl, a, _, _, _, rfl, rfl, hS, atI_nat (bv_get hc), ?_⟩
    have s0 := Same.refl H
    -- a quote
    refine ⟨_, rfl, rfl, _, rfl, ite2 (fun q => ?_) (fun q => ?_)⟩
    · have e : c = 34 := u8_eq.mpr (V.int.inj (of_decide_eq_true q))
      have hb : rp b i c = (if i + 1 + upTo b (i + 1) 34 = b.length then none else some (.text ((b.drop (i + 1)).take (upTo b (i + 1) 34)), upTo b (i + 1) 34 + 2)) := by
        unfold rp
        rw [if_pos e]
      refine ⟨_, rfl, _, rfl, a, b, i, 34, rfl, hS, hil, fun e => k0 H s0 (by rw [hb, if_pos e]), fun hlt => ?_⟩
      rw [if_neg (by omega)] at hb
      generalize upTo b (i + 1) 34 = u at hb hlt ⊢
      have ec : cutV (bv b) (some ((i : Int) + 1)) (some ((i + 1 + u : Nat) : Int)) = bv ((b.drop (i + 1)).take u) := by
        have := bcut b (i + 1) (i + 1 + u)
        rw [show i + 1 + u - (i + 1) = u by omega] at this
        exact this
      refine ⟨_, rfl, _, rfl, _, _, rfl, rfl, (i : Int) + 1, rfl, _, rfl, ((i + 1 + u : Nat) : Int), rfl, a, _, rfl, hS, ?_⟩
      rw [ec]
      refine fun p hp => ⟨_, rfl, _, _, rfl, rfl, fun x dx hx hdx hne => ?_⟩
      refine ⟨x, dx, _, _, _, rfl, upd_same, rfl, k1 _ _ x _ ((Same.upd hp).ins hx hdx) hb ⟨(Same.upd hp).free hx, _, ⟨dx, ?_⟩, p, rfl, hp, ?_⟩⟩
      · rw [upd_same, show ((i + (u + 2) : Nat) : Int) = ((i + 1 + u : Nat) : Int) + 1 by omega]
        rfl
      · exact (Same.refl _).ins hx hdx _ _ upd_same
    have n34 : c ≠ 34 := fun e => q (by rw [e]; rfl)
    -- a character behind
    have beh : c = 92 ∨ c = 95 → spRbeh K C CN ([.ref a, .int i] ++ []) H Q E := fun e => by
      have hb : rp b i c = (b[i + 1]?).map (fun d => (.text (behC c d (b.drop (i + 1))), 1 + csz d)) := by
        unfold rp rp2
        rw [if_neg n34, if_pos e]
      refine ⟨a, b, i, c, rfl, hS, hc, fun e2 H' sm => k0 H' sm ?_, fun d a' H' hd sm hP => k1 _ _ a' H' sm (by rw [hb, hd]; rfl) ?_⟩
      · rw [hb, List.getElem?_eq_none (by omega)]
        rfl
      · rw [← Nat.add_assoc]
        exact hP
    refine ⟨_, rfl, rfl, _, rfl, ite2 (fun q => ⟨_, rfl, _, rfl, beh (.inl (u8_eq.mpr (V.int.inj (of_decide_eq_true q))))⟩) (fun q => ?_)⟩
    have n92 : c ≠ 92 := fun e => q (by rw [e]; rfl)
    refine ⟨_, rfl, rfl, _, rfl, ite2 (fun q => ⟨_, rfl, _, rfl, beh (.inr (u8_eq.mpr (V.int.inj (of_decide_eq_true q))))⟩) (fun q => ?_)⟩
    have n95 : c ≠ 95 := fun e => q (by rw [e]; rfl)
    have hb3 : rp b i c = rp3 b i c := by
      unfold rp rp2
      rw [if_neg n34, if_neg (by rintro (z | z); exact n92 z; exact n95 z)]
    -- brackets
    unfold rp3 at hb3
    refine ⟨_, rfl, rfl, _, rfl, ite2 (fun q => ?_) (fun q => ?_)⟩
    · have e : c = 91 := u8_eq.mpr (V.int.inj (of_decide_eq_true q))
      rw [if_pos e] at hb3
      exact ⟨_, rfl, _, rfl, a, b, i, rfl, hS, hlen, hil, fun H' sm e => k0 H' sm (by rw [hb3, e]), fun p n a' H' sm e hP => k1 p n a' H' sm (by rw [hb3, e]) hP⟩
    have n91 : c ≠ 91 := fun e => q (by rw [e]; rfl)
    rw [if_neg n91] at hb3
    -- signs
    unfold rp4 at hb3
    refine ⟨_, rfl, a_SIGNS, SIGNL, .inl (c.toNat : Int), rfl, s_SIGNS, rfl, _, rfl, ?_⟩
    have sv := sign_val c
    cases hs : signI c with
    | some nm =>
      rw [hs] at hb3 sv
      rw [sv]
      refine iteT ⟨_, rfl, a_SIGNS, SIGNL, .inl (c.toNat : Int), _, rfl, s_SIGNS, rfl, sv, _, rfl, _, rfl, _, _, rfl, rfl, fun z dz hz hdz hne => ?_⟩
      refine ⟨z, dz, _, _, _, rfl, upd_same, rfl, k1 _ _ z _ (s0.ins hz hdz) hb3 ⟨hz, _, ⟨dz, ?_⟩, rfl⟩⟩
      rw [upd_same]
      rfl
    | none =>
      rw [hs] at hb3 sv
      rw [sv]
      refine iteF ?_
      dsimp only at hb3
      unfold rp5 at hb3
      -- an exponent
      refine ⟨_, rfl, rfl, _, rfl, ite2 (fun q => ?_) (fun q => ?_)⟩
      · have e : c = 69 := u8_eq.mpr (V.int.inj (of_decide_eq_true q))
        have ec : cutV (bv b) (some ((i : Int) + 1)) (some ((i : Int) + 2)) = bv ((b.drop (i + 1)).take 1) := by
          have := bcut b (i + 1) (i + 2)
          rw [show i + 2 - (i + 1) = 1 by omega] at this
          exact this
        refine ⟨_, rfl, _, rfl, _, _, rfl, rfl, (i : Int) + 1, rfl, _, rfl, _, _, rfl, rfl, (i : Int) + 2, rfl, a, _, rfl, hS, ?_⟩
        rw [ec]
        refine fun p hp => ⟨by decide, fun q1 hq1 => ⟨by decide, fun q2 hq2 => ⟨(by show 2 ≤ 2 ^ 24; decide), fun q3 hq3 => ?_⟩⟩⟩
        have p1 : p ≠ q1 := ne_of_none upd_same hq1
        have s1 := Same.upd (o := .lst (bv ((b.drop (i + 1)).take 1))) hp
        have s2 := Same.upd (o := .lst [V.int 43]) hq1
        have s3 := Same.upd (o := .lst [V.int 45]) hq2
        have s4 := Same.upd (o := .tup [V.ref q1, V.ref q2]) hq3
        have all := ((s1.trans s2).trans s3).trans s4
        have at1 : SqL K _ p (bv ((b.drop (i + 1)).take 1)) := SqL.of (s4 _ _ (s3 _ _ (s2 _ _ upd_same)))
        refine ⟨_, _, dp_ints (l := bi ((b.drop (i + 1)).take 1)) at1, .tup (SqT.of upd_same) (.cons (dp_ints (l := [43]) (SqL.of (s4 _ _ (s3 _ _ upd_same)))) (.cons (dp_ints (l := [45]) (SqL.of (s4 _ _ upd_same))) .nil)), shaped_ints _, rfl, ?_⟩
        have eb : (([.list ([43].map PyData.int), .list ([45].map PyData.int)] : List PyData).any fun e => PyData.eqv e (.list ((bi ((b.drop (i + 1)).take 1)).map PyData.int))) = decide ((b.drop (i + 1)).take 1 = [43] ∨ (b.drop (i + 1)).take 1 = [45]) := by
          rw [List.any_cons, List.any_cons, List.any_nil, eqv_ints, eqv_ints, show ([43] : List Int) = bi [43] from rfl, show ([45] : List Int) = bi [45] from rfl, bi_dec, bi_dec, Bool.or_false, Bool.decide_or]
          congr 1
          · exact decide_eq_decide.mpr ⟨Eq.symm, Eq.symm⟩
          · exact decide_eq_decide.mpr ⟨Eq.symm, Eq.symm⟩
        rw [eb]
        refine ⟨_, rfl, ite2 (fun q => ?_) (fun q => ?_)⟩
        · have h := of_decide_eq_true q
          rw [if_pos ⟨e, h⟩] at hb3
          obtain ⟨d, hd⟩ : ∃ d, b[i + 1]? = some d := by
            cases hx : b[i + 1]? with
            | some d => exact ⟨d, rfl⟩
            | none =>
              have : b.drop (i + 1) = [] := List.drop_of_length_le (by
                have := List.getElem?_eq_none_iff.mp hx
                omega)
              rw [this] at h
              rcases h with h | h <;> cases h
          have eh : (b.drop (i + 1)).headD 0 = d := by
            rw [drop_get hd]
            rfl
          rw [eh] at hb3
          have ad : atI (bv b) ((i : Int) + 1) = some (V.int d.toNat) := at_of (j := i + 1) (by omega) (bv_get hd)
          refine ⟨_, rfl, _, rfl, _, _, rfl, rfl, a, _, _, _, rfl, rfl, all.seq hS, ad, _, rfl, _, _, rfl, rfl, fun z dz hz hdz hne => ?_⟩
          refine ⟨z, dz, _, _, _, rfl, upd_same, rfl, k1 _ _ z _ (all.ins hz hdz) hb3 ⟨all.free hz, _, ⟨dz, ?_⟩, rfl⟩⟩
          rw [upd_same]
          rfl
        · rw [if_neg (fun z => q (decide_eq_true z.2))] at hb3
          exact q6 _ all hb3
      · have e : c ≠ 69 := fun e => q (by rw [e]; rfl)
        rw [if_neg (fun z => e z.1)] at hb3
        exact iteF (q6 H s0 hb3)
end
end NP
end
section
set_option Elab.async false
set_option linter.all false
set_option maxRecDepth 100000
set_option maxHeartbeats 2000000
namespace NP
open PySem PySem.Spec PyProof.Rows L2
open Sv68 (isDigit lower tenths)
theorem utf8_ascii {c : UInt8} {r : Bytes} (h : c.toNat < 128) : Wbk.utf8 (c :: r) = Wbk.utf8 r := by
  rw [utf8_cons, if_pos h]
theorem utf8_char {c : UInt8} {r : Bytes} (h : Wbk.utf8 (c :: r) = true) : 1 ≤ csz c ∧ csz c ≤ r.length + 1 ∧ Wbk.utf8 ((c :: r).drop (csz c)) = true := by
  obtain ⟨u0, u1⟩ := utf8_step (c := (c.toNat : Int)) (r := bi r) (bi_byt (c :: r))
  have e : oct ((c.toNat : Int) :: bi r) = c :: r := oct_bi (c :: r)
  rw [e, h] at u0 u1
  have hz := csz_eq c
  rw [bi_length, ← hz] at u0 u1
  have n0 : ¬ ((csz c : Int) = 0 ∨ (r.length : Int) + 1 < (csz c : Int)) := fun z => by cases u0 z
  have h1 : 1 ≤ csz c := by omega
  have h2 : csz c ≤ r.length + 1 := by omega
  refine ⟨h1, h2, ?_⟩
  have := u1 (by omega) (by omega)
  rw [Int.toNat_natCast] at this
  have e2 : oct (((c.toNat : Int) :: bi r).drop (csz c)) = (c :: r).drop (csz c) := by
    rw [show ((c.toNat : Int) :: bi r) = bi (c :: r) from rfl, show (bi (c :: r)).drop (csz c) = bi ((c :: r).drop (csz c)) by unfold bi; rw [List.map_drop]]
    exact oct_bi _
  rw [e2] at this
  exact (Bool.and_eq_true_iff.mp this.symm).2
theorem goU_lo {b : UInt8} {lo hi : Nat} (h : goU b lo hi = true) (hl : 128 ≤ lo) : ¬ b.toNat < 128 := by
  unfold goU at h
  rw [Bool.and_eq_true, decide_eq_true_iff, decide_eq_true_iff] at h
  omega
theorem utf8_behind {c : UInt8} (hc : c.toNat < 128) : ∀ (n : Nat) (t r : Bytes), t.length ≤ n → Wbk.utf8 (t ++ c :: r) = true → Wbk.utf8 r = true
  | n, [], r, _, h => by
    rw [List.nil_append, utf8_ascii hc] at h
    exact h
  | 0, a :: t, r, hn, h => by simp at hn
  | n + 1, a :: t, r, hn, h => by
    have hn' : t.length ≤ n := by simpa using hn
    rw [List.cons_append, utf8_cons] at h
    split at h
    · exact utf8_behind hc n t r hn' h
    · split at h
      · match t, hn', h with
        | [], _, h =>
          simp only [List.nil_append, List.cons_append, Bool.and_eq_true] at h
          exact (goU_lo h.1 (by decide) hc).elim
        | x :: t, hn', h =>
          simp only [List.nil_append, List.cons_append, Bool.and_eq_true] at h
          exact utf8_behind hc n t r (by simp at hn'; omega) h.2
      · split at h
        · match t, hn', h with
          | [], _, h =>
            cases r with
            | nil => simp at h
            | cons y r =>
              simp only [List.nil_append, List.cons_append, Bool.and_eq_true] at h
              refine (goU_lo h.1 ?_ hc).elim
              split <;> decide
          | [x], _, h =>
            simp only [List.nil_append, List.cons_append, Bool.and_eq_true] at h
            exact (goU_lo h.2.1 (by decide) hc).elim
          | x :: y :: t, hn', h =>
            simp only [List.nil_append, List.cons_append, Bool.and_eq_true] at h
            exact utf8_behind hc n t r (by simp at hn'; omega) h.2.2
        · split at h
          · match t, hn', h with
            | [], _, h =>
              match r, h with
              | y :: z :: r, h =>
                simp only [List.nil_append, List.cons_append, Bool.and_eq_true] at h
                refine (goU_lo h.1 ?_ hc).elim
                split <;> decide
            | [x], _, h =>
              cases r with
              | nil => simp at h
              | cons y r =>
                simp only [List.nil_append, List.cons_append, Bool.and_eq_true] at h
                exact (goU_lo h.2.1 (by decide) hc).elim
            | [x, y], _, h =>
              simp only [List.nil_append, List.cons_append, Bool.and_eq_true] at h
              exact (goU_lo h.2.2.1 (by decide) hc).elim
            | x :: y :: z :: t, hn', h =>
              simp only [List.nil_append, List.cons_append, Bool.and_eq_true] at h
              exact utf8_behind hc n t r (by simp at hn'; omega) h.2.2.2
          · cases h
theorem utf8_plain : ∀ (n : Nat) (l : Bytes), n ≤ l.length → (∀ x ∈ l.take n, x.toNat < 128) → Wbk.utf8 l = true → Wbk.utf8 (l.drop n) = true
  | 0, l, _, _, h => h
  | n + 1, [], hl, _, _ => by simp at hl
  | n + 1, c :: l, hl, hp, h => by
    rw [utf8_ascii (hp c (by simp))] at h
    exact utf8_plain n l (by simpa using hl) (fun x hx => hp x (by simp [hx])) h
theorem tw_mem {p : UInt8 → Bool} {x : UInt8} : ∀ {l : Bytes}, x ∈ l.takeWhile p → p x = true
  | [], h => by cases h
  | a :: l, h => by
    rw [List.takeWhile_cons] at h
    split at h
    · rename_i ha
      rcases List.mem_cons.mp h with e | h
      · rw [e]; exact ha
      · exact tw_mem h
    · cases h
theorem tenths_plain (q : Bytes) : more (tenths q) ≤ q.length ∧ ∀ x ∈ q.take (more (tenths q)), x.toNat < 128 := by
  unfold tenths
  split
  · rename_i h
    cases q with
    | nil => cases h
    | cons c r =>
      have ec : c = 46 := Option.some.inj h
      subst ec
      rw [List.drop_one, List.tail_cons]
      have hl := (r.takeWhile_prefix fun c => c == 48).length_le
      unfold more
      split
      · exact ⟨Nat.zero_le _, fun x hx => by simp at hx⟩
      · refine ⟨by rw [List.length_cons]; omega, fun x hx => ?_⟩
        rw [List.take_succ_cons] at hx
        rcases List.mem_cons.mp hx with e | hx
        · rw [e]; decide
        · have hx2 : x ∈ r.take (r.takeWhile fun c => c == 48).length := (List.take_subset_take_left r (Nat.min_le_right _ _)) hx
          have e2 : r.take (r.takeWhile fun c => c == 48).length = r.takeWhile fun c => c == 48 := (List.prefix_iff_eq_take.mp (List.takeWhile_prefix _)).symm
          rw [e2] at hx2
          have := tw_mem hx2
          have e3 : x = 48 := by simpa using this
          rw [e3]; decide
  · exact ⟨Nat.zero_le _, fun x hx => by simp [more] at hx⟩
theorem utf8_dec {l : UInt8} {q : Bytes} (h : Wbk.utf8 q = true) : more (decC l q) ≤ q.length ∧ Wbk.utf8 (q.drop (more (decC l q))) = true := by
  unfold decC
  split
  · exact ⟨(tenths_plain q).1, utf8_plain _ q (tenths_plain q).1 (tenths_plain q).2 h⟩
  · exact ⟨Nat.zero_le _, h⟩
theorem lower_plain {x : UInt8} (h : (lower x).toNat < 128) : x.toNat < 128 := by
  have key : ∀ k : Fin 256, (lower (UInt8.ofNat k.val)).toNat < 128 → k.val < 128 := by decide +kernel
  have := key ⟨x.toNat, x.toNat_lt⟩
  simp only [UInt8.ofNat_toNat] at this
  exact this h
theorem upTo_split {b : Bytes} {i : Nat} {c : UInt8} (h : i + upTo b i c < b.length) : b.drop i = (b.drop i).take (upTo b i c) ++ c :: b.drop (i + upTo b i c + 1) := by
  unfold upTo at h ⊢
  have e := List.takeWhile_append_dropWhile (p := fun x => x != c) (l := b.drop i)
  have e2 : (b.drop i).take ((b.drop i).takeWhile fun x => x != c).length = (b.drop i).takeWhile fun x => x != c := (List.prefix_iff_eq_take.mp (List.takeWhile_prefix _)).symm
  rw [e2]
  generalize hu : (b.drop i).takeWhile (fun x => x != c) = t at *
  have e3 : (b.drop i).drop t.length = (b.drop i).dropWhile fun x => x != c := by
    conv => lhs; rw [← e]
    rw [List.drop_left]
  rw [List.drop_drop] at e3
  cases hd : (b.drop i).dropWhile fun x => x != c with
  | nil =>
    rw [hd] at e3
    have := List.drop_eq_nil_iff.mp e3
    omega
  | cons y r =>
    have hy : ¬ (y != c) = true := by
      have := List.head_dropWhile_not (p := fun x => x != c) (l := b.drop i) (by rw [hd]; simp)
      simp only [hd, List.head_cons] at this
      rw [this]
      simp
    have ey : y = c := by simpa using hy
    rw [hd, ey] at e3 e
    have er : b.drop (i + t.length + 1) = r := by
      rw [← List.drop_drop, e3]
      rfl
    rw [er]
    exact e.symm
theorem rp_on {b : Bytes} {i n : Nat} {c : UInt8} {p : Pc} (hc : b[i]? = some c) (hu : Wbk.utf8 (b.drop i) = true) (h : rp b i c = some (p, n)) : 1 ≤ n ∧ i + n ≤ b.length ∧ Wbk.utf8 (b.drop (i + n)) = true := by
  have hil := (List.getElem?_eq_some_iff.mp hc).1
  have ed := drop_get hc
  have asc : c.toNat < 128 → Wbk.utf8 (b.drop (i + 1)) = true := fun hl => by
    rw [ed, utf8_ascii hl] at hu
    exact hu
  -- behind a sign that closes
  have clo : ∀ d : UInt8, d.toNat < 128 → i + 1 + upTo b (i + 1) d < b.length → Wbk.utf8 (b.drop (i + 1 + upTo b (i + 1) d + 1)) = true := fun d hd hlt => by
    have e := upTo_split hlt
    rw [ed, e, ← List.cons_append] at hu
    exact utf8_behind hd _ _ _ (Nat.le_refl _) hu
  unfold rp at h
  split at h
  · split at h
    · cases h
    · rename_i h1 h2
      have hle := upTo_le b (i + 1) 34 (by omega)
      have hlt : i + 1 + upTo b (i + 1) 34 < b.length := by omega
      have := Prod.mk.inj (Option.some.inj h)
      obtain rfl := this.2
      refine ⟨by omega, by omega, ?_⟩
      have := clo 34 (by decide) hlt
      rw [show i + (upTo b (i + 1) 34 + 2) = i + 1 + upTo b (i + 1) 34 + 1 by omega]
      exact this
  · unfold rp2 at h
    split at h
    · rename_i h1 h2
      have hl : c.toNat < 128 := by rcases h2 with e | e <;> rw [e] <;> decide
      cases hd : b[i + 1]? with
      | none =>
        rw [hd] at h
        cases h
      | some d =>
        rw [hd] at h
        have := Prod.mk.inj (Option.some.inj h)
        obtain rfl := this.2
        have hu1 := asc hl
        rw [drop_get hd] at hu1
        obtain ⟨g1, g2, g3⟩ := utf8_char hu1
        rw [List.length_drop] at g2
        have := (List.getElem?_eq_some_iff.mp hd).1
        refine ⟨by omega, by omega, ?_⟩
        rw [← drop_get hd, List.drop_drop] at g3
        rw [show i + (1 + csz d) = i + 1 + csz d by omega]
        exact g3
    · unfold rp3 at h
      split at h
      · rename_i h1 h2 h3
        unfold brk at h
        split at h
        · cases h
        · rename_i h4
          have hle := upTo_le b (i + 1) 93 (by omega)
          have hlt : i + 1 + upTo b (i + 1) 93 < b.length := by omega
          have hu1 := clo 93 (by decide) hlt
          generalize upTo b (i + 1) 93 = u at *
          have go : ∀ m, m ≤ (b.drop (i + 1 + u + 1)).length → Wbk.utf8 ((b.drop (i + 1 + u + 1)).drop m) = true → n = u + 2 + m → 1 ≤ n ∧ i + n ≤ b.length ∧ Wbk.utf8 (b.drop (i + n)) = true := fun m h5 h6 h7 => by
            subst h7
            rw [List.length_drop] at h5
            rw [List.drop_drop] at h6
            refine ⟨by omega, by omega, ?_⟩
            rw [show i + (u + 2 + m) = i + 1 + u + 1 + m by omega]
            exact h6
          unfold brkI at h
          split at h
          · have := Prod.mk.inj (Option.some.inj h)
            exact go 0 (Nat.zero_le _) hu1 this.2.symm
          · split at h
            · have := Prod.mk.inj (Option.some.inj h)
              exact go 0 (Nat.zero_le _) hu1 this.2.symm
            · split at h
              · have := Prod.mk.inj (Option.some.inj h)
                have hd := utf8_dec (l := (List.map lower (List.take u (List.drop (i + 1) b))).headD 0) hu1
                exact go _ hd.1 hd.2 this.2.symm
              · cases h
      · unfold rp4 at h
        split at h
        · rename_i nm hs
          have := Prod.mk.inj (Option.some.inj h)
          obtain rfl := this.2
          have hl : c.toNat < 128 := by
            unfold signI at hs
            repeat' split at hs
            all_goals first
              | cases hs; done
              | (rename_i e; rcases e with e | e | e <;> rw [e] <;> decide)
              | (rename_i e; rw [e]; decide)
          exact ⟨by omega, by omega, asc hl⟩
        · unfold rp5 at h
          split at h
          · rename_i h5
            have := Prod.mk.inj (Option.some.inj h)
            obtain rfl := this.2
            have hu1 := asc (by rw [h5.1]; decide)
            cases hd : b[i + 1]? with
            | none =>
              have : b.drop (i + 1) = [] := List.drop_of_length_le (by
                have := List.getElem?_eq_none_iff.mp hd
                omega)
              rw [this] at h5
              rcases h5.2 with h | h <;> cases h
            | some d =>
              have := (List.getElem?_eq_some_iff.mp hd).1
              rw [drop_get hd] at hu1 h5
              have ed2 : d.toNat < 128 := by
                rcases h5.2 with h | h <;> (have := List.cons.inj h; rw [this.1]; decide)
              rw [utf8_ascii ed2] at hu1
              exact ⟨by omega, by omega, hu1⟩
          · unfold rp6 at h
            split at h
            · rename_i x hw
              have := Prod.mk.inj (Option.some.inj h)
              obtain rfl := this.2
              have key : ∀ y : Str × Str, y ∈ WORDP → begI (bi b) i y.1 = true → 1 ≤ y.1.length ∧ i + y.1.length ≤ b.length ∧ ∀ z ∈ (b.drop i).take y.1.length, z.toNat < 128 := by
                intro y hy hbeg
                unfold begI at hbeg
                have hbeg := of_decide_eq_true hbeg
                have e1 : ((bi b).drop i).take y.1.length = bi ((b.drop i).take y.1.length) := by
                  unfold bi
                  rw [List.map_take, List.map_drop]
                rw [e1] at hbeg
                have facts : ∀ y ∈ WORDP, 1 ≤ y.1.length ∧ (codesI y.1).length = y.1.length ∧ ∀ n ∈ codesI y.1, n < 128 := by decide +kernel
                obtain ⟨f1, f2, f3⟩ := facts y hy
                have hlen : ((b.drop i).take y.1.length).length = y.1.length := by
                  have := congrArg List.length hbeg
                  rw [List.length_map, bi_length, f2] at this
                  exact this
                rw [List.length_take, List.length_drop] at hlen
                refine ⟨f1, by omega, fun z hz => ?_⟩
                have hm : lowI (z.toNat : Int) ∈ codesI y.1 := by
                  rw [← hbeg]
                  exact List.mem_map_of_mem (List.mem_map_of_mem hz)
                have := f3 _ hm
                rw [low_lower] at this
                exact lower_plain (by omega)
              have hx : ∃ y ∈ WORDP, begI (bi b) i y.1 = true ∧ x.2 = y.1.length := by
                have gen : ∀ l : List (Str × Str), (∀ y ∈ l, y ∈ WORDP) → wordL l b i = some x → ∃ y ∈ WORDP, begI (bi b) i y.1 = true ∧ x.2 = y.1.length := by
                  intro l
                  induction l with
                  | nil => intro _ h; cases h
                  | cons y l ih =>
                    intro hl h
                    rw [wordL_cons] at h
                    split at h
                    · rename_i hb
                      refine ⟨y, hl y List.mem_cons_self, hb, ?_⟩
                      rw [← Option.some.inj h]
                    · exact ih (fun z hz => hl z (List.mem_cons_of_mem _ hz)) h
                exact gen WORDP (fun _ h => h) hw
              obtain ⟨y, hy, hb, ey⟩ := hx
              obtain ⟨g1, g2, g3⟩ := key y hy hb
              rw [ey]
              refine ⟨g1, g2, ?_⟩
              have := utf8_plain y.1.length (b.drop i) (by rw [List.length_drop]; omega) g3 hu
              rw [List.drop_drop] at this
              exact this
            · unfold rp7 at h
              split at h
              · rename_i m hm
                split at h
                · cases h
                · rename_i hle
                  have := Prod.mk.inj (Option.some.inj h)
                  obtain rfl := this.2
                  have hrow : ∀ z ∈ (b.drop i).take (rowN b i (lower c)), z.toNat < 128 := fun z hz => by
                    unfold rowN at hz
                    rw [(List.prefix_iff_eq_take.mp (List.takeWhile_prefix (fun x => lower x == lower c) (l := b.drop i))).symm] at hz
                    have e : lower z = lower c := by simpa using tw_mem hz
                    refine lower_plain ?_
                    rw [e]
                    unfold longest at hm
                    repeat' split at hm
                    all_goals first
                      | cases hm; done
                      | (rename_i e; rw [e]; decide)
                  have hr1 : 1 ≤ rowN b i (lower c) := by
                    unfold rowN
                    rw [ed, List.takeWhile_cons, if_pos (by simp), List.length_cons]
                    omega
                  have hr2 : rowN b i (lower c) ≤ (b.drop i).length := (List.takeWhile_prefix _).length_le
                  have hu1 := utf8_plain _ (b.drop i) hr2 hrow hu
                  rw [List.drop_drop] at hu1
                  rw [List.length_drop] at hr2
                  obtain ⟨d1, d2⟩ := utf8_dec (l := lower c) hu1
                  rw [List.length_drop] at d1
                  rw [List.drop_drop] at d2
                  refine ⟨by omega, by omega, ?_⟩
                  rw [← Nat.add_assoc]
                  exact d2
              · unfold rp8 at h
                split at h
                · have := Prod.mk.inj (Option.some.inj h)
                  obtain rfl := this.2
                  rw [ed] at hu
                  obtain ⟨g1, g2, g3⟩ := utf8_char hu
                  rw [List.length_drop] at g2
                  rw [← ed, List.drop_drop] at g3
                  exact ⟨g1, by omega, g3⟩
                · cases h
end NP
end
section
set_option Elab.async false
set_option linter.all false
set_option maxRecDepth 100000
set_option maxHeartbeats 2000000
namespace NP
open PySem PySem.Spec PyProof.Rows L2
open Sv68 (isDigit lower tenths)
def ppF (b : Bytes) : Nat → Nat → Option (List (List Pc))
  | 0, _ => none
  | f + 1, i => match b[i]? with
    | none => some [[]]
    | some c => if c = 59 then (ppF b f (i + 1)).map fun l => [] :: l else (rp b i c).bind fun x => (ppF b f (i + x.2)).map fun l => l.modifyHead fun t => x.1 :: t
theorem ppF_fuel {b : Bytes} : ∀ (f f' i : Nat), i ≤ b.length → Wbk.utf8 (b.drop i) = true → b.length - i + 1 ≤ f → b.length - i + 1 ≤ f' → ppF b f i = ppF b f' i
  | 0, f', i, hi, hu, h, h' => by omega
  | f + 1, 0, i, hi, hu, h, h' => by omega
  | f + 1, f' + 1, i, hi, hu, h, h' => by
    rw [ppF, ppF]
    cases hc : b[i]? with
    | none => rfl
    | some c =>
      have hil := (List.getElem?_eq_some_iff.mp hc).1
      dsimp only
      split
      · rename_i e
        have hu1 : Wbk.utf8 (b.drop (i + 1)) = true := by
          rw [drop_get hc, utf8_ascii (by rw [e]; decide)] at hu
          exact hu
        rw [ppF_fuel f f' (i + 1) hil hu1 (by omega) (by omega)]
      · cases hx : rp b i c with
        | none => rfl
        | some x =>
          obtain ⟨p, n⟩ := x
          obtain ⟨g1, g2, g3⟩ := rp_on hc hu hx
          show (ppF b f (i + n)).map _ = (ppF b f' (i + n)).map _
          rw [ppF_fuel f f' (i + n) g2 g3 (by omega) (by omega)]
def PiecesAt (C : Cs) (H0 H : Hp) (q : Addr) (ps : List Pc) : Prop := H0 q = none ∧ ∃ as : List Addr, H q = some (.lst (as.map V.ref)) ∧ as.length ≤ 300 ∧ A2 (fun a p => ∃ e, PieceAt C H0 H a p e) as ps
def two (H : Hp) (pa pl : Addr) : Hp := upd (upd H pa (.lst [])) pl (.lst [])
theorem two_none {H : Hp} {pa pl b : Addr} : two H pa pl b = none ↔ (H b = none ∧ b ≠ pa ∧ b ≠ pl) := by
  unfold two
  by_cases h1 : b = pl
  · subst h1
    rw [upd_same]
    simp
  · rw [upd_ne h1]
    by_cases h2 : b = pa
    · subst h2
      rw [upd_same]
      simp
    · rw [upd_ne h2]
      simp [h1, h2]
theorem two_pl {H : Hp} {pa pl : Addr} : two H pa pl pl = some (.lst []) := upd_same
theorem two_pa {H : Hp} {pa pl : Addr} (h : pa ≠ pl) : two H pa pl pa = some (.lst []) := by
  unfold two
  rw [upd_ne h, upd_same]
theorem PiecesAt.off {C : Cs} {H0 H : Hp} {q l : Addr} {ps : List Pc} {o o' : HO} (hl : H0 l = some o) (h : PiecesAt C H0 H q ps) : PiecesAt C H0 (upd H l o') q ps := by
  obtain ⟨h0, as, h1, h2, h3⟩ := h
  refine ⟨h0, as, ?_, h2, A2.imp (fun a p ⟨e, z⟩ => ⟨e, z.off hl⟩) h3⟩
  rw [upd_ne (fun e => by rw [e, hl] at h0; cases h0)]
  exact h1
theorem PiecesAt.to {C : Cs} {H0 H1 H H' : Hp} {q : Addr} {ps : List Pc} (f : ∀ a o, H0 a = none → H a = some o → H1 a = none) (s : Same H H') (h : PiecesAt C H0 H q ps) : PiecesAt C H1 H' q ps := by
  obtain ⟨h0, as, h1, h2, h3⟩ := h
  exact ⟨f _ _ h0 h1, as, s _ _ h1, h2, A2.imp (fun a p ⟨e, z⟩ => ⟨e, z.to f fun a o _ z => s a o z⟩) h3⟩
section
variable {P : Program} {w : World} {K : PySem.W.Frag} {mg : Str → Option Value} {base : Heap} {CN : Addr} {B newId initId : String} {bm : List Value}
abbrev sPp : Stmt := top 77
theorem scPp : FnScope ["picture", "parted", "pieces", "at", "piece"] ["picture"] (defScope sPp) := ⟨rfl, rfl, rfl, by decide +kernel, rfl, by decide +kernel, by decide +kernel⟩
def spPp (K : PySem.W.Frag) (C : Cs) (CN : Addr) : Sp := fun vs H Q E => ∃ a b, vs = [.ref a] ∧ SqL K H a (bv b) ∧ b.length ≤ 255 ∧ Wbk.utf8 b = true ∧
  (∀ H', Same H H' → ppF b (b.length + 1) 0 = none → E (.ref CN) none H') ∧ ∀ p qs ls H', Same H H' → ppF b (b.length + 1) 0 = some ls → H' p = some (.lst (qs.map V.ref)) → qs.length ≤ 300 → A2 (fun q ps => PiecesAt C H H' q ps) qs ls → Q (.ref p) H'
theorem ok_pp {f : Addr} {fd : FuncData} {C : Cs} (T : TX P w K mg) (TP : Tx_Piece K C.piece) (O_read_piece : Own P w K mg base (CXN P w CN) 6 "read_piece" ["picture", "at"] (spRp K C CN))
    (F : Fun K "part_pieces" "part_pieces" sPp f fd) : FnOk P w K mg base (CXN P w CN) 7 f fd ["picture"] (spPp K C CN) := by
  refine F.okX scPp (fun vs H Q E h => ?_) (fun cdv A outer s H vs Q E hr h xk hp => ?_)
  · obtain ⟨a, b, rfl, _⟩ := h
    rfl
  · obtain ⟨a, b, rfl, hS, hlen, hu, k0, k1⟩ := h
    have nd := scPp.nd
    refine ⟨_, (pss_cons (ps_set (i := 1) nd rfl (Or.inl rfl) (pe_lst pa_nil))
      (pss_cons (ps_set (i := 2) nd rfl (Or.inl rfl) (pe_lst pa_nil))
      (pss_cons (ps_set (i := 3) nd rfl (Or.inl rfl) pe_int)
      (pss_cons (ps_while hp (pt_cmpR op_lt (pv 3) (pe_callB call_len_seq rfl T.n_len (by decide +kernel) (pa_cons (pv 0) pa_nil)) (nomark _)) (pss_one (ps_if (pt_cmpR op_eq (pe_ix ix_list (pv 0) (pv 3) (fun _ _ => rfl)) (pe_gi T.c_SEMICOLON) (nomark _)) (pss_cons (ps_expr (pe_bm PySem.F.plainAttrs_list PySem.F.slot_list_append PySem.F.type_list_append mt_append (pv 1) (pa_cons (pv 2) pa_nil)))
      (pss_cons (ps_set (i := 2) nd rfl (Or.inl rfl) (pe_lst pa_nil))
      (pss_one (ps_aug (i := 3) nd rfl (Or.inl rfl) pe_int ip_add)))) (pss_cons (ps_set (i := 4) nd rfl (Or.inl rfl) (pe_own O_read_piece (hr.mono (by decide)) (passN xk (fun _ z => z)) (pa_cons (pv 0) (pa_cons (pv 3) pa_nil))))
      (pss_cons (ps_expr (pe_bm PySem.F.plainAttrs_list PySem.F.slot_list_append PySem.F.type_list_append mt_append (pv 2) (pa_cons (pv 4) pa_nil)))
      (pss_one (ps_set (i := 3) nd rfl (Or.inl rfl) (pe_fld (pv 4) rfl))))))))
      (pss_cons (ps_expr (pe_bm PySem.F.plainAttrs_list PySem.F.slot_list_append PySem.F.type_list_append mt_append (pv 1) (pa_cons (pv 2) pa_nil)))
      (pss_one (ps_ret (pv 1)))))))), ?_⟩
    refine ⟨Nat.zero_le _, fun pa hpa => ⟨Nat.zero_le _, fun pl hpl => ?_⟩⟩
    have npl : pa ≠ pl := ne_of_none upd_same hpl
    have hplH : H pl = none := (Same.upd hpa).free hpl
    refine ⟨fun m σ H' => ∃ (i : Nat) (pl : Addr) (qs as : List Addr) (done : List (List Pc)) (cur : List Pc) (v4 : Option V), σ = [some (.ref a), some (.ref pa), some (.ref pl), some (.int i), v4] ∧ Same H H' ∧ i ≤ b.length ∧ Wbk.utf8 (b.drop i) = true ∧
        H' pa = some (.lst (qs.map V.ref)) ∧ H' pl = some (.lst (as.map V.ref)) ∧ pa ≠ pl ∧ H pl = none ∧ A2 (fun q ps => q ≠ pa ∧ q ≠ pl ∧ PiecesAt C (two H pa pl) H' q ps) qs done ∧ A2 (fun a p => ∃ e, PieceAt C (two H pa pl) H' a p e) as cur ∧
        qs.length + as.length ≤ i ∧ m = b.length - i ∧ ppF b (b.length + 1) 0 = (ppF b (b.length - i + 1) i).map fun l => done ++ l.modifyHead fun t => cur ++ t,
      ⟨_, 0, pl, [], [], [], [], none, rfl, ((Same.upd hpa).trans (Same.upd hpl)), Nat.zero_le _, hu, (by rw [upd_ne npl, upd_same]; rfl), upd_same, npl, hplH, .nil, .nil, Nat.le_refl _, rfl, ?_⟩, ?_⟩
    · rw [Nat.sub_zero]
      cases ppF b (b.length + 1) 0 with
      | none => rfl
      | some l => cases l <;> rfl
    rintro m σ H' ⟨i, pl, qs, as, done, cur, v4, rfl, sm, hi, hui, hA, hL, nAL, hLH, h2, h1, hcnt, rfl, hF⟩
    have hdom : ∀ x, H' x = none → two H pa pl x = none := fun x hx => two_none.mpr ⟨sm.free hx, fun e => (by rw [e, hA] at hx; cases hx), fun e => (by rw [e, hL] at hx; cases hx)⟩
    refine ⟨_, rfl, _, rfl, a, _, rfl, .inl (sm.seq hS), _, _, rfl, rfl, _, rfl, ite2 (fun q => ?_) (fun q => ?_)⟩
    · have hlt : i < b.length := by
        have := of_decide_eq_true q
        rw [bv_length] at this
        omega
      obtain ⟨c, hc⟩ : ∃ c, b[i]? = some c := ⟨_, List.getElem?_eq_getElem hlt⟩
      have hF1 : ppF b (b.length - i + 1) i = if c = 59 then (ppF b (b.length - i) (i + 1)).map fun l => [] :: l else (rp b i c).bind fun x => (ppF b (b.length - i) (i + x.2)).map fun l => l.modifyHead fun t => x.1 :: t := by
        rw [ppF, hc]
      refine ⟨_, fun σ' H2 z => z, ?_⟩
      refine ⟨_, rfl, _, rfl, a, _, _, _, rfl, rfl, sm.seq hS, atI_nat (bv_get hc), rfl, _, rfl, ite2 (fun q => ?_) (fun q => ?_)⟩
      · -- ;
        have e : c = 59 := u8_eq.mpr (V.int.inj (of_decide_eq_true q))
        rw [if_pos e] at hF1
        refine ⟨_, rfl, .inl ⟨rfl, _, SqL.of hA⟩, _, rfl, pa, _, _, rfl, rfl, hA, (by rw [List.length_map]; show _ < 2 ^ 24; omega), ?_⟩
        refine ⟨Nat.zero_le _, fun pn hpn => ?_⟩
        have nA : pn ≠ pa := fun e => by rw [e, upd_same] at hpn; cases hpn
        rw [upd_ne nA] at hpn
        have nL : pn ≠ pl := fun e => by rw [e, hL] at hpn; cases hpn
        refine ⟨_, rfl, _, _, rfl, rfl, b.length - (i + 1), by omega, i + 1, pn, qs ++ [pl], [], done ++ [cur], [], v4, rfl, ?_, hlt, ?_, ?_, upd_same, Ne.symm nA, sm.free hpn, ?_, .nil, ?_, rfl, ?_⟩
        · exact (sm.off hpa).trans (Same.upd (by rw [upd_ne nA]; exact hpn))
        · rw [drop_get hc, utf8_ascii (by rw [e]; decide)] at hui
          exact hui
        · rw [upd_ne (Ne.symm nA), upd_same, List.map_append]
          rfl
        · -- the lists that are done
          have conv : ∀ (x : Addr) (o : HO), two H pa pl x = none → H' x = some o → two H pa pn x = none := fun x o hx ho => two_none.mpr ⟨(two_none.mp hx).1, (two_none.mp hx).2.1, fun e => by rw [e, hpn] at ho; cases ho⟩
          have hpn' : two H pa pn pn = some (.lst []) := two_pl
          have hpa' : two H pa pn pa = some (.lst []) := two_pa (Ne.symm nA)
          refine A2.snoc ⟨Ne.symm nAL, Ne.symm nL, ?_⟩ (A2.imp (fun q ps ⟨z1, z2, z3⟩ => ⟨z1, fun e => ?_, ?_⟩) h2)
          · have : PiecesAt C (two H pa pn) H' pl cur := ⟨two_none.mpr ⟨hLH, Ne.symm nAL, Ne.symm nL⟩, as, hL, by omega, A2.imp (fun a p ⟨e, z⟩ => ⟨e, z.to conv fun _ _ _ y => y⟩) h1⟩
            exact (this.off hpa').off hpn'
          · obtain ⟨_, as', y, _⟩ := z3
            rw [e, hpn] at y
            cases y
          · exact ((z3.to conv (Same.refl H')).off hpa').off hpn'
        · rw [List.length_append]
          simp
          omega
        · rw [hF, hF1, show b.length - (i + 1) + 1 = b.length - i by omega]
          cases ppF b (b.length - i) (i + 1) with
          | none => rfl
          | some l =>
            show some _ = some _
            cases l <;> simp
      · -- a piece
        have e : c ≠ 59 := fun e => q (by rw [e]; rfl)
        rw [if_neg e] at hF1
        refine ⟨_, rfl, _, rfl, a, b, i, c, rfl, sm.seq hS, hlen, hc, fun H2 s2 hn => ?_, fun p n a' H2 s2 hn hP => ?_⟩
        · refine k0 H2 (sm.trans s2) ?_
          rw [hF, hF1, hn]
          rfl
        · obtain ⟨g1, g2, g3⟩ := rp_on hc hui hn
          have sm2 := sm.trans s2
          have hA2 := s2 _ _ hA
          have hL2 := s2 _ _ hL
          have hPt : PieceAt C (two H pa pl) H2 a' p (i + n) := hP.to (fun x o hx _ => hdom x hx) fun _ _ _ z => z
          refine ⟨_, rfl, .inl ⟨rfl, _, SqL.of hL2⟩, _, rfl, pl, _, _, rfl, rfl, hL2, (by rw [List.length_map]; show _ < 2 ^ 24; omega), ?_⟩
          have hpl' : two H pa pl pl = some (.lst []) := two_pl
          obtain ⟨_, v, ⟨dx, hins⟩, _⟩ := hPt.off (o' := .lst (List.map V.ref as ++ [V.ref a'])) hpl'
          refine ⟨_, rfl, a', C.piece, dx, _, _, rfl, hins, TP.cl, TP.n_end, fs_Piece_end _ _ _, b.length - (i + n), by omega, i + n, pl, qs, as ++ [a'], done, cur ++ [p], _, rfl, sm2.off hLH, g2, g3, ?_, ?_, nAL, hLH, ?_, ?_, ?_, rfl, ?_⟩
          · rw [upd_ne nAL]
            exact hA2
          · rw [upd_same, List.map_append]
            rfl
          · exact A2.imp (fun q ps ⟨z1, z2, z3⟩ => ⟨z1, z2, (z3.to (fun _ _ z _ => z) s2).off hpl'⟩) h2
          · exact A2.snoc ⟨_, hPt.off hpl'⟩ (A2.imp (fun a p ⟨e, z⟩ => ⟨e, (z.same s2).off hpl'⟩) h1)
          · rw [List.length_append]
            simp
            omega
          · rw [hF, hF1, hn]
            show Option.map _ ((ppF b (b.length - i) (i + n)).map _) = _
            have hfu : ppF b (b.length - i) (i + n) = ppF b (b.length - (i + n) + 1) (i + n) := ppF_fuel _ _ _ g2 g3 (by omega) (by omega)
            rw [hfu]
            cases ppF b (b.length - (i + n) + 1) (i + n) with
            | none => rfl
            | some l =>
              show some _ = some _
              cases l <;> simp
    · have hge : b.length ≤ i := by
        have : ¬ (i : Int) < ((bv b).length : Int) := fun z => q (decide_eq_true z)
        rw [bv_length] at this
        omega
      have hF1 : ppF b (b.length - i + 1) i = some [[]] := by
        rw [ppF, List.getElem?_eq_none hge]
      refine ⟨_, rfl, .inl ⟨rfl, _, SqL.of hA⟩, _, rfl, pa, _, _, rfl, rfl, hA, (by rw [List.length_map]; show _ < 2 ^ 24; omega), ?_⟩
      refine ⟨_, rfl, k1 pa (qs ++ [pl]) (done ++ [cur]) _ (sm.off hpa) ?_ ?_ ?_ ?_⟩
      · rw [hF, hF1]
        show some _ = some _
        simp
      · rw [upd_same, List.map_append]
        rfl
      · rw [List.length_append]
        simp
        omega
      · have hpa' : two H pa pl pa = some (.lst []) := two_pa nAL
        have back : ∀ {q : Addr} {ps : List Pc} {H2 : Hp}, PiecesAt C (two H pa pl) H2 q ps → PiecesAt C H H2 q ps := fun z => z.to (fun x o hx _ => (two_none.mp hx).1) (Same.refl _)
        refine A2.snoc ?_ (A2.imp (fun q ps ⟨z1, z2, z3⟩ => back (z3.off hpa')) h2)
        refine ⟨hLH, as, by rw [upd_ne (Ne.symm nAL)]; exact hL, by omega, A2.imp (fun a p ⟨e, z⟩ => ⟨e, (z.off hpa').to (fun x o hx _ => (two_none.mp hx).1) fun _ _ _ y => y⟩) h1⟩
end
end NP
end
section
set_option Elab.async false
set_option linter.all false
set_option maxRecDepth 100000
set_option maxHeartbeats 2000000
namespace NP
open PySem PySem.Spec PyProof.Rows L2
open Sv68 (isDigit lower tenths)
abbrev nPlace : Str := "place"
abbrev nPoint : Str := "point"
abbrev nComma : Str := "comma"
abbrev nPercent : Str := "percent"
abbrev nExponent : Str := "exponent"
abbrev nGeneral : Str := "general"
abbrev nAt : Str := "at"
abbrev nColour : Str := "colour"
abbrev nCondition : Str := "condition"
abbrev nText : Str := "text"
abbrev nNoon : Str := "noon"
abbrev nPart : Str := "part"
abbrev nPassed : Str := "passed"
def wholeP (ns : List Str) : List Str := ns.takeWhile fun x => !decide (x = nPoint)
def isNum (ns : List Str) : Bool := decide (nPlace ∈ ns) && (decide (ns.count nPoint ≤ 1) && (decide (ns.count nPercent ≤ 4) && (decide ((wholeP ns).count nPlace ≤ 24) && (decide ((wholeP ns).count nComma ≤ 8) && (decide ((ns.drop (wholeP ns).length).count nPlace ≤ 12) && !decide (nComma ∈ ns.drop (wholeP ns).length))))))
def mayExp (ns : List Str) : Bool := decide (nPlace ∈ wholeP ns) && (!decide (nComma ∈ wholeP ns) && !decide (nPercent ∈ ns))
abbrev nv (ns : List Str) : List V := ns.map V.str
theorem nv_length (ns : List Str) : (nv ns).length = ns.length := List.length_map ..
theorem nv_cut_to (ns : List Str) (j : Nat) : cutV (nv ns) none (some (j : Int)) = nv (ns.take j) := by rw [cut_to]; exact (List.map_take ..).symm
theorem nv_cut_from (ns : List Str) (j : Nat) : cutV (nv ns) (some (j : Int)) none = nv (ns.drop j) := by rw [cut_from]; exact (List.map_drop ..).symm
theorem idx_of {ns : List Str} {x : Str} (h : x ∈ ns) : ∃ j, ns[j]? = some x ∧ (∀ m y, m < j → ns[m]? = some y → y ≠ x) ∧ ns.takeWhile (fun y => !decide (y = x)) = ns.take j := by
  induction ns with
  | nil => cases h
  | cons a ns ih =>
    by_cases e : a = x
    · refine ⟨0, by rw [e]; rfl, fun m y hm => absurd hm (Nat.not_lt_zero _), ?_⟩
      rw [List.takeWhile_cons, if_neg (by simp [e])]
      rfl
    · rcases List.mem_cons.mp h with e2 | h
      · exact (e e2.symm).elim
      obtain ⟨j, h1, h2, h3⟩ := ih h
      refine ⟨j + 1, h1, fun m y hm hy => ?_, ?_⟩
      · cases m with
        | zero =>
          have : a = y := Option.some.inj hy
          rw [← this]
          exact e
        | succ m => exact h2 m y (by omega) hy
      · rw [List.takeWhile_cons, if_pos (by simp [e]), h3]
        rfl
section
variable {P : Program} {w : World} {K : PySem.W.Frag} {mg : Str → Option Value} {base : Heap} {CN : Addr} {B newId initId : String} {bm : List Value}
abbrev sWhp : Stmt := top 81
theorem scWhp : FnScope ["names"] ["names"] (defScope sWhp) := ⟨rfl, rfl, rfl, by decide +kernel, rfl, by decide +kernel, by decide +kernel⟩
def spWhp (K : PySem.W.Frag) : Sp := fun vs H Q _ => ∃ a ns, vs = [.ref a] ∧ SqL K H a (nv ns) ∧ ∀ p H', Same H H' → SqL K H' p (nv (wholeP ns)) → Q (.ref p) H'
theorem nv_index {ns : List Str} {x : Str} {j : Nat} (h1 : ns[j]? = some x) (h2 : ∀ m y, m < j → ns[m]? = some y → y ≠ x) : (nv ns)[j]? = some (.str x) ∧ eqV (.str x) (.str x) = true ∧ ∀ (m : Nat) (z' : V), m < j → (nv ns)[m]? = some z' → eqV z' (.str x) = false := by
  refine ⟨by rw [List.getElem?_map, h1]; rfl, beq_self_eq_true x, fun m z' hm hz => ?_⟩
  rw [List.getElem?_map] at hz
  obtain ⟨y, hy, rfl⟩ := Option.map_eq_some_iff.mp hz
  have := h2 m y hm hy
  show (y == x) = false
  simpa using this
theorem ok_whp {f : Addr} {fd : FuncData} (T : TX P w K mg) (F : Fun K "whole_part" "whole_part" sWhp f fd) : FnOk P w K mg base CX0 1 f fd ["names"] (spWhp K) := by
  refine F.ok scWhp (fun vs H Q E h => ?_) (fun cdv A outer s H vs Q E hr h => ?_)
  · obtain ⟨a, ns, rfl, _⟩ := h
    rfl
  · obtain ⟨a, ns, rfl, hS, k⟩ := h
    refine ⟨_, (pss_one (ps_ret (pe_ifExp (pt_cmpR op_in_seq pe_str (pv 0) (by with_unfolding_all rfl)) (pe_slice sl_list (pv 0) po_none (po_some (pe_bm PySem.F.plainAttrs_list PySem.F.slot_list_index PySem.F.type_list_index mt_index (pv 0) (pa_cons pe_str pa_nil)))) (pv 0)))), ?_⟩
    refine ⟨_, rfl, a, _, rfl, .inl hS, rfl, strs_flat ns, _, rfl, ?_⟩
    show if inV (.str "point") (nv ns) = true then _ else _
    rw [in_strs]
    refine ite2 (fun q => ?_) (fun q => ?_)
    · have hm : nPoint ∈ ns := of_decide_eq_true q
      obtain ⟨j, h1, h2, h3⟩ := idx_of hm
      obtain ⟨i1, i2, i3⟩ := nv_index h1 h2
      refine ⟨_, rfl, _, rfl, .inl ⟨rfl, _, hS⟩, a, _, _, j, _, rfl, rfl, hS, rfl, strs_flat ns, i1, i2, i3, (j : Int), rfl, a, _, rfl, hS, ?_⟩
      rw [nv_cut_to]
      refine fun p hp => k p _ (Same.upd hp) (SqL.of ?_)
      rw [upd_same]
      unfold wholeP
      rw [h3]
    · have hm : ¬ nPoint ∈ ns := fun z => q (decide_eq_true z)
      refine ⟨_, rfl, k a H (Same.refl H) ?_⟩
      have e : wholeP ns = ns := by
        unfold wholeP
        have : ∀ l : List Str, ¬ nPoint ∈ l → l.takeWhile (fun x => !decide (x = nPoint)) = l := fun l => by
          induction l with
          | nil => intro _; rfl
          | cons x l ih =>
            intro h
            rw [List.takeWhile_cons, if_pos (by simp; exact fun e => h (by rw [e]; exact List.mem_cons_self)), ih fun z => h (List.mem_cons_of_mem _ z)]
        exact this ns hm
      rw [e]
      exact hS
abbrev sIsn : Stmt := top 82
theorem scIsn : FnScope ["names", "whole", "behind"] ["names"] (defScope sIsn) := ⟨rfl, rfl, rfl, by decide +kernel, rfl, by decide +kernel, by decide +kernel⟩
def spIsn (K : PySem.W.Frag) : Sp := fun vs H Q _ => ∃ a ns, vs = [.ref a] ∧ SqL K H a (nv ns) ∧ ns.length ≤ 300 ∧ ∀ H', Same H H' → Q (.bl (isNum ns)) H'
theorem gt_dec (n : Nat) (m : Nat) : (decide ((m : Int) < (n : Int))) = !decide (n ≤ m) := by
  rw [Bool.eq_iff_iff]
  simp
theorem ok_isn {f : Addr} {fd : FuncData} (T : TX P w K mg) (O_whole_part : Own P w K mg base CX0 1 "whole_part" ["names"] (spWhp K)) (F : Fun K "is_right_number" "is_right_number" sIsn f fd) : FnOk P w K mg base CX0 2 f fd ["names"] (spIsn K) := by
  refine F.ok scIsn (fun vs H Q E h => ?_) (fun cdv A outer s H vs Q E hr h => ?_)
  · obtain ⟨a, ns, rfl, _⟩ := h
    rfl
  · obtain ⟨a, ns, rfl, hS, hlen, k⟩ := h
    have nd := scIsn.nd
    have s0 := Same.refl H
    unfold isNum at k
    refine ⟨_, (pss_cons (ps_if (PW.pt (pw_or (pt_cmpR op_notIn_seq pe_str (pv 0) (by with_unfolding_all rfl)) (pw_or (pt_cmpR op_gt (pe_bm PySem.F.plainAttrs_list PySem.F.slot_list_count PySem.F.type_list_count mt_lcount (pv 0) (pa_cons pe_str pa_nil)) pe_int (nomark _)) (pw_or1 (pt_cmpR op_gt (pe_bm PySem.F.plainAttrs_list PySem.F.slot_list_count PySem.F.type_list_count mt_lcount (pv 0) (pa_cons pe_str pa_nil)) pe_int (nomark _)))))) (pss_one (ps_ret pe_bl)) pss_nil)
      (pss_cons (ps_set (i := 1) nd rfl (Or.inl rfl) (pe_own O_whole_part (hr.mono (by decide)) pass0 (pa_cons (pv 0) pa_nil)))
      (pss_cons (ps_set (i := 2) nd rfl (Or.inl rfl) (pe_slice sl_list (pv 0) (po_some (pe_callB call_len_seq rfl T.n_len (by decide +kernel) (pa_cons (pv 1) pa_nil))) po_none))
      (pss_cons (ps_if (PW.pt (pw_or (pt_cmpR op_gt (pe_bm PySem.F.plainAttrs_list PySem.F.slot_list_count PySem.F.type_list_count mt_lcount (pv 1) (pa_cons pe_str pa_nil)) pe_int (nomark _)) (pw_or1 (pt_cmpR op_gt (pe_bm PySem.F.plainAttrs_list PySem.F.slot_list_count PySem.F.type_list_count mt_lcount (pv 1) (pa_cons pe_str pa_nil)) pe_int (nomark _))))) (pss_one (ps_ret pe_bl)) pss_nil)
      (pss_one (ps_ret (pe_and (pe_cmpR op_le (pe_bm PySem.F.plainAttrs_list PySem.F.slot_list_count PySem.F.type_list_count mt_lcount (pv 2) (pa_cons pe_str pa_nil)) pe_int (nomark _)) (pe_one (pe_cmpR op_notIn_seq pe_str (pv 2) (by with_unfolding_all rfl)))))))))), ?_⟩
    refine ⟨_, rfl, a, _, rfl, .inl hS, rfl, strs_flat ns, _, rfl, ?_⟩
    show if (!inV (.str "place") (nv ns)) = true then _ else _
    rw [in_strs]
    cases h1 : decide (nPlace ∈ ns) with
    | false =>
      rw [h1, Bool.false_and] at k
      exact iteT (k H s0)
    | true =>
      rw [h1, Bool.true_and] at k
      refine iteF ⟨_, rfl, .inl ⟨rfl, _, hS⟩, a, _, _, rfl, rfl, hS, rfl, strs_flat ns, _, _, rfl, rfl, _, rfl, ?_⟩
      rw [count_strs, show (1 : Int) = ((1 : Nat) : Int) from rfl, gt_dec]
      cases h2 : decide (ns.count nPoint ≤ 1) with
      | false =>
        rw [h2, Bool.false_and] at k
        exact iteT (k H s0)
      | true =>
        rw [h2, Bool.true_and] at k
        refine iteF ⟨_, rfl, .inl ⟨rfl, _, hS⟩, a, _, _, rfl, rfl, hS, rfl, strs_flat ns, _, _, rfl, rfl, _, rfl, ?_⟩
        rw [count_strs, show (4 : Int) = ((4 : Nat) : Int) from rfl, gt_dec]
        cases h3 : decide (ns.count nPercent ≤ 4) with
        | false =>
          rw [h3, Bool.false_and] at k
          exact iteT (k H s0)
        | true =>
          rw [h3, Bool.true_and] at k
          refine iteF ⟨_, rfl, a, ns, rfl, hS, fun p H1 s1 hp => ?_⟩
          have hS1 := s1.seq hS
          refine ⟨_, rfl, _, rfl, p, _, rfl, .inl hp, ((nv (wholeP ns)).length : Int), rfl, a, _, rfl, hS1, ?_⟩
          rw [nv_cut_from, nv_length]
          intro p2 hp2
          have s2 := Same.upd (o := .lst (nv (ns.drop (wholeP ns).length))) hp2
          have hp' := s2.seq hp
          have sm := s1.trans s2
          have hb : SqL K (upd H1 p2 (.lst (nv (ns.drop (wholeP ns).length)))) p2 (nv (ns.drop (wholeP ns).length)) := SqL.of upd_same
          refine ⟨_, rfl, .inl ⟨rfl, _, hp'⟩, p, _, _, rfl, rfl, hp', rfl, strs_flat _, _, _, rfl, rfl, _, rfl, ?_⟩
          rw [count_strs, show (24 : Int) = ((24 : Nat) : Int) from rfl, gt_dec]
          cases h4 : decide ((wholeP ns).count nPlace ≤ 24) with
          | false =>
            rw [h4, Bool.false_and] at k
            exact iteT (k _ sm)
          | true =>
            rw [h4, Bool.true_and] at k
            refine iteF ⟨_, rfl, .inl ⟨rfl, _, hp'⟩, p, _, _, rfl, rfl, hp', rfl, strs_flat _, _, _, rfl, rfl, _, rfl, ?_⟩
            rw [count_strs, show (8 : Int) = ((8 : Nat) : Int) from rfl, gt_dec]
            cases h5 : decide ((wholeP ns).count nComma ≤ 8) with
            | false =>
              rw [h5, Bool.false_and] at k
              exact iteT (k _ sm)
            | true =>
              rw [h5, Bool.true_and] at k
              refine iteF ⟨_, rfl, .inl ⟨rfl, _, hb⟩, p2, _, _, rfl, rfl, hb, rfl, strs_flat _, _, _, rfl, rfl, _, rfl, ?_⟩
              rw [count_strs, show (12 : Int) = ((12 : Nat) : Int) from rfl, show decide (((ns.drop (wholeP ns).length).count nPlace : Int) ≤ ((12 : Nat) : Int)) = decide ((ns.drop (wholeP ns).length).count nPlace ≤ 12) from decide_eq_decide.mpr (by omega)]
              cases h6 : decide ((ns.drop (wholeP ns).length).count nPlace ≤ 12) with
              | false =>
                rw [h6, Bool.false_and] at k
                exact iteF (k _ sm)
              | true =>
                rw [h6, Bool.true_and] at k
                refine iteT ⟨_, rfl, p2, _, rfl, .inl hb, rfl, strs_flat _, ?_⟩
                show Q (.bl (!inV (.str "comma") (nv (ns.drop (wholeP ns).length)))) _
                rw [in_strs]
                exact k _ sm
abbrev sMexp : Stmt := top 83
theorem scMexp : FnScope ["names", "whole"] ["names"] (defScope sMexp) := ⟨rfl, rfl, rfl, by decide +kernel, rfl, by decide +kernel, by decide +kernel⟩
def spMexp (K : PySem.W.Frag) : Sp := fun vs H Q _ => ∃ a ns, vs = [.ref a] ∧ SqL K H a (nv ns) ∧ ∀ H', Same H H' → Q (.bl (mayExp ns)) H'
theorem ok_mexp {f : Addr} {fd : FuncData} (T : TX P w K mg) (O_whole_part : Own P w K mg base CX0 1 "whole_part" ["names"] (spWhp K)) (F : Fun K "may_have_exponent" "may_have_exponent" sMexp f fd) : FnOk P w K mg base CX0 2 f fd ["names"] (spMexp K) := by
  refine F.ok scMexp (fun vs H Q E h => ?_) (fun cdv A outer s H vs Q E hr h => ?_)
  · obtain ⟨a, ns, rfl, _⟩ := h
    rfl
  · obtain ⟨a, ns, rfl, hS, k⟩ := h
    have nd := scMexp.nd
    unfold mayExp at k
    refine ⟨_, (pss_cons (ps_set (i := 1) nd rfl (Or.inl rfl) (pe_own O_whole_part (hr.mono (by decide)) pass0 (pa_cons (pv 0) pa_nil)))
      (pss_one (ps_ret (pe_and (pe_cmpR op_in_seq pe_str (pv 1) (by with_unfolding_all rfl)) (pe_and (pe_cmpR op_notIn_seq pe_str (pv 1) (by with_unfolding_all rfl)) (pe_one (pe_cmpR op_notIn_seq pe_str (pv 0) (by with_unfolding_all rfl)))))))), ?_⟩
    refine ⟨_, rfl, a, ns, rfl, hS, fun p H1 s1 hp => ?_⟩
    have hS1 := s1.seq hS
    refine ⟨_, rfl, p, _, rfl, .inl hp, rfl, strs_flat _, _, rfl, ?_⟩
    show if inV (.str "place") (nv (wholeP ns)) = true then _ else _
    rw [in_strs]
    cases h1 : decide (nPlace ∈ wholeP ns) with
    | false =>
      rw [h1, Bool.false_and] at k
      exact iteF (k _ s1)
    | true =>
      rw [h1, Bool.true_and] at k
      refine iteT ⟨_, rfl, p, _, rfl, .inl hp, rfl, strs_flat _, _, rfl, ?_⟩
      show if (!inV (.str "comma") (nv (wholeP ns))) = true then _ else _
      rw [in_strs]
      cases h2 : decide (nComma ∈ wholeP ns) with
      | true =>
        rw [h2, Bool.not_true, Bool.false_and] at k
        exact iteF (k _ s1)
      | false =>
        rw [h2, Bool.not_false, Bool.true_and] at k
        refine iteT ⟨_, rfl, a, _, rfl, .inl hS1, rfl, strs_flat _, ?_⟩
        show Q (.bl (!inV (.str "percent") (nv ns))) _
        rw [in_strs]
        exact k _ s1
end
end NP
end
section
set_option Elab.async false
set_option linter.all false
set_option maxRecDepth 100000
set_option maxHeartbeats 2000000
namespace NP
open PySem PySem.Spec PyProof.Rows L2
open Sv68 (isDigit lower tenths)
def fieldV (H : Hp) (f : Str) (x : V) : V := match x with
  | .ref a => (match H a with
    | some (.ins _ _ fs) => (fs.lookup f).getD .non
    | _ => .non)
  | _ => .non
theorem fieldV_of {H : Hp} {a C dx : Addr} {fs : List (Str × V)} {f : Str} {v : V} (h : H a = some (.ins C dx fs)) (hf : fs.lookup f = some v) : fieldV H f (.ref a) = v := by
  show (match H a with
    | some (.ins _ _ fs) => (fs.lookup f).getD .non
    | _ => .non) = v
  rw [h]
  show (fs.lookup f).getD .non = v
  rw [hf]
  rfl
abbrev Ps (C : Cs) (H0 H : Hp) (as : List Addr) (ps : List Pc) : Prop := A2 (fun a p => ∃ e, PieceAt C H0 H a p e) as ps
theorem Ps.same {C : Cs} {H0 H H' : Hp} {as : List Addr} {ps : List Pc} (s : Same H H') (h : Ps C H0 H as ps) : Ps C H0 H' as ps := A2.imp (fun _ _ ⟨e, z⟩ => ⟨e, z.same s⟩) h
theorem Ps.mem {C : Cs} {H0 H : Hp} : ∀ {as : List Addr} {ps : List Pc} {x : V}, Ps C H0 H as ps → x ∈ as.map V.ref → ∃ a p e, x = .ref a ∧ p ∈ ps ∧ PieceAt C H0 H a p e
  | _, _, x, .nil, h => by cases h
  | _, _, x, .cons ⟨e, z⟩ t, h => by
    rcases List.mem_cons.mp h with rfl | h
    · exact ⟨_, _, e, rfl, List.mem_cons_self, z⟩
    · obtain ⟨a, p, e, r1, r2, r3⟩ := Ps.mem t h
      exact ⟨a, p, e, r1, List.mem_cons_of_mem _ r2, r3⟩
theorem Ps.fmap {C : Cs} {H0 H : Hp} {sel : V → Option V} {g : Pc → Option V} : ∀ {as : List Addr} {ps : List Pc}, (∀ a p e, p ∈ ps → PieceAt C H0 H a p e → sel (.ref a) = g p) → Ps C H0 H as ps → (as.map V.ref).filterMap sel = ps.filterMap g
  | _, _, _, .nil => rfl
  | _, _, hg, .cons ⟨e, z⟩ t => by
    rw [List.map_cons, List.filterMap_cons, List.filterMap_cons, hg _ _ _ List.mem_cons_self z, Ps.fmap (fun a p e hm => hg a p e (List.mem_cons_of_mem _ hm)) t]
theorem Ps.filt {C : Cs} {H0 H : Hp} {sel : V → Option V} {c : Pc → Bool} {as : List Addr} {ps : List Pc} (hg : ∀ a p e, p ∈ ps → PieceAt C H0 H a p e → sel (.ref a) = if c p = true then some (.ref a) else none) (h : Ps C H0 H as ps) : ∃ as', (as.map V.ref).filterMap sel = as'.map V.ref ∧ Ps C H0 H as' (ps.filter c) := by
  induction h with
  | nil => exact ⟨[], rfl, .nil⟩
  | @cons a p as ps r t ih =>
    obtain ⟨e, z⟩ := r
    obtain ⟨as', h1, h2⟩ := ih fun a p e hm => hg a p e (List.mem_cons_of_mem _ hm)
    rw [List.map_cons, List.filterMap_cons, hg _ _ _ List.mem_cons_self z, List.filter_cons]
    cases hc : c p with
    | true => exact ⟨a :: as', by rw [h1]; rfl, .cons ⟨e, z⟩ h2⟩
    | false => exact ⟨as', h1, h2⟩
theorem PieceAt.fields {C : Cs} {H0 H : Hp} {a : Addr} {p : Pc} {e : Nat} (h : PieceAt C H0 H a p e) : ∃ v dx, H a = some (.ins C.piece dx (fs_Piece (.str p.name) v (.int e))) ∧ p.val C H0 H v ∧ fieldV H "name" (.ref a) = .str p.name ∧ fieldV H "value" (.ref a) = v := by
  obtain ⟨_, v, ⟨dx, h1⟩, h2⟩ := h
  exact ⟨v, dx, h1, h2, fieldV_of h1 (fs_Piece_name _ _ _), fieldV_of h1 (fs_Piece_value _ _ _)⟩
def notCC (p : Pc) : Bool := !decide (p.name = nColour) && !decide (p.name = nCondition)
def isZero : Pc → Bool
  | .sign nm c => decide (nm = nPlace) && decide (c = 48)
  | _ => false
def isExpo (ps : List Pc) : Bool := decide (1 ≤ ((ps.filter notCC).filter isZero).length) && (decide (((ps.filter notCC).filter isZero).length ≤ 3) && decide (((ps.filter notCC).filter isZero).length = (ps.filter notCC).length))
def Named (p : Pc) : Prop := match p with
  | .sign nm _ => nm = nPlace ∨ nm = nPoint ∨ nm = nComma ∨ nm = nPercent ∨ nm = nAt
  | .word nm _ => nm = nGeneral ∨ nm = nNoon
  | _ => True
section
variable {P : Program} {w : World} {K : PySem.W.Frag} {mg : Str → Option Value} {base : Heap} {CN : Addr} {B newId initId : String} {bm : List Value}
abbrev sIsx : Stmt := top 84
theorem scIsx : FnScope ["pieces", "counted", "zeros", "piece"] ["pieces"] (defScope sIsx) := ⟨rfl, rfl, rfl, by decide +kernel, rfl, by decide +kernel, by decide +kernel⟩
def spIsx (K : PySem.W.Frag) (C : Cs) : Sp := fun vs H Q _ => ∃ a as ps H0, vs = [.ref a] ∧ SqL K H a (as.map V.ref) ∧ as.length ≤ 300 ∧ Ps C H0 H as ps ∧ (∀ p ∈ ps, Named p) ∧ ∀ H', Same H H' → Q (.bl (isExpo ps)) H'
theorem val_zero {C : Cs} {H0 H : Hp} {p : Pc} {v : V} (h : p.val C H0 H v) (hn : Named p) : ∀ hs : p.name = nPlace, scal v (.int 48) = true ∧ decide (v = .int 48) = isZero p := by
  intro hs
  cases p with
  | sign nm c =>
    have e : v = .int c.toNat := h
    have : nm = nPlace := hs
    subst e
    refine ⟨rfl, ?_⟩
    show _ = (decide (nm = nPlace) && decide (c = 48))
    rw [decide_eq_true this, Bool.true_and]
    refine decide_eq_decide.mpr ⟨fun z => u8_eq.mpr (V.int.inj z), fun z => by rw [z]; rfl⟩
  | word nm n =>
    have hn : nm = nGeneral ∨ nm = nNoon := hn
    have hs : nm = nPlace := hs
    rcases hn with e | e <;> (rw [e] at hs; exact absurd hs (by decide +kernel))
  | text b => exact absurd (show (nText : Str) = nPlace from hs) (by decide +kernel)
  | exponent c => exact absurd (show (nExponent : Str) = nPlace from hs) (by decide +kernel)
  | part l n d => exact absurd (show (nPart : Str) = nPlace from hs) (by decide +kernel)
  | passed l n d => exact absurd (show (nPassed : Str) = nPlace from hs) (by decide +kernel)
  | colour k => exact absurd (show (nColour : Str) = nPlace from hs) (by decide +kernel)
  | condition z x => exact absurd (show (nCondition : Str) = nPlace from hs) (by decide +kernel)
theorem zero_name {p : Pc} (h : isZero p = true) : p.name = nPlace := by
  cases p with
  | sign nm c =>
    unfold isZero at h
    rw [Bool.and_eq_true] at h
    exact of_decide_eq_true h.1
  | _ => cases h
theorem ok_isx {f : Addr} {fd : FuncData} {C : Cs} (T : TX P w K mg) (TP : Tx_Piece K C.piece) (F : Fun K "is_right_exponent" "is_right_exponent" sIsx f fd) : FnOk P w K mg base CX0 1 f fd ["pieces"] (spIsx K C) := by
  refine F.ok scIsx (fun vs H Q E h => ?_) (fun cdv A outer s H vs Q E hr h => ?_)
  · obtain ⟨a, as, ps, H0, rfl, _⟩ := h
    rfl
  · obtain ⟨a, as, ps, H0, rfl, hS, hlen, hP, hN, k⟩ := h
    have nd := scIsx.nd
    obtain ⟨a_COLOUR_OR_CONDITION, g_COLOUR_OR_CONDITION, s_COLOUR_OR_CONDITION⟩ := T.c_COLOUR_OR_CONDITION
    refine ⟨_, (pss_cons (ps_setLc (i := 1) rfl nd rfl rfl (sw_true rfl rfl rfl rfl) (pi_list (pv 0)) (blkOk_by (N := ["pieces", "counted", "zeros", "piece"]) (sc := defScope (top 84)) (own := [("piece", 3)]) (by decide +kernel)) (fun _ _ _ _ _ => pg_name (i := 3) nd rfl (Or.inl rfl) (.inr rfl)) (fun _ _ _ _ _ => (pts_one (pt_cmpR (show OpR _ _ (rIn K true) from op_notIn_seq) (show PE _ _ (tFld K _ "name") from pe_fld (pv 3) rfl) (pe_gr g_COLOUR_OR_CONDITION) (by with_unfolding_all rfl)))) (fun _ _ _ _ _ => (pv 3)))
      (pss_cons (ps_setLc (i := 2) rfl nd rfl rfl (sw_true rfl rfl rfl rfl) (pi_list (pv 1)) (blkOk_by (N := ["pieces", "counted", "zeros", "piece"]) (sc := defScope (top 84)) (own := [("piece", 3)]) (by decide +kernel)) (fun _ _ _ _ _ => pg_name (i := 3) nd rfl (Or.inl rfl) (.inr rfl)) (fun _ _ _ _ _ => (pts_one (PW.pt (pw_and (pt_cmpR op_eq (show PE _ _ (tFld K _ "name") from pe_fld (pv 3) rfl) pe_str (nomark _)) (pw_and1 (pt_cmpR op_eq (show PE _ _ (tFld K _ "value") from pe_fld (pv 3) rfl) (pe_gi T.c_ZERO) (nomark _))))))) (fun _ _ _ _ _ => (pv 3)))
      (pss_one (ps_ret (pe_and (pe_chain op_le op_le pe_int (pe_callB call_len_seq rfl T.n_len (by decide +kernel) (pa_cons (pv 2) pa_nil)) pe_int) (pe_one (pe_cmpR op_eq (pe_callB call_len_seq rfl T.n_len (by decide +kernel) (pa_cons (pv 2) pa_nil)) (pe_callB call_len_seq rfl T.n_len (by decide +kernel) (pa_cons (pv 1) pa_nil)) (nomark _)))))))), ?_⟩
    refine ⟨_, rfl, a, rfl, ⟨_, hS⟩, fun D hD => lc_pure (fun x => if inV (fieldV H "name" x) [.str "colour", .str "condition"] = true then none else some x) hS hD (by rw [List.length_map]; omega) ?_ ?_⟩
    · intro x H' hx sm Q1 Q2 h1 h2
      obtain ⟨b, p, e, rfl, hm, hp⟩ := hP.mem hx
      obtain ⟨v, dx, hb, hv, f1, f2⟩ := hp.fields
      rw [f1] at h1 h2
      refine ⟨rfl, _, rfl, b, C.piece, dx, _, _, rfl, sm _ _ hb, TP.cl, TP.n_name, fs_Piece_name _ _ _, a_COLOUR_OR_CONDITION, _, rfl, .inr (s_COLOUR_OR_CONDITION _), rfl, rfl, _, rfl, ?_⟩
      show if (!inV (.str p.name) [.str "colour", .str "condition"]) = true then _ else _
      cases hh : inV (.str p.name) [.str "colour", .str "condition"] with
      | true => exact iteF (h2 (by rw [hh]; rfl))
      | false => exact iteT ⟨_, rfl, h1 _ (by rw [hh]; rfl)⟩
    · obtain ⟨as1, e1, hP1⟩ := Ps.filt (c := notCC) (sel := fun x => if inV (fieldV H "name" x) [.str "colour", .str "condition"] = true then none else some x) (fun b p e _ hp => by
        obtain ⟨v, dx, hb, hv, f1, f2⟩ := hp.fields
        show (if inV (fieldV H "name" (.ref b)) _ = true then none else some (V.ref b)) = _
        rw [f1, show ([.str "colour", .str "condition"] : List V) = [nColour, nCondition].map V.str from rfl, in_strs]
        unfold notCC
        by_cases h1 : p.name = nColour
        · simp [h1]
        · by_cases h2 : p.name = nCondition
          · simp [h2]
          · simp [h1, h2]) hP
      rw [e1]
      have s1 := Same.upd (o := .lst (as1.map V.ref)) hD
      have hl1 : as1.length ≤ 300 := by
        have := congrArg List.length e1
        rw [List.length_map] at this
        have h2 := List.length_filterMap_le (fun x => if inV (fieldV H "name" x) [.str "colour", .str "condition"] = true then none else some x) (as.map V.ref)
        rw [List.length_map] at h2
        omega
      have hP2 : Ps C H0 (upd H D (.lst (as1.map V.ref))) as1 (ps.filter notCC) := hP1.same s1
      refine ⟨_, rfl, D, rfl, ⟨_, SqL.of upd_same⟩, fun D2 hD2 => lc_pure (fun x => if fieldV H "name" x = .str "place" ∧ fieldV H "value" x = .int 48 then some x else none) (SqL.of upd_same) hD2 (by rw [List.length_map]; omega) ?_ ?_⟩
      · intro x H' hx sm Q1 Q2 h1 h2
        obtain ⟨b, p, e, rfl, hm, hp⟩ := hP1.mem hx
        obtain ⟨v, dx, hb, hv, f1, f2⟩ := hp.fields
        rw [f1, f2] at h1 h2
        have sb := (s1.trans sm) _ _ hb
        refine ⟨rfl, _, rfl, b, C.piece, dx, _, _, rfl, sb, TP.cl, TP.n_name, fs_Piece_name _ _ _, rfl, _, rfl, ite2 (fun q => ?_) (fun q => ?_)⟩
        · have hs : p.name = nPlace := V.str.inj (of_decide_eq_true q)
          obtain ⟨z1, z2⟩ := val_zero hv (hN p (List.mem_filter.mp hm).1) hs
          refine ⟨_, rfl, b, C.piece, dx, _, _, rfl, sb, TP.cl, TP.n_value, fs_Piece_value _ _ _, z1, _, rfl, ite2 (fun q2 => ⟨_, rfl, h1 _ (if_pos ⟨by rw [hs], of_decide_eq_true q2⟩)⟩) fun q2 => h2 (if_neg fun z => q2 (decide_eq_true z.2))⟩
        · exact iteF (h2 (if_neg fun z => q (decide_eq_true z.1)))
      · obtain ⟨as2, e2, hP3⟩ := Ps.filt (c := isZero) (sel := fun x => if fieldV H "name" x = .str "place" ∧ fieldV H "value" x = .int 48 then some x else none) (fun b p e hm hp => by
          obtain ⟨v, dx, hb, hv, f1, f2⟩ := hp.fields
          show (if fieldV H "name" (.ref b) = _ ∧ fieldV H "value" (.ref b) = _ then some (V.ref b) else none) = _
          rw [f1, f2]
          by_cases hs : p.name = nPlace
          · obtain ⟨z1, z2⟩ := val_zero hv (hN p (List.mem_filter.mp hm).1) hs
            rw [← z2]
            by_cases hv48 : v = .int 48
            · rw [if_pos ⟨by rw [hs], hv48⟩, if_pos (decide_eq_true hv48)]
            · rw [if_neg fun z => hv48 z.2, if_neg fun z => hv48 (of_decide_eq_true z)]
          · rw [if_neg fun z => hs (V.str.inj z.1), if_neg fun z => hs (zero_name z)]) hP1
        rw [e2]
        have s2 := Same.upd (o := .lst (as2.map V.ref)) hD2
        have sm := s1.trans s2
        have q1 : SqL K (upd (upd H D (.lst (as1.map V.ref))) D2 (.lst (as2.map V.ref))) D (as1.map V.ref) := SqL.of (s2 _ _ upd_same)
        have q2 : SqL K (upd (upd H D (.lst (as1.map V.ref))) D2 (.lst (as2.map V.ref))) D2 (as2.map V.ref) := SqL.of upd_same
        have l1 := hP1.length
        have l2 := hP3.length
        unfold isExpo at k
        rw [← l1, ← l2] at k
        refine ⟨_, rfl, D2, _, rfl, .inl q2, _, _, rfl, rfl, _, rfl, ?_⟩
        have m1 : (as1.map V.ref).length = as1.length := List.length_map ..
        have m2 : (as2.map V.ref).length = as2.length := List.length_map ..
        refine ite2 (fun q => ?_) (fun q => ?_)
        · have h1 : 1 ≤ as2.length := by
            have := of_decide_eq_true q
            omega
          rw [decide_eq_true h1, Bool.true_and] at k
          refine ⟨_, _, rfl, rfl, _, rfl, ite2 (fun q => ?_) (fun q => ?_)⟩
          · have h2 : as2.length ≤ 3 := by
              have := of_decide_eq_true q
              omega
            rw [decide_eq_true h2, Bool.true_and] at k
            refine ⟨_, rfl, D2, _, rfl, .inl q2, _, rfl, D, _, rfl, .inl q1, rfl, ?_⟩
            have e : decide (V.int (((as2.map V.ref).length : Nat) : Int) = V.int (((as1.map V.ref).length : Nat) : Int)) = decide (as2.length = as1.length) := decide_eq_decide.mpr ⟨fun z => by have := V.int.inj z; omega, fun z => by rw [m1, m2, z]⟩
            rw [← e] at k
            exact k _ sm
          · have h2 : ¬ as2.length ≤ 3 := fun z => q (decide_eq_true (by omega))
            rw [decide_eq_false h2, Bool.false_and] at k
            exact k _ sm
        · have h1 : ¬ 1 ≤ as2.length := fun z => q (decide_eq_true (by omega))
          rw [decide_eq_false h1, Bool.false_and] at k
          exact ⟨_, rfl, iteF (k _ sm)⟩
end
end NP
end
section
set_option Elab.async false
set_option linter.all false
set_option maxRecDepth 100000
set_option maxHeartbeats 2000000
namespace NP
open PySem PySem.Spec PyProof.Rows L2
open Sv68 (isDigit lower tenths)
def befExp (ns : List Str) : List Str := ns.takeWhile fun x => !decide (x = nExponent)
def rightDig (ps : List Pc) : Bool := if nExponent ∈ ps.map Pc.name then isNum (befExp (ps.map Pc.name)) && (mayExp (befExp (ps.map Pc.name)) && isExpo (ps.drop ((befExp (ps.map Pc.name)).length + 1))) else isNum (ps.map Pc.name)
def FREES : List Str := [nText, nColour, nCondition]
def DAYS3 : List Str := [nPart, nNoon, nPassed]
def DIGS5 : List Str := [nPlace, nPoint, nComma, nPercent, nExponent]
def kindNames (ps : List Pc) : List Str := (ps.map Pc.name).filter fun x => !decide (x ∈ FREES)
def findK (ps : List Pc) : Option Nat := if kindNames ps = [] then some 0 else if kindNames ps = [nGeneral] then some 4 else if (kindNames ps).all (fun x => decide (x = nAt)) = true then some 3
  else if (kindNames ps).all (fun x => decide (x ∈ DAYS3)) = true then some 2 else if (kindNames ps).all (fun x => decide (x ∈ DIGS5)) = true ∧ rightDig ps = true then some 1 else none
theorem name_ok {p : Pc} (h : Named p) : PyData.strOk p.name = true := by
  cases p with
  | sign nm c =>
    show PyData.strOk nm = true
    have h : nm = nPlace ∨ nm = nPoint ∨ nm = nComma ∨ nm = nPercent ∨ nm = nAt := h
    rcases h with e | e | e | e | e <;> (rw [e]; decide +kernel)
  | word nm n =>
    show PyData.strOk nm = true
    have h : nm = nGeneral ∨ nm = nNoon := h
    rcases h with e | e <;> (rw [e]; decide +kernel)
  | text b => show PyData.strOk nText = true; decide +kernel
  | exponent c => show PyData.strOk nExponent = true; decide +kernel
  | part l n d => show PyData.strOk nPart = true; decide +kernel
  | passed l n d => show PyData.strOk nPassed = true; decide +kernel
  | colour k => show PyData.strOk nColour = true; decide +kernel
  | condition z x => show PyData.strOk nCondition = true; decide +kernel
theorem filterMap_some {α : Type} (f : α → V) : ∀ l : List α, l.filterMap (fun x => some (f x)) = l.map f
  | [] => rfl
  | a :: l => by rw [List.filterMap_cons, List.map_cons, filterMap_some f l]
theorem Ps.drop {C : Cs} {H0 H : Hp} {as : List Addr} {ps : List Pc} (h : Ps C H0 H as ps) : ∀ n, Ps C H0 H (as.drop n) (ps.drop n) := by
  induction h with
  | nil => intro n; rw [List.drop_nil, List.drop_nil]; exact .nil
  | @cons a p as ps r t ih =>
    intro n
    cases n with
    | zero => exact .cons r t
    | succ n => exact ih n
section
variable {P : Program} {w : World} {K : PySem.W.Frag} {mg : Str → Option Value} {base : Heap} {CN : Addr} {B newId initId : String} {bm : List Value}
theorem names_each {C : Cs} {H0 H : Hp} {as : List Addr} {ps : List Pc} (hP : Ps C H0 H as ps) : (as.map V.ref).filterMap (fun x => some (fieldV H "name" x)) = nv (ps.map Pc.name) := by
  rw [Ps.fmap (g := fun p => some (.str p.name)) (fun a p e _ hp => by
    obtain ⟨v, dx, hb, hv, f1, f2⟩ := hp.fields
    show some (fieldV H "name" (.ref a)) = _
    rw [f1]) hP, filterMap_some]
  exact (List.map_map ..).symm
abbrev sArd : Stmt := top 80
theorem scArd : FnScope ["pieces", "names", "at", "number", "piece"] ["pieces"] (defScope sArd) := ⟨rfl, rfl, rfl, by decide +kernel, rfl, by decide +kernel, by decide +kernel⟩
def spArd (K : PySem.W.Frag) (C : Cs) : Sp := fun vs H Q _ => ∃ a as ps H0, vs = [.ref a] ∧ SqL K H a (as.map V.ref) ∧ as.length ≤ 300 ∧ Ps C H0 H as ps ∧ (∀ p ∈ ps, Named p) ∧ ∀ H', Same H H' → Q (.bl (rightDig ps)) H'
theorem ok_ard {f : Addr} {fd : FuncData} {C : Cs} (T : TX P w K mg) (TP : Tx_Piece K C.piece) (O_is_right_number : Own P w K mg base CX0 2 "is_right_number" ["names"] (spIsn K)) (O_may_have_exponent : Own P w K mg base CX0 2 "may_have_exponent" ["names"] (spMexp K))
    (O_is_right_exponent : Own P w K mg base CX0 1 "is_right_exponent" ["pieces"] (spIsx K C)) (F : Fun K "are_right_digits" "are_right_digits" sArd f fd) : FnOk P w K mg base CX0 3 f fd ["pieces"] (spArd K C) := by
  refine F.ok scArd (fun vs H Q E h => ?_) (fun cdv A outer s H vs Q E hr h => ?_)
  · obtain ⟨a, as, ps, H0, rfl, _⟩ := h
    rfl
  · obtain ⟨a, as, ps, H0, rfl, hS, hlen, hP, hN, k⟩ := h
    have nd := scArd.nd
    refine ⟨_, (pss_cons (ps_setLc (i := 1) rfl nd rfl rfl (sw_true rfl rfl rfl rfl) (pi_list (pv 0)) (blkOk_by (N := ["pieces", "names", "at", "number", "piece"]) (sc := defScope (top 80)) (own := [("piece", 4)]) (by decide +kernel)) (fun _ _ _ _ _ => pg_name (i := 4) nd rfl (Or.inl rfl) (.inr rfl)) (fun _ _ _ _ _ => pts_nil) (fun _ _ _ _ _ => (show PE _ _ (tFld K _ "name") from pe_fld (pv 4) rfl)))
      (pss_cons (ps_if (pt_cmpR op_notIn_seq pe_str (pv 1) (by with_unfolding_all rfl)) (pss_one (ps_ret (pe_own O_is_right_number (hr.mono (by decide)) pass0 (pa_cons (pv 1) pa_nil)))) pss_nil)
      (pss_cons (ps_set (i := 2) nd rfl (Or.inl rfl) (pe_bm PySem.F.plainAttrs_list PySem.F.slot_list_index PySem.F.type_list_index mt_index (pv 1) (pa_cons pe_str pa_nil)))
      (pss_cons (ps_set (i := 3) nd rfl (Or.inl rfl) (pe_slice sl_list (pv 1) po_none (po_some (pv 2))))
      (pss_one (ps_ret (pe_and (pe_own O_is_right_number (hr.mono (by decide)) pass0 (pa_cons (pv 3) pa_nil)) (pe_and (pe_own O_may_have_exponent (hr.mono (by decide)) pass0 (pa_cons (pv 3) pa_nil)) (pe_one (pe_own O_is_right_exponent (hr.mono (by decide)) pass0 (pa_cons (pe_slice sl_list (pv 0) (po_some (pe_op op_add (pv 2) pe_int)) po_none) pa_nil))))))))))), ?_⟩
    refine ⟨_, rfl, a, rfl, ⟨_, hS⟩, fun D hD => lc_pure (fun x => some (fieldV H "name" x)) hS hD (by rw [List.length_map]; omega) ?_ ?_⟩
    · intro x H' hx sm Q1 Q2 h1 h2
      obtain ⟨b, p, e, rfl, hm, hp⟩ := hP.mem hx
      obtain ⟨v, dx, hb, hv, f1, f2⟩ := hp.fields
      rw [f1] at h1
      exact ⟨rfl, _, rfl, b, C.piece, dx, _, _, rfl, sm _ _ hb, TP.cl, TP.n_name, fs_Piece_name _ _ _, h1 _ rfl⟩
    · rw [names_each hP]
      have hl := hP.length
      have s1 := Same.upd (o := .lst (nv (ps.map Pc.name))) hD
      have hD1 : SqL K (upd H D (.lst (nv (ps.map Pc.name)))) D (nv (ps.map Pc.name)) := SqL.of upd_same
      unfold rightDig at k
      refine ⟨_, rfl, D, _, rfl, .inl hD1, rfl, strs_flat _, _, rfl, ?_⟩
      show if (!inV (.str "exponent") (nv (ps.map Pc.name))) = true then _ else _
      rw [in_strs]
      by_cases hx : nExponent ∈ ps.map Pc.name
      · rw [if_pos hx] at k
        rw [decide_eq_true hx]
        obtain ⟨j, i1, i2, i3⟩ := idx_of hx
        obtain ⟨g1, g2, g3⟩ := nv_index i1 i2
        have hjl := (List.getElem?_eq_some_iff.mp i1).1
        have eb : befExp (ps.map Pc.name) = (ps.map Pc.name).take j := i3
        rw [eb] at k
        rw [List.length_map] at hjl
        rw [show ((ps.map Pc.name).take j).length = j by rw [List.length_take, List.length_map]; omega] at k
        refine iteF ⟨_, rfl, .inl ⟨rfl, _, hD1⟩, D, _, _, j, _, rfl, rfl, hD1, rfl, strs_flat _, g1, g2, g3, ?_⟩
        refine ⟨_, rfl, _, rfl, (j : Int), rfl, D, _, rfl, hD1, ?_⟩
        rw [nv_cut_to]
        intro p2 hp2
        have s2 := Same.upd (o := .lst (nv ((ps.map Pc.name).take j))) hp2
        have hD2 : SqL K (upd (upd H D (.lst (nv (ps.map Pc.name)))) p2 (.lst (nv ((ps.map Pc.name).take j)))) p2 (nv ((ps.map Pc.name).take j)) := SqL.of upd_same
        have sm2 := s1.trans s2
        refine ⟨_, rfl, p2, _, rfl, hD2, (by rw [List.length_take, List.length_map]; omega), fun H3 s3 => ?_⟩
        have sm3 := sm2.trans s3
        refine ⟨_, rfl, ?_⟩
        cases h1 : isNum ((ps.map Pc.name).take j) with
        | false =>
          rw [h1, Bool.false_and] at k
          exact iteF (k _ sm3)
        | true =>
          rw [h1, Bool.true_and] at k
          refine iteT ⟨_, rfl, p2, _, rfl, s3.seq hD2, fun H4 s4 => ?_⟩
          have sm4 := sm3.trans s4
          refine ⟨_, rfl, ?_⟩
          cases h2 : mayExp ((ps.map Pc.name).take j) with
          | false =>
            rw [h2, Bool.false_and] at k
            exact iteF (k _ sm4)
          | true =>
            rw [h2, Bool.true_and] at k
            have ec : cutV (as.map V.ref) (some ((j : Int) + 1)) none = (as.drop (j + 1)).map V.ref := by
              have := cut_from (as.map V.ref) (j + 1)
              rw [← List.map_drop] at this
              exact this
            refine iteT ⟨_, rfl, _, rfl, _, _, rfl, rfl, (j : Int) + 1, rfl, a, _, rfl, sm4.seq hS, ?_⟩
            rw [ec]
            intro p5 hp5
            have s5 := Same.upd (o := .lst ((as.drop (j + 1)).map V.ref)) hp5
            have sm5 := sm4.trans s5
            exact ⟨p5, as.drop (j + 1), ps.drop (j + 1), H0, rfl, SqL.of upd_same, (by rw [List.length_drop]; omega), (hP.same sm5).drop _, fun p hp => hN p (List.mem_of_mem_drop hp), fun H6 s6 => k H6 (sm5.trans s6)⟩
      · rw [if_neg hx] at k
        rw [decide_eq_false hx]
        exact iteT ⟨_, rfl, D, _, rfl, hD1, (by rw [List.length_map]; omega), fun H2 s2 => k H2 (s1.trans s2)⟩
abbrev sFk : Stmt := top 79
theorem scFk : FnScope ["pieces", "names", "piece", "name"] ["pieces"] (defScope sFk) := ⟨rfl, rfl, rfl, by decide +kernel, rfl, by decide +kernel, by decide +kernel⟩
def spFk (K : PySem.W.Frag) (C : Cs) (CN : Addr) : Sp := fun vs H Q E => ∃ a as ps H0, vs = [.ref a] ∧ SqL K H a (as.map V.ref) ∧ as.length ≤ 300 ∧ Ps C H0 H as ps ∧ (∀ p ∈ ps, Named p) ∧
  (∀ H', Same H H' → findK ps = none → E (.ref CN) none H') ∧ ∀ k H', Same H H' → findK ps = some k → Q (.int (k : Nat)) H'
theorem ok_fk {f : Addr} {fd : FuncData} {C : Cs} (T : TX P w K mg) (TP : Tx_Piece K C.piece) (EX_NoPicture : OwnCls "NoPicture" CN bm newId mg base) (FB : ExcBaseFacts B newId initId bm) (O_are_right_digits : Own P w K mg base CX0 3 "are_right_digits" ["pieces"] (spArd K C))
    (F : Fun K "find_kind" "find_kind" sFk f fd) : FnOk P w K mg base (CXN P w CN) 4 f fd ["pieces"] (spFk K C CN) := by
  refine F.okX scFk (fun vs H Q E h => ?_) (fun cdv A outer s H vs Q E hr h xk hp => ?_)
  · obtain ⟨a, as, ps, H0, rfl, _⟩ := h
    rfl
  · obtain ⟨a, as, ps, H0, rfl, hS, hlen, hP, hN, k0, k1⟩ := h
    have nd := scFk.nd
    have hu64 := hr.units
    obtain ⟨a_FREE_PIECES, g_FREE_PIECES, s_FREE_PIECES⟩ := T.c_FREE_PIECES
    obtain ⟨a_DAY_PIECES, g_DAY_PIECES, s_DAY_PIECES⟩ := T.c_DAY_PIECES
    obtain ⟨a_DIGIT_PIECES, g_DIGIT_PIECES, s_DIGIT_PIECES⟩ := T.c_DIGIT_PIECES
    have s_FREE_PIECES : ∀ H, SqT K H a_FREE_PIECES (FREES.map V.str) := s_FREE_PIECES
    have s_DAY_PIECES : ∀ H, SqT K H a_DAY_PIECES (DAYS3.map V.str) := s_DAY_PIECES
    have s_DIGIT_PIECES : ∀ H, SqT K H a_DIGIT_PIECES (DIGS5.map V.str) := s_DIGIT_PIECES
    refine ⟨_, (pss_cons (ps_setLc (i := 1) rfl nd rfl rfl (sw_true rfl rfl rfl rfl) (pi_list (pv 0)) (blkOk_by (N := ["pieces", "names", "piece", "name"]) (sc := defScope (top 79)) (own := [("piece", 2)]) (by decide +kernel)) (fun _ _ _ _ _ => pg_name (i := 2) nd rfl (Or.inl rfl) (.inr rfl)) (fun _ _ _ _ _ => (pts_one (pt_cmpR (show OpR _ _ (rIn K true) from op_notIn_seq) (show PE _ _ (tFld K _ "name") from pe_fld (pv 2) rfl) (pe_gr g_FREE_PIECES) (by with_unfolding_all rfl)))) (fun _ _ _ _ _ => (show PE _ _ (tFld K _ "name") from pe_fld (pv 2) rfl)))
      (pss_cons (ps_if (pt_cmpR (op_eqD hu64) (pv 1) (pe_lst pa_nil) (nomark _)) (pss_one (ps_ret (pe_gi T.c_TEXTS_ALONE))) pss_nil)
      (pss_cons (ps_if (pt_cmpR (op_eqD hu64) (pv 1) (pe_lst (pa_cons pe_str pa_nil)) (nomark _)) (pss_one (ps_ret (pe_gi T.c_AS_IT_IS))) pss_nil)
      (pss_cons (ps_if (pt_val (pe_callB (cr_all rfl) rfl T.n_all (by decide +kernel) (pa_cons (pe_lc rfl nd (pi_list (pv 1)) (blkOk_by (N := ["pieces", "names", "piece", "name"]) (sc := defScope (top 79)) (own := [("name", 3)]) (by decide +kernel)) (fun _ _ _ _ _ => pg_name (i := 3) nd rfl (Or.inl rfl) (.inr rfl)) (fun _ _ _ _ _ => pts_nil) (fun _ _ _ _ _ => (pe_cmpR op_eq (pv 3) pe_str (nomark _)))) pa_nil))) (pss_one (ps_ret (pe_gi T.c_WITH_TEXT))) pss_nil)
      (pss_cons (ps_if (pt_val (pe_callB (cr_all rfl) rfl T.n_all (by decide +kernel) (pa_cons (pe_lc rfl nd (pi_list (pv 1)) (blkOk_by (N := ["pieces", "names", "piece", "name"]) (sc := defScope (top 79)) (own := [("name", 3)]) (by decide +kernel)) (fun _ _ _ _ _ => pg_name (i := 3) nd rfl (Or.inl rfl) (.inr rfl)) (fun _ _ _ _ _ => pts_nil) (fun _ _ _ _ _ => (pe_cmpR (show OpR _ _ (rIn K false) from op_in_seq) (pv 3) (pe_gr g_DAY_PIECES) (by with_unfolding_all rfl)))) pa_nil))) (pss_one (ps_ret (pe_gi T.c_DAYS_AND_TIMES))) pss_nil)
      (pss_cons (ps_if (PW.pt (pw_and (pt_val (pe_callB (cr_all rfl) rfl T.n_all (by decide +kernel) (pa_cons (pe_lc rfl nd (pi_list (pv 1)) (blkOk_by (N := ["pieces", "names", "piece", "name"]) (sc := defScope (top 79)) (own := [("name", 3)]) (by decide +kernel)) (fun _ _ _ _ _ => pg_name (i := 3) nd rfl (Or.inl rfl) (.inr rfl)) (fun _ _ _ _ _ => pts_nil) (fun _ _ _ _ _ => (pe_cmpR (show OpR _ _ (rIn K false) from op_in_seq) (pv 3) (pe_gr g_DIGIT_PIECES) (by with_unfolding_all rfl)))) pa_nil))) (pw_and1 (pt_val (pe_own O_are_right_digits (hr.mono (by decide)) pass0 (pa_cons (pv 0) pa_nil)))))) (pss_one (ps_ret (pe_gi T.c_DIGITS))) pss_nil)
      (pss_one (ps_raise EX_NoPicture FB rfl xk rfl (pa_cons pe_str pa_nil))))))))), ?_⟩
    refine ⟨_, rfl, a, rfl, ⟨_, hS⟩, fun D hD => lc_pure (fun x => if inV (fieldV H "name" x) (FREES.map V.str) = true then none else some (fieldV H "name" x)) hS hD (by rw [List.length_map]; omega) ?_ ?_⟩
    · intro x H' hx sm Q1 Q2 h1 h2
      obtain ⟨b, p, e, rfl, hm, hp⟩ := hP.mem hx
      obtain ⟨v, dx, hb, hv, f1, f2⟩ := hp.fields
      rw [f1] at h1 h2
      refine ⟨rfl, _, rfl, b, C.piece, dx, _, _, rfl, sm _ _ hb, TP.cl, TP.n_name, fs_Piece_name _ _ _, a_FREE_PIECES, _, rfl, .inr (s_FREE_PIECES _), rfl, strs_flat _, _, rfl, ?_⟩
      show if (!inV (.str p.name) (FREES.map V.str)) = true then _ else _
      cases hh : inV (.str p.name) (FREES.map V.str) with
      | true => exact iteF (h2 (by rw [hh]; rfl))
      | false => exact iteT ⟨_, rfl, b, C.piece, dx, _, _, rfl, sm _ _ hb, TP.cl, TP.n_name, fs_Piece_name _ _ _, h1 _ (by rw [hh]; rfl)⟩
    · have en : (as.map V.ref).filterMap (fun x => if inV (fieldV H "name" x) (FREES.map V.str) = true then none else some (fieldV H "name" x)) = nv (kindNames ps) := by
        rw [Ps.fmap (g := fun p => if decide (p.name ∈ FREES) = true then none else some (.str p.name)) (fun a p e _ hp => by
          obtain ⟨v, dx, hb, hv, f1, f2⟩ := hp.fields
          show (if inV (fieldV H "name" (.ref a)) _ = true then none else some (fieldV H "name" (.ref a))) = _
          rw [f1, in_strs]) hP]
        unfold kindNames nv
        clear hP hN k0 k1
        induction ps with
        | nil => rfl
        | cons p ps ih =>
          rw [List.filterMap_cons, List.map_cons, List.filter_cons]
          by_cases h : p.name ∈ FREES
          · rw [if_pos (decide_eq_true h), if_neg (by simp [h])]
            exact ih
          · rw [if_neg (by simp [h]), if_pos (by simp [h]), List.map_cons, ← ih]
      rw [en]
      have hok : ∀ x ∈ kindNames ps, PyData.strOk x = true := fun x hx => by
        obtain ⟨p, hp, rfl⟩ := List.mem_map.mp (List.mem_filter.mp hx).1
        exact name_ok (hN p hp)
      have hkl : (kindNames ps).length ≤ 300 := by
        have h1 := List.length_filter_le (fun x => !decide (x ∈ FREES)) (ps.map Pc.name)
        have h2 := hP.length
        rw [List.length_map] at h1
        unfold kindNames
        omega
      have s1 := Same.upd (o := .lst (nv (kindNames ps))) hD
      have hD1 : SqL K (upd H D (.lst (nv (kindNames ps)))) D (nv (kindNames ps)) := SqL.of upd_same
      generalize hks : kindNames ps = ks at *
      -- names == []
      refine ⟨_, rfl, Nat.zero_le _, fun p2 hp2 => ?_⟩
      have s2 := Same.upd (o := .lst []) hp2
      refine ⟨_, _, dp_strs (s2.seq hD1), dp_strs (l := []) (SqL.of upd_same), shaped_strs hok, rfl, ?_⟩
      rw [eqv_strs]
      have sm2 := s1.trans s2
      refine ⟨_, rfl, ite2 (fun q => ?_) (fun q => ?_)⟩
      · exact k1 0 _ sm2 (by unfold findK; rw [hks, if_pos (of_decide_eq_true q)])
      have n1 : ¬ ks = [] := fun z => q (decide_eq_true z)
      -- names == ['general']
      refine ⟨_, rfl, by decide, fun p3 hp3 => ?_⟩
      have s3 := Same.upd (o := .lst [V.str "general"]) hp3
      have hD3 := s3.seq (s2.seq hD1)
      refine ⟨_, _, dp_strs hD3, dp_strs (l := [nGeneral]) (SqL.of upd_same), shaped_strs hok, shaped_strs (by decide +kernel), ?_⟩
      rw [eqv_strs]
      have sm3 := sm2.trans s3
      refine ⟨_, rfl, ite2 (fun q => ?_) (fun q => ?_)⟩
      · exact k1 4 _ sm3 (by unfold findK; rw [hks, if_neg n1, if_pos (of_decide_eq_true q)])
      have n2 : ¬ ks = [nGeneral] := fun z => q (decide_eq_true z)
      -- all([name == 'at' for name in names])
      have e_at : (nv ks).filterMap (fun x => some (V.bl (decide (x = .str "at")))) = (ks.map fun x => decide (x = nAt)).map V.bl := by
        rw [filterMap_some, List.map_map, List.map_map]
        refine List.map_congr_left fun z _ => congrArg V.bl (decide_eq_decide.mpr ⟨fun e => V.str.inj e, fun e => by rw [e]⟩)
      refine ⟨_, rfl, D, rfl, ⟨_, hD3⟩, fun D4 hD4 => lc_pure (fun x => some (V.bl (decide (x = .str "at")))) hD3 hD4 (by rw [nv_length]; omega) ?_ ?_⟩
      · intro x H' hx sm Q1 Q2 h1 h2
        obtain ⟨z, hz, rfl⟩ := List.mem_map.mp hx
        exact ⟨rfl, _, rfl, rfl, h1 _ rfl⟩
      rw [e_at]
      have s4 := Same.upd (o := .lst ((ks.map fun x => decide (x = nAt)).map V.bl)) hD4
      have sm4 := sm3.trans s4
      have hD4' := s4.seq hD3
      refine ⟨D4, _, rfl, SqL.of upd_same, _, rfl, ?_⟩
      rw [List.all_map]
      refine ite2 (fun q => ?_) (fun q => ?_)
      · exact k1 3 _ sm4 (by unfold findK; rw [hks, if_neg n1, if_neg n2, if_pos (show ks.all (fun x => decide (x = nAt)) = true from q)])
      have n3 : ¬ ks.all (fun x => decide (x = nAt)) = true := q
      -- all([name in DAY_PIECES for name in names])
      have e_in : ∀ l : List Str, (nv ks).filterMap (fun x => some (V.bl (inV x (l.map V.str)))) = (ks.map fun x => decide (x ∈ l)).map V.bl := fun l => by
        rw [filterMap_some, List.map_map, List.map_map]
        exact List.map_congr_left fun z _ => congrArg V.bl (in_strs z l)
      refine ⟨_, rfl, D, rfl, ⟨_, hD4'⟩, fun D5 hD5 => lc_pure (fun x => some (V.bl (inV x (DAYS3.map V.str)))) hD4' hD5 (by rw [nv_length]; omega) ?_ ?_⟩
      · intro x H' hx sm Q1 Q2 h1 h2
        obtain ⟨z, hz, rfl⟩ := List.mem_map.mp hx
        exact ⟨rfl, _, rfl, a_DAY_PIECES, _, rfl, .inr (s_DAY_PIECES _), rfl, strs_flat _, h1 _ rfl⟩
      rw [e_in]
      have s5 := Same.upd (o := .lst ((ks.map fun x => decide (x ∈ DAYS3)).map V.bl)) hD5
      have sm5 := sm4.trans s5
      have hD5' := s5.seq hD4'
      refine ⟨D5, _, rfl, SqL.of upd_same, _, rfl, ?_⟩
      rw [List.all_map]
      refine ite2 (fun q => ?_) (fun q => ?_)
      · exact k1 2 _ sm5 (by unfold findK; rw [hks, if_neg n1, if_neg n2, if_neg n3, if_pos (show ks.all (fun x => decide (x ∈ DAYS3)) = true from q)])
      have n4 : ¬ ks.all (fun x => decide (x ∈ DAYS3)) = true := q
      -- all([name in DIGIT_PIECES for name in names]) and are_right_digits(pieces)
      refine ⟨_, rfl, D, rfl, ⟨_, hD5'⟩, fun D6 hD6 => lc_pure (fun x => some (V.bl (inV x (DIGS5.map V.str)))) hD5' hD6 (by rw [nv_length]; omega) ?_ ?_⟩
      · intro x H' hx sm Q1 Q2 h1 h2
        obtain ⟨z, hz, rfl⟩ := List.mem_map.mp hx
        exact ⟨rfl, _, rfl, a_DIGIT_PIECES, _, rfl, .inr (s_DIGIT_PIECES _), rfl, strs_flat _, h1 _ rfl⟩
      rw [e_in]
      have s6 := Same.upd (o := .lst ((ks.map fun x => decide (x ∈ DIGS5)).map V.bl)) hD6
      have sm6 := sm5.trans s6
      refine ⟨D6, _, rfl, SqL.of upd_same, _, rfl, ?_⟩
      rw [List.all_map]
      refine ite2 (fun q => ?_) (fun q => ?_)
      · refine ⟨_, rfl, a, as, ps, H0, rfl, sm6.seq hS, hlen, hP.same sm6, hN, fun H7 s7 => ⟨_, rfl, ite2 (fun q2 => ?_) (fun q2 => ?_)⟩⟩
        · exact k1 1 _ (sm6.trans s7) (by unfold findK; rw [hks, if_neg n1, if_neg n2, if_neg n3, if_neg n4, if_pos (show ks.all (fun x => decide (x ∈ DIGS5)) = true ∧ rightDig ps = true from ⟨q, q2⟩)])
        · exact ⟨by decide, k0 _ (sm6.trans s7) (by unfold findK; rw [hks, if_neg n1, if_neg n2, if_neg n3, if_neg n4, if_neg fun z => q2 z.2])⟩
      · exact iteF ⟨by decide, k0 _ sm6 (by unfold findK; rw [hks, if_neg n1, if_neg n2, if_neg n3, if_neg n4, if_neg fun z => q z.1])⟩
end
end NP
end
section
set_option Elab.async false
set_option linter.all false
set_option maxRecDepth 100000
set_option maxHeartbeats 2000000
namespace NP
open PySem PySem.Spec PyProof.Rows L2
open Sv68 (isDigit lower tenths)
def fs_Section (v1 v2 v3 v4 : V) : List (Str × V) := (putF "pieces" v4 (putF "condition" v3 (putF "kind" v2 (putF "colour" v1 []))))
theorem fs_Section_colour (v1 v2 v3 v4 : V) : (fs_Section v1 v2 v3 v4).lookup ("colour" : Str) = some v1 := by
  unfold fs_Section
  rw [lookup_putF, if_neg (by decide +kernel), lookup_putF, if_neg (by decide +kernel), lookup_putF, if_neg (by decide +kernel), lookup_putF, if_pos rfl]
theorem fs_Section_kind (v1 v2 v3 v4 : V) : (fs_Section v1 v2 v3 v4).lookup ("kind" : Str) = some v2 := by
  unfold fs_Section
  rw [lookup_putF, if_neg (by decide +kernel), lookup_putF, if_neg (by decide +kernel), lookup_putF, if_pos rfl]
theorem fs_Section_condition (v1 v2 v3 v4 : V) : (fs_Section v1 v2 v3 v4).lookup ("condition" : Str) = some v3 := by
  unfold fs_Section
  rw [lookup_putF, if_neg (by decide +kernel), lookup_putF, if_pos rfl]
structure Tx_Section (K : PySem.W.Frag) (C : Addr) : Prop where
  cl : Cls K C
  n_colour : NoAttr K C "colour"
  n_kind : NoAttr K C "kind"
  n_condition : NoAttr K C "condition"
  n_pieces : NoAttr K C "pieces"
def At_Section (C : Addr) (H : Hp) (a : Addr) (v1 v2 v3 v4 : V) : Prop := ∃ dx, H a = some (.ins C dx (fs_Section v1 v2 v3 v4))
abbrev si_Section : Stmt := inClass (top 75) 0
def sp_Section (C : Addr) : Sp := fun vs H Q _ => ∃ (p dx : Addr) (v1 v2 v3 v4 : V), vs = [.ref p, v1, v2, v3, v4] ∧ H p = some (.ins C dx []) ∧ Q .non (upd H p (.ins C dx (fs_Section v1 v2 v3 v4)))
theorem sc_Section : FnScope ["self", "colour", "kind", "condition", "pieces"] ["self", "colour", "kind", "condition", "pieces"] (defScope si_Section) := ⟨rfl, rfl, rfl, by decide +kernel, rfl, by decide +kernel, by decide +kernel⟩
theorem ok_Section {P : Program} {w : World} {K : PySem.W.Frag} {mg : Str → Option Value} {base : Heap} {f C : Addr} {fd : FuncData} (T : Tx_Section K C) (F : Fun K "__init__" "Section.__init__" si_Section f fd) : FnOk P w K mg base CX0 1 f fd ["self", "colour", "kind", "condition", "pieces"] (sp_Section C) := by
  refine F.ok sc_Section (fun vs H Q E h => ?_) (fun cdv A outer s H vs Q E hr h => ?_)
  · obtain ⟨p, dx, v1, v2, v3, v4, rfl, _⟩ := h
    rfl
  · obtain ⟨p, dx, v1, v2, v3, v4, rfl, hp, k⟩ := h
    refine ⟨_, (pss_cons (ps_fld (pv 0) (pv 1) rfl) (pss_cons (ps_fld (pv 0) (pv 2) rfl) (pss_cons (ps_fld (pv 0) (pv 3) rfl) (pss_one (ps_fld (pv 0) (pv 4) rfl))))), ?_⟩
    refine ⟨_, rfl, _, rfl, p, C, dx, [], rfl, hp, T.cl, T.n_colour, (by show 0 < 1000; decide), ?_⟩
    refine ⟨_, rfl, _, rfl, p, C, dx, _, rfl, upd_same, T.cl, T.n_kind, (by show 1 < 1000; decide), ?_⟩
    refine ⟨_, rfl, _, rfl, p, C, dx, _, rfl, upd_same, T.cl, T.n_condition, (by show 2 < 1000; decide), ?_⟩
    refine ⟨_, rfl, _, rfl, p, C, dx, _, rfl, upd_same, T.cl, T.n_pieces, (by show 3 < 1000; decide), ?_⟩
    rw [upd_upd, upd_upd, upd_upd]
    exact k
structure CSec where
  colour : Nat
  kind : Nat
  cond : Option (Str × Int)
  ps : List Pc
def colOf : Pc → Option Nat
  | .colour k => some k
  | _ => none
def condOf : Pc → Option (Str × Int)
  | .condition z x => some (z, x)
  | _ => none
def mkSec (ps : List Pc) : Option CSec := if 1 < (ps.filterMap colOf).length ∨ 1 < (ps.filterMap condOf).length then none else (findK ps).map fun k => ⟨(ps.filterMap colOf).sum, k, (ps.filterMap condOf).head?, ps⟩
def CondV (C : Cs) (H : Hp) (v : V) : Option (Str × Int) → Prop
  | none => v = .non
  | some x => ∃ q, v = .ref q ∧ At_Condition C.condition H q (.str x.1) (.int x.2)
def SecAt (C : Cs) (CS : Addr) (H0 H : Hp) (a : Addr) (cs : CSec) : Prop := ∃ v pl, At_Section CS H a (.int cs.colour) (.int cs.kind) v (.ref pl) ∧ CondV C H v cs.cond ∧ PiecesAt C H0 H pl cs.ps
theorem CondV.same {C : Cs} {H H' : Hp} {v : V} {o : Option (Str × Int)} (s : Same H H') (h : CondV C H v o) : CondV C H' v o := by
  cases o with
  | none => exact h
  | some x =>
    obtain ⟨q, e, dx, h⟩ := h
    exact ⟨q, e, dx, s _ _ h⟩
theorem SecAt.same {C : Cs} {CS : Addr} {H0 H H' : Hp} {a : Addr} {cs : CSec} (s : Same H H') (h : SecAt C CS H0 H a cs) : SecAt C CS H0 H' a cs := by
  obtain ⟨v, pl, ⟨dx, h1⟩, h2, h3⟩ := h
  exact ⟨v, pl, ⟨dx, s _ _ h1⟩, h2.same s, h3.to (fun _ _ z _ => z) s⟩
theorem CondV.off {C : Cs} {H : Hp} {D : Addr} {l : List V} {o' : HO} {v : V} {o : Option (Str × Int)} (hD : H D = some (.lst l)) (h : CondV C H v o) : CondV C (upd H D o') v o := by
  cases o with
  | none => exact h
  | some x =>
    obtain ⟨q, e, dx, h⟩ := h
    refine ⟨q, e, dx, ?_⟩
    rw [upd_ne (fun e => by rw [e, hD] at h; cases h)]
    exact h
theorem SecAt.off {C : Cs} {CS : Addr} {H0 H : Hp} {a D : Addr} {cs : CSec} {l : List V} {o o' : HO} (h0 : H0 D = some o) (hD : H D = some (.lst l)) (h : SecAt C CS H0 H a cs) : SecAt C CS H0 (upd H D o') a cs := by
  obtain ⟨v, pl, ⟨dx, h1⟩, h2, h3⟩ := h
  refine ⟨v, pl, ⟨dx, ?_⟩, h2.off hD, h3.off h0⟩
  rw [upd_ne (fun e => by rw [e, hD] at h1; cases h1)]
  exact h1
theorem SecAt.old {C : Cs} {CS : Addr} {H0 H1 H : Hp} {a : Addr} {cs : CSec} (f : ∀ x, H0 x = none → H1 x = none) (h : SecAt C CS H0 H a cs) : SecAt C CS H1 H a cs := by
  obtain ⟨v, pl, h1, h2, h3⟩ := h
  exact ⟨v, pl, h1, h2, h3.to (fun x _ z _ => f x z) (Same.refl H)⟩
theorem named_colour {p : Pc} (h : Named p) (e : p.name = nColour) : ∃ k, p = .colour k := by
  cases p with
  | colour k => exact ⟨k, rfl⟩
  | sign nm c =>
    have h : nm = nPlace ∨ nm = nPoint ∨ nm = nComma ∨ nm = nPercent ∨ nm = nAt := h
    have e : nm = nColour := e
    rcases h with z | z | z | z | z <;> (rw [z] at e; exact absurd e (by decide +kernel))
  | word nm n =>
    have h : nm = nGeneral ∨ nm = nNoon := h
    have e : nm = nColour := e
    rcases h with z | z <;> (rw [z] at e; exact absurd e (by decide +kernel))
  | text b => exact absurd (show (nText : Str) = nColour from e) (by decide +kernel)
  | exponent c => exact absurd (show (nExponent : Str) = nColour from e) (by decide +kernel)
  | part l n d => exact absurd (show (nPart : Str) = nColour from e) (by decide +kernel)
  | passed l n d => exact absurd (show (nPassed : Str) = nColour from e) (by decide +kernel)
  | condition z x => exact absurd (show (nCondition : Str) = nColour from e) (by decide +kernel)
theorem named_condition {p : Pc} (h : Named p) (e : p.name = nCondition) : ∃ z x, p = .condition z x := by
  cases p with
  | condition z x => exact ⟨z, x, rfl⟩
  | sign nm c =>
    have h : nm = nPlace ∨ nm = nPoint ∨ nm = nComma ∨ nm = nPercent ∨ nm = nAt := h
    have e : nm = nCondition := e
    rcases h with z | z | z | z | z <;> (rw [z] at e; exact absurd e (by decide +kernel))
  | word nm n =>
    have h : nm = nGeneral ∨ nm = nNoon := h
    have e : nm = nCondition := e
    rcases h with z | z <;> (rw [z] at e; exact absurd e (by decide +kernel))
  | text b => exact absurd (show (nText : Str) = nCondition from e) (by decide +kernel)
  | exponent c => exact absurd (show (nExponent : Str) = nCondition from e) (by decide +kernel)
  | part l n d => exact absurd (show (nPart : Str) = nCondition from e) (by decide +kernel)
  | passed l n d => exact absurd (show (nPassed : Str) = nCondition from e) (by decide +kernel)
  | colour k => exact absurd (show (nColour : Str) = nCondition from e) (by decide +kernel)
theorem cols_list {C : Cs} {H0 H : Hp} {as : List Addr} {ps : List Pc} (hP : Ps C H0 H as ps) (hN : ∀ p ∈ ps, Named p) : (as.map V.ref).filterMap (fun x => if fieldV H "name" x = .str "colour" then some (fieldV H "value" x) else none) = ((ps.filterMap colOf).map fun (k : Nat) => (k : Int)).map V.int := by
  rw [Ps.fmap (g := fun p => (colOf p).map fun k => V.int (k : Nat)) (fun a p e hm hp => by
    obtain ⟨v, dx, hb, hv, f1, f2⟩ := hp.fields
    show (if fieldV H "name" (.ref a) = _ then some (fieldV H "value" (.ref a)) else none) = _
    rw [f1, f2]
    by_cases h : p.name = nColour
    · obtain ⟨k, rfl⟩ := named_colour (hN p hm) h
      rw [if_pos (show V.str (Pc.colour k).name = V.str "colour" from rfl), show v = .int k from hv]
      rfl
    · rw [if_neg fun z => h (V.str.inj z)]
      cases p with
      | colour k => exact (h rfl).elim
      | _ => rfl) hP, List.map_map]
  clear hP hN
  induction ps with
  | nil => rfl
  | cons p ps ih =>
    rw [List.filterMap_cons, List.filterMap_cons]
    cases colOf p with
    | none => exact ih
    | some k =>
      show V.int k :: _ = V.int k :: _
      rw [ih]
theorem conds_list {C : Cs} {H0 H : Hp} {as : List Addr} {ps : List Pc} (hP : Ps C H0 H as ps) (hN : ∀ p ∈ ps, Named p) : ∃ vs, (as.map V.ref).filterMap (fun x => if fieldV H "name" x = .str "condition" then some (fieldV H "value" x) else none) = vs ∧ A2 (fun v x => CondV C H v (some x)) vs (ps.filterMap condOf) := by
  induction hP with
  | nil => exact ⟨[], rfl, .nil⟩
  | @cons a p as ps r t ih =>
    obtain ⟨e, hp⟩ := r
    obtain ⟨vs, h1, h2⟩ := ih fun p hp => hN p (List.mem_cons_of_mem _ hp)
    obtain ⟨v, dx, hb, hv, f1, f2⟩ := hp.fields
    rw [List.map_cons, List.filterMap_cons, List.filterMap_cons]
    by_cases h : p.name = nCondition
    · obtain ⟨z, x, rfl⟩ := named_condition (hN p List.mem_cons_self) h
      have e1 : (if fieldV H "name" (.ref a) = .str "condition" then some (fieldV H "value" (.ref a)) else none) = some v := by rw [f1, f2, if_pos (show V.str (Pc.condition z x).name = V.str "condition" from rfl)]
      rw [e1]
      obtain ⟨q, eq, _, hc⟩ := hv
      exact ⟨v :: vs, by rw [h1], .cons ⟨q, eq, hc⟩ h2⟩
    · have e1 : (if fieldV H "name" (.ref a) = .str "condition" then some (fieldV H "value" (.ref a)) else none) = none := by rw [f1, if_neg fun z => h (V.str.inj z)]
      have e2 : condOf p = none := by
        cases p with
        | condition z x => exact (h rfl).elim
        | _ => rfl
      rw [e1, e2]
      exact ⟨vs, h1, h2⟩
theorem sum_ints (l : List Nat) : (l.map fun (k : Nat) => (k : Int)).sum = ((l.sum : Nat) : Int) := by
  induction l with
  | nil => rfl
  | cons a l ih =>
    rw [List.map_cons, List.sum_cons, List.sum_cons, ih]
    omega
section
variable {P : Program} {w : World} {K : PySem.W.Frag} {mg : Str → Option Value} {base : Heap} {CN : Addr} {B newId initId : String} {bm : List Value}
abbrev sMsec : Stmt := top 78
theorem scMsec : FnScope ["pieces", "colours", "conditions", "condition", "piece"] ["pieces"] (defScope sMsec) := ⟨rfl, rfl, rfl, by decide +kernel, rfl, by decide +kernel, by decide +kernel⟩
def spMsec (K : PySem.W.Frag) (C : Cs) (CS CN : Addr) : Sp := fun vs H Q E => ∃ a ps H0, vs = [.ref a] ∧ PiecesAt C H0 H a ps ∧ (∀ p ∈ ps, Named p) ∧
  (∀ H', Same H H' → mkSec ps = none → E (.ref CN) none H') ∧ ∀ b cs H', Same H H' → mkSec ps = some cs → SecAt C CS H0 H' b cs → Q (.ref b) H'
theorem ok_msec {f CS : Addr} {fd : FuncData} {C : Cs} (T : TX P w K mg) (TP : Tx_Piece K C.piece) (EX_NoPicture : OwnCls "NoPicture" CN bm newId mg base) (FB : ExcBaseFacts B newId initId bm) (O_find_kind : Own P w K mg base (CXN P w CN) 4 "find_kind" ["pieces"] (spFk K C CN))
    (O_Section : OwnC P w K mg base CX0 1 CS "Section" ["self", "colour", "kind", "condition", "pieces"] (sp_Section CS)) (F : Fun K "make_section" "make_section" sMsec f fd) : FnOk P w K mg base (CXN P w CN) 5 f fd ["pieces"] (spMsec K C CS CN) := by
  refine F.okX scMsec (fun vs H Q E h => ?_) (fun cdv A outer s H vs Q E hr h xk hp => ?_)
  · obtain ⟨a, ps, H0, rfl, _⟩ := h
    rfl
  · obtain ⟨a, ps, H0, rfl, ⟨hn0, as, hA, hlen, hP⟩, hN, k0, k1⟩ := h
    have nd := scMsec.nd
    have hP : Ps C H0 H as ps := hP
    have hS : SqL K H a (as.map V.ref) := SqL.of hA
    refine ⟨_, (pss_cons (ps_setLc (i := 1) rfl nd rfl rfl (sw_true rfl rfl rfl rfl) (pi_list (pv 0)) (blkOk_by (N := ["pieces", "colours", "conditions", "condition", "piece"]) (sc := defScope (top 78)) (own := [("piece", 4)]) (by decide +kernel)) (fun _ _ _ _ _ => pg_name (i := 4) nd rfl (Or.inl rfl) (.inr rfl)) (fun _ _ _ _ _ => (pts_one (pt_cmpR op_eq (show PE _ _ (tFld K _ "name") from pe_fld (pv 4) rfl) pe_str (nomark _)))) (fun _ _ _ _ _ => (show PE _ _ (tFld K _ "value") from pe_fld (pv 4) rfl)))
      (pss_cons (ps_setLc (i := 2) rfl nd rfl rfl (sw_true rfl rfl rfl rfl) (pi_list (pv 0)) (blkOk_by (N := ["pieces", "colours", "conditions", "condition", "piece"]) (sc := defScope (top 78)) (own := [("piece", 4)]) (by decide +kernel)) (fun _ _ _ _ _ => pg_name (i := 4) nd rfl (Or.inl rfl) (.inr rfl)) (fun _ _ _ _ _ => (pts_one (pt_cmpR op_eq (show PE _ _ (tFld K _ "name") from pe_fld (pv 4) rfl) pe_str (nomark _)))) (fun _ _ _ _ _ => (show PE _ _ (tFld K _ "value") from pe_fld (pv 4) rfl)))
      (pss_cons (ps_if (PW.pt (pw_or (pt_cmpR op_gt (pe_callB call_len_seq rfl T.n_len (by decide +kernel) (pa_cons (pv 1) pa_nil)) pe_int (nomark _)) (pw_or1 (pt_cmpR op_gt (pe_callB call_len_seq rfl T.n_len (by decide +kernel) (pa_cons (pv 2) pa_nil)) pe_int (nomark _))))) (pss_one (ps_raise EX_NoPicture FB rfl xk rfl (pa_cons pe_str pa_nil))) pss_nil)
      (pss_cons (ps_set (i := 3) nd rfl (Or.inl rfl) (pe_ifExp (pt_cmpR op_eq (pe_callB call_len_seq rfl T.n_len (by decide +kernel) (pa_cons (pv 2) pa_nil)) pe_int (nomark _)) (pe_ix ix_list (pv 2) pe_int (fun _ _ => rfl)) pe_non))
      (pss_one (ps_ret (pe_new O_Section (hr.mono (by decide)) pass0 (pa_cons (pe_callB (cr_sum rfl) rfl T.n_sum (by decide +kernel) (pa_cons (pv 1) pa_nil)) (pa_cons (pe_own O_find_kind (hr.mono (by decide)) (passN xk (fun _ z => z)) (pa_cons (pv 0) pa_nil)) (pa_cons (pv 3) (pa_cons (pv 0) pa_nil))))))))))), ?_⟩
    refine ⟨_, rfl, a, rfl, ⟨_, hS⟩, fun D hD => lc_pure (fun x => if fieldV H "name" x = .str "colour" then some (fieldV H "value" x) else none) hS hD (by rw [List.length_map]; omega) ?_ ?_⟩
    · intro x H' hx sm Q1 Q2 h1 h2
      obtain ⟨b, p, e, rfl, hm, hp⟩ := hP.mem hx
      obtain ⟨v, dx, hb, hv, f1, f2⟩ := hp.fields
      rw [f1, f2] at h1
      rw [f1] at h2
      refine ⟨rfl, _, rfl, b, C.piece, dx, _, _, rfl, sm _ _ hb, TP.cl, TP.n_name, fs_Piece_name _ _ _, rfl, _, rfl, ite2 (fun q => ?_) (fun q => ?_)⟩
      · exact ⟨_, rfl, b, C.piece, dx, _, _, rfl, sm _ _ hb, TP.cl, TP.n_value, fs_Piece_value _ _ _, h1 _ (if_pos (of_decide_eq_true q))⟩
      · exact h2 (if_neg fun z => q (decide_eq_true z))
    rw [cols_list hP hN]
    have s1 := Same.upd (o := .lst (((ps.filterMap colOf).map fun (k : Nat) => (k : Int)).map V.int)) hD
    have hS1 := s1.seq hS
    have hP1 := hP.same s1
    have hD1 : SqL K (upd H D (.lst (((ps.filterMap colOf).map fun (k : Nat) => (k : Int)).map V.int))) D (((ps.filterMap colOf).map fun (k : Nat) => (k : Int)).map V.int) := SqL.of upd_same
    obtain ⟨cv, ec, hcv⟩ := conds_list hP1 hN
    have hcl : cv.length ≤ 300 := by
      have h1 := List.length_filterMap_le (fun x => if fieldV (upd H D (.lst (((ps.filterMap colOf).map fun (k : Nat) => (k : Int)).map V.int))) "name" x = .str "condition" then some (fieldV (upd H D (.lst (((ps.filterMap colOf).map fun (k : Nat) => (k : Int)).map V.int))) "value" x) else none) (as.map V.ref)
      rw [ec, List.length_map] at h1
      omega
    refine ⟨_, rfl, a, rfl, ⟨_, hS1⟩, fun D2 hD2 => lc_pure (fun x => if fieldV (upd H D (.lst (((ps.filterMap colOf).map fun (k : Nat) => (k : Int)).map V.int))) "name" x = .str "condition" then some (fieldV (upd H D (.lst (((ps.filterMap colOf).map fun (k : Nat) => (k : Int)).map V.int))) "value" x) else none) hS1 hD2 (by rw [List.length_map]; omega) ?_ ?_⟩
    · intro x H' hx sm Q1 Q2 h1 h2
      obtain ⟨b, p, e, rfl, hm, hp⟩ := hP1.mem hx
      obtain ⟨v, dx, hb, hv, f1, f2⟩ := hp.fields
      rw [f1, f2] at h1
      rw [f1] at h2
      refine ⟨rfl, _, rfl, b, C.piece, dx, _, _, rfl, sm _ _ hb, TP.cl, TP.n_name, fs_Piece_name _ _ _, rfl, _, rfl, ite2 (fun q => ?_) (fun q => ?_)⟩
      · exact ⟨_, rfl, b, C.piece, dx, _, _, rfl, sm _ _ hb, TP.cl, TP.n_value, fs_Piece_value _ _ _, h1 _ (if_pos (of_decide_eq_true q))⟩
      · exact h2 (if_neg fun z => q (decide_eq_true z))
    rw [ec]
    have s2 := Same.upd (o := .lst cv) hD2
    have sm := s1.trans s2
    generalize hG : upd (upd H D (.lst (((ps.filterMap colOf).map fun (k : Nat) => (k : Int)).map V.int))) D2 (.lst cv) = G at *
    have hDG : SqL K G D (((ps.filterMap colOf).map fun (k : Nat) => (k : Int)).map V.int) := s2.seq hD1
    have hD2G : SqL K G D2 cv := SqL.of (by rw [← hG, upd_same])
    have lc := hcv.length
    have ll : (((ps.filterMap colOf).map fun (k : Nat) => (k : Int)).map V.int).length = (ps.filterMap colOf).length := by rw [List.length_map, List.length_map]
    unfold mkSec at k0 k1
    generalize hcd : ps.filterMap condOf = cds at *
    refine ⟨_, rfl, D, _, rfl, .inl hDG, _, _, rfl, rfl, _, rfl, ite2 (fun q => ?_) (fun q => ?_)⟩
    · exact ⟨by decide, k0 G sm (if_pos (.inl (by have := of_decide_eq_true q; omega)))⟩
    have n1 : ¬ 1 < (ps.filterMap colOf).length := fun z => q (decide_eq_true (by omega))
    refine ⟨_, rfl, D2, _, rfl, .inl hD2G, _, _, rfl, rfl, _, rfl, ite2 (fun q => ?_) (fun q => ?_)⟩
    · exact ⟨by decide, k0 G sm (if_pos (.inr (by have := of_decide_eq_true q; omega)))⟩
    have n2 : ¬ 1 < cds.length := fun z => q (decide_eq_true (by omega))
    rw [if_neg (by rintro (z | z); exact n1 z; exact n2 z)] at k0 k1
    -- the rest, by the condition
    have fin : ∀ v : V, CondV C G v cds.head? → tRet (tMake CS (sp_Section CS) [] E0 (tCons (tCB (rSum K) (tCons (tVar 1) tNil)) (tCons (tCall (spFk K C CN) [] E (tCons (tVar 0) tNil)) (tCons (tVar 3) (tCons (tVar 0) tNil)))))
        { nx := fun _ H' => Q .non H', rt := Q } [some (.ref a), some (.ref D), some (.ref D2), some v, none] G := by
      intro v hv
      refine ⟨_, rfl, D, _, rfl, hDG, _, rfl, a, as, ps, H0, rfl, sm.seq hS, hlen, hP.same sm, hN, fun H3 s3 hn => k0 H3 (sm.trans s3) (by rw [hn]; rfl), fun kk H3 s3 hk => ?_⟩
      have sm3 := sm.trans s3
      refine ⟨_, rfl, _, rfl, fun x dx hx hdx hne => ?_⟩
      refine ⟨x, dx, _, _, _, _, rfl, upd_same, rfl, k1 x _ _ (sm3.ins hx hdx) (by rw [hk]; rfl) ⟨v, a, ⟨dx, ?_⟩, (hv.same s3).same ((Same.refl H3).ins hx hdx), ?_⟩⟩
      · rw [upd_same, sum_ints]
      · exact ⟨hn0, as, (sm3.ins hx hdx) _ _ hA, hlen, hP.same (sm3.ins hx hdx)⟩
    refine ⟨_, rfl, D2, _, rfl, .inl hD2G, rfl, _, rfl, ite2 (fun q => ?_) (fun q => ?_)⟩
    · have e1 : cv.length = 1 := by
        have := V.int.inj (of_decide_eq_true q)
        omega
      cases hcv with
      | nil => cases e1
      | @cons v x vs xs h t =>
        exact ⟨_, rfl, D2, _, _, _, rfl, rfl, hD2G, atI_nat (j := 0) rfl, fin v (CondV.same s2 h)⟩
    · have e1 : cv.length ≠ 1 := fun e => q (decide_eq_true (by rw [e]; rfl))
      have e0 : cds.head? = none := by
        cases cds with
        | nil => rfl
        | cons y ys =>
          rw [List.length_cons] at lc n2
          exact (e1 (by omega)).elim
      refine fin .non ?_
      rw [e0]
      rfl
end
end NP
end
section
set_option Elab.async false
set_option linter.all false
set_option maxRecDepth 100000
set_option maxHeartbeats 2000000
namespace NP
open PySem PySem.Spec PyProof.Rows L2
open Sv68 (isDigit lower tenths)
theorem sign_named {c : UInt8} {nm : Str} (h : signI c = some nm) : Named (.sign nm c) := by
  show nm = nPlace ∨ nm = nPoint ∨ nm = nComma ∨ nm = nPercent ∨ nm = nAt
  unfold signI at h
  repeat' split at h
  all_goals first
    | (cases h; done)
    | (have := Option.some.inj h; rw [← this]; decide +kernel)
theorem rp_named {b : Bytes} {i n : Nat} {c : UInt8} {p : Pc} (h : rp b i c = some (p, n)) : Named p := by
  unfold rp at h
  split at h
  · split at h
    · cases h
    · rw [← (Prod.mk.inj (Option.some.inj h)).1]; trivial
  unfold rp2 at h
  split at h
  · cases hd : b[i + 1]? with
    | none => rw [hd] at h; cases h
    | some d =>
      rw [hd] at h
      rw [← (Prod.mk.inj (Option.some.inj h)).1]; trivial
  unfold rp3 at h
  split at h
  · unfold brk at h
    split at h
    · cases h
    · unfold brkI at h
      split at h
      · rw [← (Prod.mk.inj (Option.some.inj h)).1]; trivial
      · split at h
        · rw [← (Prod.mk.inj (Option.some.inj h)).1]; trivial
        · split at h
          · rw [← (Prod.mk.inj (Option.some.inj h)).1]; trivial
          · cases h
  unfold rp4 at h
  split at h
  · rename_i nm hs
    rw [← (Prod.mk.inj (Option.some.inj h)).1]
    exact sign_named hs
  unfold rp5 at h
  split at h
  · rw [← (Prod.mk.inj (Option.some.inj h)).1]; trivial
  unfold rp6 at h
  split at h
  · rename_i x hw
    rw [← (Prod.mk.inj (Option.some.inj h)).1]
    show x.1 = nGeneral ∨ x.1 = nNoon
    have gen : ∀ l : List (Str × Str), (∀ y ∈ l, y.2 = nGeneral ∨ y.2 = nNoon) → wordL l b i = some x → x.1 = nGeneral ∨ x.1 = nNoon := by
      intro l
      induction l with
      | nil => intro _ h; cases h
      | cons y l ih =>
        intro hl h
        rw [wordL_cons] at h
        split at h
        · rw [← Option.some.inj h]
          exact hl y List.mem_cons_self
        · exact ih (fun z hz => hl z (List.mem_cons_of_mem _ hz)) h
    exact gen WORDP (by decide +kernel) hw
  unfold rp7 at h
  split at h
  · split at h
    · cases h
    · rw [← (Prod.mk.inj (Option.some.inj h)).1]; trivial
  · unfold rp8 at h
    split at h
    · rw [← (Prod.mk.inj (Option.some.inj h)).1]; trivial
    · cases h
theorem ppF_named {b : Bytes} : ∀ {f i : Nat} {l : List (List Pc)}, ppF b f i = some l → ∀ ps ∈ l, ∀ p ∈ ps, Named p
  | 0, _, _, h => by cases h
  | f + 1, i, l, h => by
    rw [ppF] at h
    split at h
    · rw [← Option.some.inj h]
      intro ps hps
      rw [List.mem_singleton.mp hps]
      intro p hp
      cases hp
    · split at h
      · obtain ⟨x, hx, e⟩ := Option.map_eq_some_iff.mp h
        rw [← e]
        intro ps hps
        rcases List.mem_cons.mp hps with e | hps
        · rw [e]; intro p hp; cases hp
        · exact ppF_named hx ps hps
      · obtain ⟨x, hx, h⟩ := Option.bind_eq_some_iff.mp h
        obtain ⟨y, hy, e⟩ := Option.map_eq_some_iff.mp h
        rw [← e]
        have ih := ppF_named hy
        cases y with
        | nil => intro ps hps; cases hps
        | cons t r =>
          intro ps hps
          rcases List.mem_cons.mp hps with e | hps
          · rw [e]
            intro p hp
            rcases List.mem_cons.mp hp with e | hp
            · rw [e]; exact rp_named hx
            · exact ih t List.mem_cons_self p hp
          · exact ih ps (List.mem_cons_of_mem _ hps)
def tog (cs : List CSec) : Bool := decide (cs.length ≤ 4) && (!cs.dropLast.any (fun c => decide (c.kind = 3)) && (!(cs.drop 2).any (fun c => c.cond.isSome) && (decide (cs.length < 4) || (match cs[3]? with
  | some c => decide (c.kind = 0) || decide (c.kind = 3)
  | none => false))))
def secsL : List (List Pc) → Option (List CSec)
  | [] => some []
  | x :: r => (mkSec x).bind fun c => (secsL r).map fun l => c :: l
def rsF (b : Bytes) : Option (List CSec) := if 255 < b.length ∨ Wbk.utf8 b = false then none else (ppF b (b.length + 1) 0).bind fun ls => (secsL ls).bind fun cs => if tog cs = true then some cs else none
abbrev Ss (C : Cs) (CS : Addr) (H0 H : Hp) (as : List Addr) (cs : List CSec) : Prop := A2 (fun a c => SecAt C CS H0 H a c) as cs
theorem Ss.same {C : Cs} {CS : Addr} {H0 H H' : Hp} {as : List Addr} {cs : List CSec} (s : Same H H') (h : Ss C CS H0 H as cs) : Ss C CS H0 H' as cs := A2.imp (fun _ _ z => z.same s) h
theorem A2.memL {α β : Type} {R : α → β → Prop} {xs : List α} {ys : List β} (h : A2 R xs ys) {x : α} (hx : x ∈ xs) : ∃ y, y ∈ ys ∧ R x y := by
  induction h with
  | nil => cases hx
  | @cons a b xs ys r t ih =>
    rcases List.mem_cons.mp hx with e | hx
    · exact ⟨b, List.mem_cons_self, e ▸ r⟩
    · obtain ⟨y, h1, h2⟩ := ih hx
      exact ⟨y, List.mem_cons_of_mem _ h1, h2⟩
theorem A2.fmapL {β : Type} {R : Addr → β → Prop} {as : List Addr} {ys : List β} (f : V → V) (g : β → V) (hg : ∀ a y, R a y → f (.ref a) = g y) (h : A2 R as ys) : (as.map V.ref).filterMap (fun x => some (f x)) = ys.map g := by
  induction h with
  | nil => rfl
  | @cons a b xs ys r t ih => rw [List.map_cons, List.filterMap_cons, List.map_cons, hg a b r, ih]
theorem A2.dropL {α β : Type} {R : α → β → Prop} {xs : List α} {ys : List β} (h : A2 R xs ys) : ∀ n, A2 R (xs.drop n) (ys.drop n) := by
  induction h with
  | nil => intro n; rw [List.drop_nil, List.drop_nil]; exact .nil
  | @cons a p as ps r t ih =>
    intro n
    cases n with
    | zero => exact .cons r t
    | succ n => exact ih n
theorem A2.takeL {α β : Type} {R : α → β → Prop} {xs : List α} {ys : List β} (h : A2 R xs ys) : ∀ n, A2 R (xs.take n) (ys.take n) := by
  induction h with
  | nil => intro n; rw [List.take_nil, List.take_nil]; exact .nil
  | @cons a p as ps r t ih =>
    intro n
    cases n with
    | zero => exact .nil
    | succ n => exact .cons r (ih n)
theorem cut_m1 (xs : List V) : cutV xs none (some (-1)) = xs.dropLast := by
  unfold cutV
  rw [List.dropLast_eq_take]
  have e1 : HT.sIx xs.length 0 none = 0 := rfl
  have e2 : HT.sIx xs.length xs.length (some (-1)) = xs.length - 1 := by
    show (if (-1 : Int) < 0 then ((-1 : Int) + (xs.length : Int)).toNat else min (-1 : Int).toNat xs.length) = _
    rw [if_pos (by decide)]
    omega
  rw [e1, e2]
  rfl
theorem SecAt.fields {C : Cs} {CS : Addr} {H0 H : Hp} {a : Addr} {cs : CSec} (h : SecAt C CS H0 H a cs) : ∃ v pl dx, H a = some (.ins CS dx (fs_Section (.int cs.colour) (.int cs.kind) v (.ref pl))) ∧ CondV C H v cs.cond ∧ fieldV H "kind" (.ref a) = .int cs.kind ∧ fieldV H "condition" (.ref a) = v ∧ (decide (v = .non) = !cs.cond.isSome) := by
  obtain ⟨v, pl, ⟨dx, h1⟩, h2, h3⟩ := h
  refine ⟨v, pl, dx, h1, h2, fieldV_of h1 (fs_Section_kind _ _ _ _), fieldV_of h1 (fs_Section_condition _ _ _ _), ?_⟩
  cases hc : cs.cond with
  | none =>
    rw [hc] at h2
    have : v = .non := h2
    rw [this]
    rfl
  | some x =>
    rw [hc] at h2
    obtain ⟨q, e, _⟩ := h2
    rw [e]
    rfl
section
variable {P : Program} {w : World} {K : PySem.W.Frag} {mg : Str → Option Value} {base : Heap} {CN : Addr} {B newId initId : String} {bm : List Value}
abbrev sArt : Stmt := top 85
theorem scArt : FnScope ["sections", "section"] ["sections"] (defScope sArt) := ⟨rfl, rfl, rfl, by decide +kernel, rfl, by decide +kernel, by decide +kernel⟩
def spArt (K : PySem.W.Frag) (C : Cs) (CS : Addr) : Sp := fun vs H Q _ => ∃ a as cs H0, vs = [.ref a] ∧ SqL K H a (as.map V.ref) ∧ as.length ≤ 300 ∧ Ss C CS H0 H as cs ∧ ∀ H', Same H H' → Q (.bl (tog cs)) H'
theorem ok_art {f CS : Addr} {fd : FuncData} {C : Cs} (T : TX P w K mg) (TS : Tx_Section K CS) (F : Fun K "are_right_together" "are_right_together" sArt f fd) : FnOk P w K mg base CX0 1 f fd ["sections"] (spArt K C CS) := by
  refine F.ok scArt (fun vs H Q E h => ?_) (fun cdv A outer s H vs Q E hr h => ?_)
  · obtain ⟨a, as, cs, H0, rfl, _⟩ := h
    rfl
  · obtain ⟨a, as, cs, H0, rfl, hS, hlen, hC, k⟩ := h
    have nd := scArt.nd
    have hl := hC.length
    have hml : (as.map V.ref).length = cs.length := by rw [List.length_map, hl]
    unfold tog at k
    refine ⟨_, (pss_cons (ps_if (pt_cmpR op_gt (pe_callB call_len_seq rfl T.n_len (by decide +kernel) (pa_cons (pv 0) pa_nil)) (pe_gi T.c_MOST_SECTIONS) (nomark _)) (pss_one (ps_ret pe_bl)) pss_nil)
      (pss_cons (ps_if (pt_val (pe_callB (cr_any rfl) rfl T.n_any (by decide +kernel) (pa_cons (pe_lc rfl nd (pi_list (pe_slice sl_list (pv 0) po_none (po_some (pe_un un_neg pe_int)))) (blkOk_by (N := ["sections", "section"]) (sc := defScope (top 85)) (own := [("section", 1)]) (by decide +kernel)) (fun _ _ _ _ _ => pg_name (i := 1) nd rfl (Or.inl rfl) (.inr rfl)) (fun _ _ _ _ _ => pts_nil) (fun _ _ _ _ _ => (pe_cmpR op_eq (show PE _ _ (tFld K _ "kind") from pe_fld (pv 1) rfl) (pe_gi T.c_WITH_TEXT) (nomark _)))) pa_nil))) (pss_one (ps_ret pe_bl)) pss_nil)
      (pss_cons (ps_if (pt_val (pe_callB (cr_any rfl) rfl T.n_any (by decide +kernel) (pa_cons (pe_lc rfl nd (pi_list (pe_slice sl_list (pv 0) (po_some pe_int) po_none)) (blkOk_by (N := ["sections", "section"]) (sc := defScope (top 85)) (own := [("section", 1)]) (by decide +kernel)) (fun _ _ _ _ _ => pg_name (i := 1) nd rfl (Or.inl rfl) (.inr rfl)) (fun _ _ _ _ _ => pts_nil) (fun _ _ _ _ _ => (pe_cmpR op_notN (show PE _ _ (tFld K _ "condition") from pe_fld (pv 1) rfl) pe_non (nomark _)))) pa_nil))) (pss_one (ps_ret pe_bl)) pss_nil)
      (pss_one (ps_ret (pe_or (pe_cmpR op_lt (pe_callB call_len_seq rfl T.n_len (by decide +kernel) (pa_cons (pv 0) pa_nil)) (pe_gi T.c_MOST_SECTIONS) (nomark _)) (pe_one (pe_cmpR op_in_seq (pe_fld (pe_ix ix_list (pv 0) pe_int (fun _ _ => rfl)) rfl) (pe_tup (pa_cons (pe_gi T.c_TEXTS_ALONE) (pa_cons (pe_gi T.c_WITH_TEXT) pa_nil))) (by with_unfolding_all rfl))))))))), ?_⟩
    refine ⟨_, rfl, a, _, rfl, .inl hS, _, _, rfl, rfl, _, rfl, ite2 (fun q => ?_) (fun q => ?_)⟩
    · have h1 : ¬ cs.length ≤ 4 := by
        have := of_decide_eq_true q
        omega
      rw [decide_eq_false h1, Bool.false_and] at k
      exact k H (Same.refl H)
    have h1 : cs.length ≤ 4 := by
      by_cases z : cs.length ≤ 4
      · exact z
      · exact absurd (decide_eq_true (by omega)) q
    rw [decide_eq_true h1, Bool.true_and] at k
    -- any([.. for section in sections[:-1]])
    refine ⟨_, rfl, 1, rfl, -1, rfl, a, _, rfl, hS, ?_⟩
    rw [cut_m1, List.dropLast_eq_take, List.length_map, ← List.map_take]
    intro p1 hp1
    have s1 := Same.upd (o := .lst ((as.take (as.length - 1)).map V.ref)) hp1
    have hC1 := hC.same s1
    have hq1 : SqL K (upd H p1 (.lst ((as.take (as.length - 1)).map V.ref))) p1 ((as.take (as.length - 1)).map V.ref) := SqL.of upd_same
    have hT1 := A2.takeL hC1 (as.length - 1)
    refine ⟨p1, rfl, ⟨_, hq1⟩, fun D1 hD1 => lc_pure (fun x => some (V.bl (decide (fieldV (upd H p1 (.lst ((as.take (as.length - 1)).map V.ref))) "kind" x = .int 3)))) hq1 hD1 (by rw [List.length_map, List.length_take]; omega) ?_ ?_⟩
    · intro x H' hx sm Q1 Q2 g1 g2
      obtain ⟨b, hb, rfl⟩ := List.mem_map.mp hx
      obtain ⟨c, hc, hs⟩ := A2.memL hT1 hb
      obtain ⟨v, pl, dx, hi, hv, f1, f2, f3⟩ := hs.fields
      rw [f1] at g1
      exact ⟨rfl, _, rfl, b, CS, dx, _, _, rfl, sm _ _ hi, TS.cl, TS.n_kind, fs_Section_kind _ _ _ _, rfl, g1 _ rfl⟩
    have ek : ((as.take (as.length - 1)).map V.ref).filterMap (fun x => some (V.bl (decide (fieldV (upd H p1 (.lst ((as.take (as.length - 1)).map V.ref))) "kind" x = .int 3)))) = (cs.dropLast.map fun c => decide (c.kind = 3)).map V.bl := by
      rw [A2.fmapL (fun x => V.bl (decide (fieldV (upd H p1 (.lst ((as.take (as.length - 1)).map V.ref))) "kind" x = .int 3))) (fun c => V.bl (decide (c.kind = 3))) (fun b c hs => by
        obtain ⟨v, pl, dx, hi, hv, f1, f2, f3⟩ := hs.fields
        show V.bl (decide (fieldV _ "kind" (.ref b) = .int 3)) = _
        rw [f1]
        exact congrArg V.bl (decide_eq_decide.mpr ⟨fun e => by have := V.int.inj e; omega, fun e => by rw [e]; rfl⟩)) hT1, List.map_map, hl, ← List.dropLast_eq_take]
      rfl
    rw [ek]
    have s2 := Same.upd (o := .lst ((cs.dropLast.map fun c => decide (c.kind = 3)).map V.bl)) hD1
    have sm2 := s1.trans s2
    refine ⟨D1, _, rfl, SqL.of upd_same, _, rfl, ?_⟩
    rw [List.any_map]
    cases h2 : cs.dropLast.any (fun c => decide (c.kind = 3)) with
    | true =>
      rw [h2, Bool.not_true, Bool.false_and] at k
      exact ite2 (fun _ => k _ sm2) (fun q => absurd (show cs.dropLast.any (fun c => decide (c.kind = 3)) = true from h2) q)
    | false =>
    rw [h2, Bool.not_false, Bool.true_and] at k
    refine ite2 (fun q => absurd ((show cs.dropLast.any (fun c => decide (c.kind = 3)) = true from q).symm.trans h2) (by decide)) fun _ => ?_
    -- any([.. for section in sections[2:]])
    have ec2 : cutV (as.map V.ref) (some 2) none = (as.drop 2).map V.ref := by
      have := cut_from (as.map V.ref) 2
      rw [← List.map_drop] at this
      exact this
    refine ⟨_, rfl, 2, rfl, a, _, rfl, sm2.seq hS, ?_⟩
    rw [ec2]
    intro p3 hp3
    have s3 := Same.upd (o := .lst ((as.drop 2).map V.ref)) hp3
    have sm3 := sm2.trans s3
    have hC3 := hC.same sm3
    generalize hG3 : upd (upd (upd H p1 (.lst ((as.take (as.length - 1)).map V.ref))) D1 (.lst ((cs.dropLast.map fun c => decide (c.kind = 3)).map V.bl))) p3 (.lst ((as.drop 2).map V.ref)) = G3 at *
    have hq3 : SqL K G3 p3 ((as.drop 2).map V.ref) := SqL.of (by rw [← hG3, upd_same])
    have hT3 := A2.dropL hC3 2
    refine ⟨p3, rfl, ⟨_, hq3⟩, fun D3 hD3 => lc_pure (fun x => some (V.bl (!decide (fieldV G3 "condition" x = .non)))) hq3 hD3 (by rw [List.length_map, List.length_drop]; omega) ?_ ?_⟩
    · intro x H' hx sm Q1 Q2 g1 g2
      obtain ⟨b, hb, rfl⟩ := List.mem_map.mp hx
      obtain ⟨c, hc, hs⟩ := A2.memL hT3 hb
      obtain ⟨v, pl, dx, hi, hv, f1, f2, f3⟩ := hs.fields
      rw [f2] at g1
      exact ⟨rfl, _, rfl, b, CS, dx, _, _, rfl, sm _ _ hi, TS.cl, TS.n_condition, fs_Section_condition _ _ _ _, rfl, g1 _ rfl⟩
    have ek3 : ((as.drop 2).map V.ref).filterMap (fun x => some (V.bl (!decide (fieldV G3 "condition" x = .non)))) = ((cs.drop 2).map fun c => c.cond.isSome).map V.bl := by
      rw [A2.fmapL (fun x => V.bl (!decide (fieldV G3 "condition" x = .non))) (fun c => V.bl c.cond.isSome) (fun b c hs => by
        obtain ⟨v, pl, dx, hi, hv, f1, f2, f3⟩ := hs.fields
        show V.bl (!decide (fieldV G3 "condition" (.ref b) = .non)) = _
        rw [f2, f3, Bool.not_not]) hT3, List.map_map]
      rfl
    rw [ek3]
    have s4 := Same.upd (o := .lst (((cs.drop 2).map fun c => c.cond.isSome).map V.bl)) hD3
    have sm4 := sm3.trans s4
    refine ⟨D3, _, rfl, SqL.of upd_same, _, rfl, ?_⟩
    rw [List.any_map]
    cases h3 : (cs.drop 2).any (fun c => c.cond.isSome) with
    | true =>
      rw [h3, Bool.not_true, Bool.false_and] at k
      exact ite2 (fun _ => k _ sm4) (fun q => absurd (show (cs.drop 2).any (fun c => c.cond.isSome) = true from h3) q)
    | false =>
    rw [h3, Bool.not_false, Bool.true_and] at k
    refine ite2 (fun q => absurd ((show (cs.drop 2).any (fun c => c.cond.isSome) = true from q).symm.trans h3) (by decide)) fun _ => ?_
    -- len(sections) < 4 or sections[3].kind in ..
    refine ⟨_, rfl, a, _, rfl, .inl (sm4.seq hS), _, _, rfl, rfl, _, rfl, ite2 (fun q => ?_) (fun q => ?_)⟩
    · have h4 : cs.length < 4 := by
        have := of_decide_eq_true q
        omega
      rw [decide_eq_true h4, Bool.true_or] at k
      exact k _ sm4
    · have h4 : ¬ cs.length < 4 := fun z => q (decide_eq_true (by omega))
      rw [decide_eq_false h4, Bool.false_or] at k
      obtain ⟨b, hb⟩ : ∃ b, as[3]? = some b := ⟨_, List.getElem?_eq_getElem (by omega)⟩
      obtain ⟨c, hc, hs⟩ := A2.get (hC.same sm4) hb
      rw [hc] at k
      obtain ⟨v, pl, dx, hi, hv, f1, f2, f3⟩ := hs.fields
      refine ⟨_, rfl, a, _, _, _, rfl, rfl, sm4.seq hS, atI_nat (j := 3) (v := .ref b) (by rw [List.getElem?_map, hb]; rfl), b, CS, dx, _, _, rfl, hi, TS.cl, TS.n_kind, fs_Section_kind _ _ _ _, (by show 2 ≤ 2 ^ 24; decide), fun p5 hp5 => ⟨p5, _, rfl, .inr (SqT.of upd_same), rfl, rfl, ?_⟩⟩
      have e : inV (V.int (c.kind : Int)) [.int 0, .int 3] = (decide (c.kind = 0) || decide (c.kind = 3)) := by
        show ((0 : Int) == (c.kind : Int) || ((3 : Int) == (c.kind : Int) || false)) = _
        rw [Bool.eq_iff_iff]
        simp
        omega
      have : Q (.bl (decide (c.kind = 0) || decide (c.kind = 3))) _ := k _ (sm4.trans (Same.upd (o := .tup [V.int 0, V.int 3]) hp5))
      rw [← e] at this
      exact this
end
end NP
end
section
set_option Elab.async false
set_option linter.all false
set_option maxRecDepth 100000
set_option maxHeartbeats 2000000
namespace NP
open PySem PySem.Spec PyProof.Rows L2
open Sv68 (isDigit lower tenths)
theorem ppF_len {b : Bytes} : ∀ {f i : Nat} {l : List (List Pc)}, ppF b f i = some l → l.length ≤ f
  | 0, _, _, h => by cases h
  | f + 1, i, l, h => by
    rw [ppF] at h
    split at h
    · rw [← Option.some.inj h]; simp
    · split at h
      · obtain ⟨x, hx, e⟩ := Option.map_eq_some_iff.mp h
        have := ppF_len hx
        rw [← e, List.length_cons]
        omega
      · obtain ⟨x, _, h⟩ := Option.bind_eq_some_iff.mp h
        obtain ⟨y, hy, e⟩ := Option.map_eq_some_iff.mp h
        have := ppF_len hy
        rw [← e, List.length_modifyHead]
        omega
section
variable {P : Program} {w : World} {K : PySem.W.Frag} {mg : Str → Option Value} {base : Heap} {CN : Addr} {B newId initId : String} {bm : List Value}
abbrev sRs : Stmt := top 76
theorem scRs : FnScope ["picture", "sections", "pieces"] ["picture"] (defScope sRs) := ⟨rfl, rfl, rfl, by decide +kernel, rfl, by decide +kernel, by decide +kernel⟩
def spRs (K : PySem.W.Frag) (C : Cs) (CS CN : Addr) : Sp := fun vs H Q E => ∃ a b, vs = [.ref a] ∧ SqL K H a (bv b) ∧ b.length ≤ 70000 ∧
  (∀ H', Same H H' → rsF b = none → E (.ref CN) none H') ∧ ∀ p as cs H', Same H H' → rsF b = some cs → H' p = some (.lst (as.map V.ref)) → Ss C CS H H' as cs → Q (.ref p) H'
theorem ok_rs {f CS : Addr} {fd : FuncData} {C : Cs} (T : TX P w K mg) (EX_NoPicture : OwnCls "NoPicture" CN bm newId mg base) (FB : ExcBaseFacts B newId initId bm) (O_is_well_made : Own P w K mg base CX0 2 "is_well_made" ["codes"] (spWell K))
    (O_part_pieces : Own P w K mg base (CXN P w CN) 7 "part_pieces" ["picture"] (spPp K C CN)) (O_make_section : Own P w K mg base (CXN P w CN) 5 "make_section" ["pieces"] (spMsec K C CS CN)) (O_are_right_together : Own P w K mg base CX0 1 "are_right_together" ["sections"] (spArt K C CS))
    (F : Fun K "read_sections" "read_sections" sRs f fd) : FnOk P w K mg base (CXN P w CN) 8 f fd ["picture"] (spRs K C CS CN) := by
  refine F.okX scRs (fun vs H Q E h => ?_) (fun cdv A outer s H vs Q E hr h xk hp => ?_)
  · obtain ⟨a, b, rfl, _⟩ := h
    rfl
  · obtain ⟨a, b, rfl, hS, hlen, k0, k1⟩ := h
    have nd := scRs.nd
    unfold rsF at k0 k1
    refine ⟨_, (pss_cons (ps_if (PW.pt (pw_or (pt_cmpR op_gt (pe_callB call_len_seq rfl T.n_len (by decide +kernel) (pa_cons (pv 0) pa_nil)) (pe_gi T.c_MOST_BYTES) (nomark _)) (pw_or1 (pt_not (pt_val (pe_own O_is_well_made (hr.mono (by decide)) pass0 (pa_cons (pv 0) pa_nil))))))) (pss_one (ps_raise EX_NoPicture FB rfl xk rfl (pa_cons pe_str pa_nil))) pss_nil)
      (pss_cons (ps_setLcX (i := 1) xk rfl rfl rfl nd rfl rfl (sw_true rfl rfl rfl rfl) (pi_list (pe_own O_part_pieces (hr.mono (by decide)) (passN xk (fun _ z => z)) (pa_cons (pv 0) pa_nil))) (blkOk_by (N := ["picture", "sections", "pieces"]) (sc := defScope (top 76)) (own := [("pieces", 2)]) (by decide +kernel)) (fun _ _ _ _ _ => pg_name (i := 2) nd rfl (Or.inl rfl) (.inr rfl)) (fun _ _ _ _ _ => pts_nil) (fun _ _ _ _ _ _ _ xk => (pe_own O_make_section (hr.mono (by decide)) (passN xk (fun _ z => z)) (pa_cons (pv 2) pa_nil))))
      (pss_cons (ps_if (pt_not (pt_val (pe_own O_are_right_together (hr.mono (by decide)) pass0 (pa_cons (pv 1) pa_nil)))) (pss_one (ps_raise EX_NoPicture FB rfl xk rfl (pa_cons pe_str pa_nil))) pss_nil)
      (pss_one (ps_ret (pv 1)))))), ?_⟩
    refine ⟨_, rfl, a, _, rfl, .inl hS, _, _, rfl, rfl, _, rfl, ite2 (fun q => ?_) (fun q => ?_)⟩
    · have h1 : 255 < b.length := by
        have := of_decide_eq_true q
        rw [bv_length] at this
        omega
      exact ⟨by decide, k0 H (Same.refl H) (if_pos (.inl h1))⟩
    have h1 : ¬ 255 < b.length := fun z => q (decide_eq_true (by rw [bv_length]; omega))
    refine ⟨_, rfl, a, bi b, rfl, hS, bi_byt b, fun H1 s1 => ⟨_, rfl, ?_⟩⟩
    rw [oct_bi]
    cases hu : Wbk.utf8 b with
    | false =>
      refine iteT ⟨by decide, k0 H1 s1 (if_pos (.inr hu))⟩
    | true =>
    rw [if_neg (by rintro (z | z); exact h1 z; rw [hu] at z; cases z)] at k0 k1
    refine iteF ⟨_, rfl, a, b, rfl, s1.seq hS, by omega, hu, fun H2 s2 hn => k0 H2 (s1.trans s2) (by rw [hn]; rfl), fun p qs ls H2 s2 hls hp hql hPs => ?_⟩
    have sm2 := s1.trans s2
    have hNm := ppF_named hls
    have hll := ppF_len hls
    rw [hls, Option.bind_some] at k0 k1
    have hlq := hPs.length
    refine ⟨p, rfl, ⟨_, SqL.of hp⟩, fun D hD => ?_⟩
    refine lc_list (K := K) (a := p) (xs := qs.map V.ref) (fun i H' => ∃ (bs : List Addr) (done : List CSec), Same H2 H' ∧ H' D = some (.lst (bs.map V.ref)) ∧ bs.length = i ∧ Ss C CS (upd H1 D (.lst [])) H' bs done ∧ secsL ls = (secsL (ls.drop i)).map fun l => done ++ l) ?_ ?_ ?_ ?_
    · refine ⟨[], [], Same.upd hD, upd_same, rfl, .nil, ?_⟩
      rw [List.drop_zero]
      cases secsL ls <;> rfl
    · rintro i H' _ ⟨bs, done, sm, _⟩
      exact sm.seq (SqL.of hp)
    · rintro i x H' hx ⟨bs, done, sm, hDl, hbl, hSs, hsec⟩
      rw [List.getElem?_map] at hx
      obtain ⟨q, hq, rfl⟩ := Option.map_eq_some_iff.mp hx
      obtain ⟨ps, hps, hPq⟩ := A2.get hPs hq
      have hil : i < ls.length := (List.getElem?_eq_some_iff.mp hps).1
      rw [drop_get hps] at hsec
      have hPq' : PiecesAt C (upd H1 D (.lst [])) H' q ps := hPq.to (fun x o z1 z2 => by rw [upd_ne (fun e => by rw [e, hD] at z2; cases z2)]; exact z1) sm
      refine ⟨rfl, _, rfl, q, ps, _, rfl, hPq', hNm ps (List.mem_of_getElem? hps), fun H3 s3 hn => ?_, fun b' c H3 s3 hc hb => ?_⟩
      · refine k0 H3 ((sm2.trans sm).trans s3) ?_
        rw [hsec]
        show Option.bind (Option.map _ (Option.bind (mkSec ps) _)) _ = none
        rw [hn]
        rfl
      · have hD3 := s3 _ _ hDl
        refine ⟨_, hD3, (by rw [List.length_map]; show _ < 2 ^ 24; omega), bs ++ [b'], done ++ [c], ?_, ?_, by rw [List.length_append, hbl]; rfl, ?_, ?_⟩
        · exact (sm.trans s3).off hD
        · rw [upd_same, List.map_append]
          rfl
        · exact A2.snoc (hb.off upd_same hD3) (A2.imp (fun _ _ z => (z.same s3).off upd_same hD3) hSs)
        · rw [hsec]
          show Option.map _ (Option.bind (mkSec ps) _) = _
          rw [hc]
          show Option.map _ (Option.map _ (secsL (ls.drop (i + 1)))) = _
          cases secsL (ls.drop (i + 1)) with
          | none => rfl
          | some l =>
            show some (done ++ c :: l) = some ((done ++ [c]) ++ l)
            rw [List.append_assoc]
            rfl
    · rintro H' ⟨bs, done, sm, hDl, hbl, hSs, hsec⟩
      rw [List.length_map, hlq, List.drop_length] at hsec
      have hsec : secsL ls = some done := by
        rw [hsec]
        show some (done ++ []) = _
        rw [List.append_nil]
      rw [hsec, Option.bind_some] at k0 k1
      have sm4 := sm2.trans sm
      refine ⟨_, rfl, D, bs, done, _, rfl, SqL.of hDl, (by rw [List.length_map] at hbl; omega), hSs, fun H4 s4 => ⟨_, rfl, ?_⟩⟩
      cases ht : tog done with
      | false =>
        rw [ht] at k0
        exact iteT ⟨by decide, k0 H4 (sm4.trans s4) rfl⟩
      | true =>
        rw [ht] at k1
        refine iteF ⟨_, rfl, k1 D bs done H4 (sm4.trans s4) rfl (s4 _ _ hDl) (A2.imp (fun _ _ z => (z.same s4).old fun x hx => ?_) hSs)⟩
        by_cases e : x = D
        · rw [e, upd_same] at hx
          cases hx
        · rw [upd_ne e] at hx
          exact s1.free hx
end
end NP
end
section
set_option Elab.async false
set_option linter.all false
set_option maxRecDepth 100000
set_option maxHeartbeats 2000000
namespace NP
open PySem PySem.Spec PyProof.Rows L2
def secOut (c : CSec) : List Int := [(c.colour : Int), (c.kind : Int)]
def chk (b : Bytes) : List Int := match rsF b with
  | none => [-3]
  | some cs => (cs.length : Int) :: cs.flatMap secOut
theorem secOut_len : ∀ l : List CSec, (l.flatMap secOut).length = 2 * l.length
  | [] => rfl
  | c :: l => by
    rw [List.flatMap_cons, List.length_append, secOut_len l, List.length_cons]
    show 2 + _ = _
    omega
def SecLow (CS : Addr) (H : Hp) (a : Addr) (c : CSec) : Prop := ∃ v u, At_Section CS H a (.int c.colour) (.int c.kind) v u
theorem rsF_len {b : Bytes} {cs : List CSec} (h : rsF b = some cs) : cs.length ≤ 4 := by
  unfold rsF at h
  split at h
  · cases h
  · obtain ⟨ls, _, h⟩ := Option.bind_eq_some_iff.mp h
    obtain ⟨c, _, h⟩ := Option.bind_eq_some_iff.mp h
    split at h
    · rename_i ht
      rw [← Option.some.inj h]
      unfold tog at ht
      rw [Bool.and_eq_true] at ht
      exact of_decide_eq_true ht.1
    · cases h
section
variable {P : Program} {w : World} {K : PySem.W.Frag} {mg : Str → Option Value} {base : Heap} {CN : Addr} {B newId initId : String} {bm : List Value}
abbrev sChk : Stmt := top 88
theorem scChk : FnScope ["picture", "sections", "answer", "section"] ["picture"] (defScope sChk) := ⟨rfl, rfl, rfl, by decide +kernel, rfl, by decide +kernel, by decide +kernel⟩
def spChk (K : PySem.W.Frag) : Sp := fun vs H Q _ => ∃ a b, vs = [.ref a] ∧ SqL K H a (bv b) ∧ b.length ≤ 70000 ∧ ∀ (p : Addr) (H' : Hp), H' p = some (.lst ((chk b).map V.int)) → Q (.ref p) H'
theorem ok_chk {f CS : Addr} {fd : FuncData} {C : Cs} (T : TX P w K mg) (TS : Tx_Section K CS) (EX_NoPicture : OwnCls "NoPicture" CN bm newId mg base) (FB : ExcBaseFacts B newId initId bm) (O_read_sections : Own P w K mg base (CXN P w CN) 8 "read_sections" ["picture"] (spRs K C CS CN))
    (F : Fun K "check" "check" sChk f fd) : FnOk P w K mg base CX0 9 f fd ["picture"] (spChk K) := by
  refine F.ok scChk (fun vs H Q E h => ?_) (fun cdv A outer s H vs Q E hr h => ?_)
  · obtain ⟨a, b, rfl, _⟩ := h
    rfl
  · obtain ⟨a, b, rfl, hS, hlen, k⟩ := h
    have nd := scChk.nd
    unfold chk at k
    obtain ⟨t1, h1, q1⟩ : ∃ t1, PSs (cxOf CX0 P w K mg base ["picture", "sections", "answer", "section"] "check" (defScope sChk) f cdv A outer s H E).nox ((defBody sChk).drop 1) t1 ∧
        ∀ (p : Addr) (as : List Addr) (cs : List CSec) (H1 : Hp), rsF b = some cs → Same H H1 → H1 p = some (.lst (as.map V.ref)) → Ss C CS H H1 as cs → t1 { nx := fun _ H' => Q .non H', rt := Q } [some (.ref a), some (.ref p), none, none] H1 := by
      refine ⟨_, (pss_cons (ps_set (i := 2) nd rfl (Or.inl rfl) (pe_lst (pa_cons (pe_callB call_len_seq rfl T.n_len (by decide +kernel) (pa_cons (pv 1) pa_nil)) pa_nil)))
        (pss_cons (ps_for PassesOwn.never rfl (pi_list (pv 1)) (pg_name (i := 3) nd rfl (Or.inl rfl)) (pss_one (ps_expr (pe_bm PySem.F.plainAttrs_list PySem.F.slot_list_extend PySem.F.type_list_extend mt_extend (pv 2) (pa_cons (pe_lst (pa_cons (pe_fld (pv 3) rfl) (pa_cons (pe_fld (pv 3) rfl) pa_nil))) pa_nil)))))
        (pss_one (ps_ret (pv 2))))), ?_⟩
      intro p as cs H1 hr1 s1 hp hSs
      rw [hr1] at k
      have hcl := rsF_len hr1
      have hl := hSs.length
      refine ⟨_, rfl, p, _, rfl, .inl (SqL.of hp), (by show 1 ≤ 2 ^ 24; decide), fun D hD => ?_⟩
      rw [List.length_map, hl]
      have npD : p ≠ D := ne_of_none hp hD
      refine ⟨_, rfl, p, rfl, ⟨_, SqL.of (by rw [upd_ne npD]; exact hp)⟩, for_list (K := K) (a := p) (xs := as.map V.ref) (fun i σ H' => ∃ v : Option V, σ = [some (.ref a), some (.ref p), some (.ref D), v] ∧ H' p = some (.lst (as.map V.ref)) ∧ A2 (SecLow CS H') as cs ∧ H' D = some (.lst (((cs.length : Int) :: (cs.take i).flatMap secOut).map V.int)))
        ⟨none, rfl, by rw [upd_ne npD]; exact hp, A2.imp (fun _ _ ⟨v, pl, ⟨dx, z⟩, _⟩ => ⟨v, .ref pl, dx, (Same.upd hD) _ _ z⟩) hSs, upd_same⟩ (fun i σ H' _ ⟨_, _, h, _⟩ => SqL.of h) ?_ ?_⟩
      · rintro i y σ H' hy ⟨v, rfl, hp', hSs', hDl⟩
        rw [List.getElem?_map] at hy
        obtain ⟨b', hb', rfl⟩ := Option.map_eq_some_iff.mp hy
        obtain ⟨c, hc, hs⟩ := A2.get hSs' hb'
        have hs' := hs
        obtain ⟨v', u', dx, hi⟩ := hs'
        have hil := (List.getElem?_eq_some_iff.mp hc).1
        refine ⟨_, rfl, .inl ⟨rfl, _, SqL.of hDl⟩, _, rfl, b', CS, dx, _, _, rfl, hi, TS.cl, TS.n_colour, fs_Section_colour _ _ _ _, _, rfl, b', CS, dx, _, _, rfl, hi, TS.cl, TS.n_kind, fs_Section_kind _ _ _ _, by show 2 ≤ 2 ^ 24; decide, fun q hq => ?_⟩
        have nDq : D ≠ q := ne_of_none hDl hq
        have sq := Same.upd (o := .lst [V.int (c.colour : Int), V.int (c.kind : Int)]) hq
        have hlen2 := secOut_len (cs.take i)
        rw [List.length_take] at hlen2
        refine ⟨D, q, _, _, rfl, rfl, sq _ _ hDl, upd_same, (by rw [List.length_map, List.length_cons, hlen2]; show _ ≤ 2 ^ 24; simp; omega), _, rfl, ?_, ?_, ?_⟩
        · rw [upd_ne npD]
          exact sq _ _ hp'
        · refine A2.imp (fun b c ⟨v, u, dx, z⟩ => ⟨v, u, dx, ?_⟩) hSs'
          rw [upd_ne (ne_of z hDl (by intro q; cases q))]
          exact sq _ _ z
        · rw [upd_same, take_snoc hc, List.flatMap_append]
          simp [secOut]
      · rintro σ H' ⟨v, rfl, hp', hSs', hDl⟩
        rw [List.length_map, hl, List.take_length] at hDl
        exact ⟨_, rfl, k D H' hDl⟩
    refine ⟨_, pss_cons (ps_try (C := CN) (fun H' => Same H H' ∧ rsF b = none) EX_NoPicture FB.hasBase rfl rfl (fun _ => rfl) rfl rfl rfl
      (fun E pn xk hp => (pss_one (ps_set (i := 1) nd rfl (Or.inl rfl) (pe_own O_read_sections (hr.mono (by decide)) (passN (E := fun _ _ H' => Same H H' ∧ rsF b = none) xk (fun _ z => z)) (pa_cons (pv 0) pa_nil)))))
      (fun e => (pss_one (ps_ret (pe_lst (pa_cons (pe_gi T.c_NO_PICTURE) pa_nil)))))) h1, ?_⟩
    refine ⟨⟨_, rfl, a, b, rfl, hS, hlen, fun H' sm hn => ⟨sm, hn⟩, fun p as cs H' sm hcs hp hSs => q1 p as cs H' hcs sm hp hSs⟩, fun σ' H' hE => ?_⟩
    rw [hE.2] at k
    exact ⟨by decide, fun p hp => k p _ upd_same⟩
end
end NP
end
section
set_option Elab.async false
set_option linter.all false
set_option maxRecDepth 100000
set_option maxHeartbeats 2000000
namespace NP
open PySem PySem.Spec PyProof.Rows L2
open Sv68 (isDigit lower tenths)
theorem cont_iff (c : UInt8) : (c.toNat / 64 == 2) = true ↔ (128 ≤ c.toNat ∧ c.toNat ≤ 191) := by
  rw [beq_iff_eq]
  omega
theorem no_cont {r : Bytes} (h : Wbk.utf8 r = true) : r.takeWhile (fun c => c.toNat / 64 == 2) = [] := by
  cases r with
  | nil => rfl
  | cons a r =>
    rw [List.takeWhile_cons, if_neg]
    intro hc
    have := (cont_iff a).mp hc
    rw [utf8_cons, if_neg (by omega), if_neg (by omega), if_neg (by omega), if_neg (by omega)] at h
    cases h
theorem goU_cont {b : UInt8} {lo hi : Nat} (h : goU b lo hi = true) (h1 : 128 ≤ lo) (h2 : hi ≤ 191) : (b.toNat / 64 == 2) = true := by
  unfold goU at h
  rw [Bool.and_eq_true, decide_eq_true_iff, decide_eq_true_iff] at h
  exact (cont_iff b).mpr (by omega)
theorem csz_val (c : UInt8) : csz c = if c.toNat < 128 then 1 else if c.toNat < 192 then 0 else if c.toNat < 224 then 2 else if c.toNat < 240 then 3 else if c.toNat < 248 then 4 else 0 := by
  unfold csz csize
  repeat' split
  all_goals first
    | rfl
    | omega
theorem char_tail {d : UInt8} {r : Bytes} (h : Wbk.utf8 (d :: r) = true) : (r.takeWhile fun c => c.toNat / 64 == 2).length + 1 = csz d := by
  rw [csz_val]
  rw [utf8_cons] at h
  split at h
  · rename_i h1
    rw [if_pos h1, no_cont h]
    rfl
  · rename_i h1
    rw [if_neg h1]
    split at h
    · rename_i h2
      rw [if_neg (by omega), if_pos (by omega)]
      cases r with
      | nil => cases h
      | cons b q =>
        simp only [Bool.and_eq_true] at h
        rw [List.takeWhile_cons, if_pos (goU_cont h.1 (by decide) (by decide)), no_cont h.2]
        rfl
    · split at h
      · rename_i h2 h3
        rw [if_neg (by omega), if_neg (by omega), if_pos (by omega)]
        match r, h with
        | b :: c :: q, h =>
          simp only [Bool.and_eq_true] at h
          rw [List.takeWhile_cons, if_pos (goU_cont h.1 (by split <;> decide) (by split <;> decide)), List.takeWhile_cons, if_pos (goU_cont h.2.1 (by decide) (by decide)), no_cont h.2.2]
          rfl
      · split at h
        · rename_i h2 h3 h4
          rw [if_neg (by omega), if_neg (by omega), if_neg (by omega), if_pos (by omega)]
          match r, h with
          | b :: c :: e :: q, h =>
            simp only [Bool.and_eq_true] at h
            rw [List.takeWhile_cons, if_pos (goU_cont h.1 (by split <;> decide) (by split <;> decide)), List.takeWhile_cons, if_pos (goU_cont h.2.1 (by decide) (by decide)), List.takeWhile_cons, if_pos (goU_cont h.2.2.1 (by decide) (by decide)), no_cont h.2.2.2]
            rfl
        · cases h
theorem char1_of {d : UInt8} {r : Bytes} (h : Wbk.utf8 (d :: r) = true) : Sv68.char1 (d :: r) = some ((d :: r).take (csz d), (d :: r).drop (csz d)) := by
  have e := char_tail h
  unfold Sv68.char1
  dsimp only
  have e2 : r.takeWhile (fun c => c.toNat / 64 == 2) = r.take (r.takeWhile fun c => c.toNat / 64 == 2).length := List.prefix_iff_eq_take.mp (List.takeWhile_prefix _)
  rw [← e, List.take_succ_cons, List.drop_succ_cons, ← e2]
def opN (z : Str) : Nat := if z = "<" then 1 else if z = "<=" then 2 else if z = ">" then 3 else if z = ">=" then 4 else if z = "=" then 5 else 6
theorem lower_dig (c : UInt8) : isDigit (lower c) = isDigit c ∧ (isDigit c = true → lower c = c) ∧ (lower c = 45 ↔ c = 45) ∧ (lower c = 46 ↔ c = 46) ∧ (lower c = 60 ↔ c = 60) ∧ (lower c = 61 ↔ c = 61) ∧ (lower c = 62 ↔ c = 62) := by
  have key : ∀ k : Fin 256, isDigit (lower (UInt8.ofNat k.val)) = isDigit (UInt8.ofNat k.val) ∧ (isDigit (UInt8.ofNat k.val) = true → lower (UInt8.ofNat k.val) = UInt8.ofNat k.val) ∧ (lower (UInt8.ofNat k.val) = 45 ↔ UInt8.ofNat k.val = 45) ∧ (lower (UInt8.ofNat k.val) = 46 ↔ UInt8.ofNat k.val = 46) ∧ (lower (UInt8.ofNat k.val) = 60 ↔ UInt8.ofNat k.val = 60) ∧ (lower (UInt8.ofNat k.val) = 61 ↔ UInt8.ofNat k.val = 61) ∧ (lower (UInt8.ofNat k.val) = 62 ↔ UInt8.ofNat k.val = 62) := by decide +kernel
  have := key ⟨c.toNat, c.toNat_lt⟩
  simp only [UInt8.ofNat_toNat] at this
  exact this
theorem tw_low (b : Bytes) : (b.map lower).takeWhile isDigit = b.takeWhile isDigit := by
  induction b with
  | nil => rfl
  | cons c b ih =>
    rw [List.map_cons, List.takeWhile_cons, List.takeWhile_cons, (lower_dig c).1]
    split
    · rename_i h
      rw [(lower_dig c).2.1 h, ih]
    · rfl
theorem all_low (b : Bytes) : (b.map lower).all isDigit = b.all isDigit := by
  rw [List.all_map]
  congr 1
  funext c
  exact (lower_dig c).1
theorem map_low {b : Bytes} (h : b.all isDigit = true) : b.map lower = b := by
  induction b with
  | nil => rfl
  | cons c b ih =>
    rw [List.all_cons, Bool.and_eq_true] at h
    rw [List.map_cons, (lower_dig c).2.1 h.1, ih h.2]
theorem head_low (b : Bytes) (x : UInt8) (hx : ∀ c, lower c = x ↔ c = x) : ((b.map lower).head? = some x) ↔ (b.head? = some x) := by
  cases b with
  | nil => simp
  | cons c b => simp [hx]
theorem decimalIn_low (b : Bytes) : Sv68.decimalIn (b.map lower) = Sv68.decimalIn b := by
  unfold Sv68.decimalIn
  have e1 : ((b.map lower).head? == some 45) = (b.head? == some 45) := by
    rw [Bool.eq_iff_iff, beq_iff_eq, beq_iff_eq]
    exact head_low b 45 fun c => (lower_dig c).2.2.1
  rw [e1]
  generalize (b.head? == some 45) = s
  dsimp only
  have e2 : (if s = true then (b.map lower).drop 1 else b.map lower) = (if s = true then b.drop 1 else b).map lower := by
    split
    · rw [List.map_drop]
    · rfl
  rw [e2]
  generalize (if s = true then b.drop 1 else b) = l
  rw [tw_low, ← List.map_drop]
  generalize hf : l.drop (l.takeWhile isDigit).length = f
  have e3 : (f.map lower = []) ↔ f = [] := List.map_eq_nil_iff
  by_cases h0 : f = []
  · rw [if_pos (e3.mpr h0), if_pos h0]
  · rw [if_neg fun z => h0 (e3.mp z), if_neg h0]
    have e4 : ((f.map lower).head? = some 46 ∧ 2 ≤ (f.map lower).length ∧ ((f.map lower).drop 1).all isDigit = true) ↔ (f.head? = some 46 ∧ 2 ≤ f.length ∧ (f.drop 1).all isDigit = true) := by
      rw [head_low f 46 fun c => (lower_dig c).2.2.2.1, List.length_map, ← List.map_drop, all_low]
    by_cases h1 : f.head? = some 46 ∧ 2 ≤ f.length ∧ (f.drop 1).all isDigit = true
    · rw [if_pos (e4.mpr h1), if_pos h1, ← List.map_drop, map_low h1.2.2]
    · rw [if_neg fun z => h1 (e4.mp z), if_neg h1]
theorem col_eq (l : Bytes) : (Sv68.COLOURS.findIdx? fun s => Sv68.str s == l) = if 0 < colI l then some (colI l - 1) else none := by
  have key : ∀ (s : String) (z : Str), codesI z = bi (Sv68.str s) → ((Sv68.str s == l) = decide (bi l = codesI z)) := fun s z h => by
    rw [h, Bool.eq_iff_iff, beq_iff_eq, decide_eq_true_iff]
    exact ⟨fun e => by rw [e], fun e => (bi_inj e).symm⟩
  unfold colI COLS Sv68.COLOURS
  simp only [List.findIdx?_cons, List.findIdx?_nil, colL, key "black" "black" (by decide +kernel), key "blue" "blue" (by decide +kernel), key "cyan" "cyan" (by decide +kernel), key "green" "green" (by decide +kernel), key "magenta" "magenta" (by decide +kernel), key "red" "red" (by decide +kernel), key "white" "white" (by decide +kernel), key "yellow" "yellow" (by decide +kernel), decide_eq_true_iff]
  repeat' split
  all_goals first
    | rfl
    | omega
end NP
end
section
set_option Elab.async false
set_option linter.all false
set_option maxRecDepth 100000
set_option maxHeartbeats 4000000
namespace NP
open PySem PySem.Spec PyProof.Rows L2
open Sv68 (isDigit lower tenths)
theorem pas_eq (l : Bytes) : (l ≠ [] ∧ l.length ≤ 9 ∧ (l.all (fun c => c == 104) || (l.all (fun c => c == 109) || l.all fun c => c == 115)) = true) ↔ pasI l = true := by
  cases l with
  | nil => simp [pasI]
  | cons c r =>
    show _ ↔ (decide ((c :: r).length ≤ 9) && ((c == 104 || (c == 109 || c == 115)) && (c :: r).all fun x => x == c)) = true
    simp only [Bool.and_eq_true, Bool.or_eq_true, decide_eq_true_iff, List.all_cons, beq_iff_eq, ne_eq, reduceCtorEq, not_false_eq_true, true_and, beq_self_eq_true]
    constructor
    · rintro ⟨h1, h2⟩
      refine ⟨h1, ?_⟩
      rcases h2 with ⟨e, h⟩ | ⟨e, h⟩ | ⟨e, h⟩
      · exact ⟨.inl e, by rw [e]; exact h⟩
      · exact ⟨.inr (.inl e), by rw [e]; exact h⟩
      · exact ⟨.inr (.inr e), by rw [e]; exact h⟩
    · rintro ⟨h1, h2, h3⟩
      refine ⟨h1, ?_⟩
      rcases h2 with e | e | e
      · exact .inl ⟨e, by rw [e] at h3; exact h3⟩
      · exact .inr (.inl ⟨e, by rw [e] at h3; exact h3⟩)
      · exact .inr (.inr ⟨e, by rw [e] at h3; exact h3⟩)
theorem map_fix {f : UInt8 → UInt8} : ∀ {l w : Bytes}, (∀ x ∈ w, ∀ c, f c = x ↔ c = x) → (l.map f = w ↔ l = w)
  | [], [], _ => by simp
  | [], _ :: _, _ => by simp
  | _ :: _, [], _ => by simp
  | a :: l, x :: w, h => by
    rw [List.map_cons, List.cons.injEq, List.cons.injEq, h x List.mem_cons_self a, map_fix fun y hy => h y (List.mem_cons_of_mem _ hy)]
theorem beg_low {t w : Bytes} {z : Str} (hz : codesI z = bi w) (hl : z.length = w.length) (hw : ∀ x ∈ w, ∀ c, lower (lower c) = x ↔ c = x) : begI (bi (t.map lower)) 0 z = decide (t.take w.length = w) := by
  unfold begI
  refine decide_eq_decide.mpr ?_
  rw [List.drop_zero, hl, hz]
  have e : ((bi (t.map lower)).take w.length).map lowI = bi ((t.take w.length).map fun c => lower (lower c)) := by
    unfold bi
    rw [← List.map_take, ← List.map_take, List.map_map, List.map_map, List.map_map]
    exact List.map_congr_left fun c _ => low_lower (lower c)
  rw [e]
  exact ⟨fun h => (map_fix hw).mp (bi_inj h), fun h => by rw [(map_fix hw).mpr h]⟩
theorem low2 : ∀ x ∈ ([60, 61, 62] : Bytes), ∀ c, lower (lower c) = x ↔ c = x := by
  have key : ∀ x ∈ ([60, 61, 62] : Bytes), ∀ k : Fin 256, lower (lower (UInt8.ofNat k.val)) = x ↔ UInt8.ofNat k.val = x := by decide +kernel
  intro x hx c
  have := key x hx ⟨c.toNat, c.toNat_lt⟩
  simp only [UInt8.ofNat_toNat] at this
  exact this
theorem cond_eq (t : Bytes) : condI (t.map lower) = (if t.take 2 = [60, 61] then (Sv68.decimalIn (t.drop 2)).map fun v => (("<=" : Str), v) else if t.take 2 = [62, 61] then (Sv68.decimalIn (t.drop 2)).map fun v => ((">=" : Str), v) else if t.take 2 = [60, 62] then (Sv68.decimalIn (t.drop 2)).map fun v => (("<>" : Str), v)
    else if t.take 1 = [60] then (Sv68.decimalIn (t.drop 1)).map fun v => (("<" : Str), v) else if t.take 1 = [62] then (Sv68.decimalIn (t.drop 1)).map fun v => ((">" : Str), v) else if t.take 1 = [61] then (Sv68.decimalIn (t.drop 1)).map fun v => (("=" : Str), v) else none) := by
  have sub : ∀ w : Bytes, (∀ x ∈ w, x ∈ ([60, 61, 62] : Bytes)) → ∀ x ∈ w, ∀ c, lower (lower c) = x ↔ c = x := fun w h x hx => low2 x (h x hx)
  unfold condI COMPS
  simp only [condL, beg_low (t := t) (w := [60, 61]) (z := "<=") (by decide +kernel) (by decide +kernel) (sub _ (by decide)), beg_low (t := t) (w := [62, 61]) (z := ">=") (by decide +kernel) (by decide +kernel) (sub _ (by decide)), beg_low (t := t) (w := [60, 62]) (z := "<>") (by decide +kernel) (by decide +kernel) (sub _ (by decide)),
    beg_low (t := t) (w := [60]) (z := "<") (by decide +kernel) (by decide +kernel) (sub _ (by decide)), beg_low (t := t) (w := [62]) (z := ">") (by decide +kernel) (by decide +kernel) (sub _ (by decide)), beg_low (t := t) (w := [61]) (z := "=") (by decide +kernel) (by decide +kernel) (sub _ (by decide)), decide_eq_true_iff]
  have l2 : ∀ z : Str, z.length = 2 → Sv68.decimalIn ((t.map lower).drop z.length) = Sv68.decimalIn (t.drop 2) := fun z h => by rw [h, ← List.map_drop, decimalIn_low]
  have l1 : ∀ z : Str, z.length = 1 → Sv68.decimalIn ((t.map lower).drop z.length) = Sv68.decimalIn (t.drop 1) := fun z h => by rw [h, ← List.map_drop, decimalIn_low]
  rw [l2 "<=" (by decide +kernel), l2 ">=" (by decide +kernel), l2 "<>" (by decide +kernel), l1 "<" (by decide +kernel), l1 ">" (by decide +kernel), l1 "=" (by decide +kernel)]
  rfl
theorem pas_cond {t : Bytes} (h : pasI (t.map lower) = true) : condI (t.map lower) = none := by
  cases t with
  | nil => cases h
  | cons c r =>
    have h : (decide ((lower c :: r.map lower).length ≤ 9) && ((lower c == 104 || (lower c == 109 || lower c == 115)) && (lower c :: r.map lower).all fun x => x == lower c)) = true := h
    simp only [Bool.and_eq_true, Bool.or_eq_true, beq_iff_eq] at h
    have hc : c ≠ 60 ∧ c ≠ 61 ∧ c ≠ 62 := by
      have h2 := h.2.1
      refine ⟨fun e => ?_, fun e => ?_, fun e => ?_⟩ <;> (rw [e] at h2; revert h2; decide +kernel)
    have t1 : ∀ (x : UInt8) (w : Bytes), c ≠ x → ¬ (c :: r).take (w.length + 1) = x :: w := fun x w hx e => by
      rw [List.take_succ_cons] at e
      exact hx (List.cons.inj e).1
    rw [cond_eq, if_neg (show ¬ (c :: r).take 2 = [60, 61] from t1 60 [61] hc.1), if_neg (show ¬ (c :: r).take 2 = [62, 61] from t1 62 [61] hc.2.2), if_neg (show ¬ (c :: r).take 2 = [60, 62] from t1 60 [62] hc.1), if_neg (show ¬ (c :: r).take 1 = [60] from t1 60 [] hc.1), if_neg (show ¬ (c :: r).take 1 = [62] from t1 62 [] hc.2.2), if_neg (show ¬ (c :: r).take 1 = [61] from t1 61 [] hc.2.1)]
theorem bracket_eq (t : Bytes) : Sv68.bracket t = if 0 < colI (t.map lower) then some (.inl (colI (t.map lower))) else if pasI (t.map lower) = true then some (.inr (.inr (.passed ((t.map lower).headD 0) (t.map lower).length 0))) else (condI (t.map lower)).map fun x => .inr (.inl (opN x.1, x.2)) := by
  unfold Sv68.bracket
  dsimp only
  rw [col_eq]
  by_cases h0 : 0 < colI (t.map lower)
  · rw [if_pos h0, if_pos h0]
    show some (Sum.inl (colI (t.map lower) - 1 + 1)) = _
    rw [show colI (t.map lower) - 1 + 1 = colI (t.map lower) by omega]
  · rw [if_neg h0, if_neg h0]
    dsimp only
    by_cases h1 : pasI (t.map lower) = true
    · rw [if_pos ((pas_eq _).mpr h1), if_pos h1]
    · rw [if_neg fun z => h1 ((pas_eq _).mp z), if_neg h1, cond_eq]
      repeat' split
      all_goals first
        | rfl
        | (rw [Option.map_map]; rfl)
end NP
end
section
set_option Elab.async false
set_option linter.all false
set_option maxRecDepth 100000
set_option maxHeartbeats 4000000
namespace NP
open PySem PySem.Spec PyProof.Rows L2
open Sv68 (isDigit lower tenths)
def toP : Pc → Sv68.Piece
  | .text b => .text b
  | .sign nm c => if nm = nPlace then .place c else if nm = nPoint then .point else if nm = nComma then .comma else if nm = nPercent then .percent else .itself
  | .exponent c => .power (c == 43)
  | .word nm n => if nm = nGeneral then .general else .half (n == 3)
  | .part l n d => .clock l n d
  | .passed l n d => .passed l n d
  | _ => .text []
def addP (s : Sv68.Section) (p : Pc) : Option Sv68.Section := match p with
  | .colour k => if s.colour = 0 then some { s with colour := k } else none
  | .condition z x => if s.condition.isNone = true then some { s with condition := some (opN z, x) } else none
  | p => some { s with pieces := s.pieces ++ [toP p] }
def rpL7 (b : Bytes) (i : Nat) (c : UInt8) : Option (Pc × Nat) := match longest (lower c) with
  | some m => some (.part (lower c) (rowN b i (lower c)) (decC (lower c) (b.drop (i + rowN b i (lower c)))), rowN b i (lower c) + more (decC (lower c) (b.drop (i + rowN b i (lower c)))))
  | none => rp8 b i c
def rpL6 (b : Bytes) (i : Nat) (c : UInt8) : Option (Pc × Nat) := match wordL WORDP b i with
  | some x => some (.word x.1 x.2, x.2)
  | none => rpL7 b i c
def rpL5 (b : Bytes) (i : Nat) (c : UInt8) : Option (Pc × Nat) := if c = 69 ∧ ((b.drop (i + 1)).take 1 = [43] ∨ (b.drop (i + 1)).take 1 = [45]) then some (.exponent ((b.drop (i + 1)).headD 0), 2) else rpL6 b i c
def rpL4 (b : Bytes) (i : Nat) (c : UInt8) : Option (Pc × Nat) := match signI c with
  | some nm => some (.sign nm c, 1)
  | none => rpL5 b i c
def rpL3 (b : Bytes) (i : Nat) (c : UInt8) : Option (Pc × Nat) := if c = 91 then brk b i else rpL4 b i c
def rpL2 (b : Bytes) (i : Nat) (c : UInt8) : Option (Pc × Nat) := if c = 92 ∨ c = 95 then (b[i + 1]?).map (fun d => (.text (behC c d (b.drop (i + 1))), 1 + csz d)) else rpL3 b i c
def rpL (b : Bytes) (i : Nat) (c : UInt8) : Option (Pc × Nat) := if c = 34 then (if i + 1 + upTo b (i + 1) 34 = b.length then none else some (.text ((b.drop (i + 1)).take (upTo b (i + 1) 34)), upTo b (i + 1) 34 + 2)) else rpL2 b i c
def okRow : Pc → Bool
  | .part l n _ => (match longest l with
    | some m => decide (n ≤ m)
    | none => true)
  | _ => true
theorem rp_rpL (b : Bytes) (i : Nat) (c : UInt8) : rp b i c = (rpL b i c).bind fun x => if okRow x.1 = true then some x else none := by
  unfold rp rpL
  split
  · split <;> rfl
  unfold rp2 rpL2
  split
  · cases b[i + 1]? <;> rfl
  unfold rp3 rpL3
  split
  · have : ∀ (o : Option (Pc × Nat)), (∀ x, o = some x → okRow x.1 = true) → o = o.bind fun x => if okRow x.1 = true then some x else none := fun o h => by
      cases o with
      | none => rfl
      | some x => rw [Option.bind_some, if_pos (h x rfl)]
    refine this _ fun x hx => ?_
    unfold brk at hx
    split at hx
    · cases hx
    · unfold brkI at hx
      split at hx
      · rw [← Option.some.inj hx]; rfl
      · split at hx
        · rw [← Option.some.inj hx]; rfl
        · split at hx
          · rw [← Option.some.inj hx]; rfl
          · cases hx
  unfold rp4 rpL4
  cases hs : signI c with
  | some nm => rfl
  | none =>
  dsimp only
  unfold rp5 rpL5
  split
  · rfl
  unfold rp6 rpL6
  cases hw : wordL WORDP b i with
  | some x => rfl
  | none =>
  dsimp only
  unfold rp7 rpL7
  cases hm : longest (lower c) with
  | some m =>
    dsimp only
    rw [Option.bind_some]
    show _ = if (match longest (lower c) with
      | some m => decide (rowN b i (lower c) ≤ m)
      | none => true) = true then _ else _
    rw [hm]
    dsimp only
    by_cases h : rowN b i (lower c) ≤ m
    · rw [if_neg (by omega), if_pos (decide_eq_true h)]
    · rw [if_pos (by omega), if_neg (by simp [h])]
  | none =>
    dsimp only
    unfold rp8
    split <;> rfl
theorem take_tw (l : Bytes) (p : UInt8 → Bool) : l.take (l.takeWhile p).length = l.takeWhile p := (List.prefix_iff_eq_take.mp (List.takeWhile_prefix p)).symm
theorem sign_facts (c : UInt8) : (c = 59 → signI c = none) ∧ (signI c = if c = 48 ∨ c = 35 ∨ c = 63 then some nPlace else if c = 46 then some nPoint else if c = 44 then some nComma else if c = 37 then some nPercent else if c = 64 then some nAt else none) := by
  refine ⟨fun e => by rw [e]; decide +kernel, rfl⟩
theorem beg_eq {b w : Bytes} {i : Nat} {z : Str} (hz : codesI z = bi w) (hl : z.length = w.length) : begI (bi b) i z = decide (((b.drop i).take w.length).map lower = w) := by
  unfold begI
  refine decide_eq_decide.mpr ?_
  rw [hl, hz]
  have e : (((bi b).drop i).take w.length).map lowI = bi (((b.drop i).take w.length).map lower) := by
    unfold bi
    rw [← List.map_drop, ← List.map_take, List.map_map, List.map_map]
    exact List.map_congr_left fun c _ => low_lower c
  rw [e]
  exact ⟨bi_inj, fun h => by rw [h]⟩
theorem row_iff (c : UInt8) : (Sv68.str "ymdhs").contains (lower c) = (longest (lower c)).isSome := by
  have key : ∀ k : Fin 256, (Sv68.str "ymdhs").contains (lower (UInt8.ofNat k.val)) = (longest (lower (UInt8.ofNat k.val))).isSome := by decide +kernel
  have := key ⟨c.toNat, c.toNat_lt⟩
  simp only [UInt8.ofNat_toNat] at this
  exact this
theorem plain_iff (c : UInt8) : Sv68.plain c = decide (127 < c.toNat ∨ plainI c = true) := by
  have key : ∀ k : Fin 256, Sv68.plain (UInt8.ofNat k.val) = decide (127 < (UInt8.ofNat k.val).toNat ∨ plainI (UInt8.ofNat k.val) = true) := by decide +kernel
  have := key ⟨c.toNat, c.toNat_lt⟩
  simp only [UInt8.ofNat_toNat] at this
  exact this
theorem pieces_step {b : Bytes} {i : Nat} {c : UInt8} {f : Nat} {s : Sv68.Section} (hc : b[i]? = some c) (h59 : c ≠ 59) (hu : Wbk.utf8 (b.drop i) = true) :
    Sv68.pieces (f + 1) s (b.drop i) = (rpL b i c).bind fun x => (addP s x.1).bind fun s' => Sv68.pieces f s' (b.drop (i + x.2)) := by
  have ed := drop_get hc
  have hil := (List.getElem?_eq_some_iff.mp hc).1
  have hrl : (b.drop (i + 1)).length = b.length - (i + 1) := List.length_drop ..
  have asc : c.toNat < 128 → Wbk.utf8 (b.drop (i + 1)) = true := fun hl => by
    rw [ed, utf8_ascii hl] at hu
    exact hu
  have dd : ∀ n, (b.drop (i + 1)).drop n = b.drop (i + (1 + n)) := fun n => by rw [List.drop_drop]; congr 1; omega
  rw [ed, Sv68.pieces]
  dsimp only
  rw [if_neg h59]
  unfold rpL
  by_cases h34 : c = 34
  · rw [if_pos h34, if_pos h34]
    have eu : ((b.drop (i + 1)).takeWhile fun x => x != 34).length = upTo b (i + 1) 34 := rfl
    have hle := upTo_le b (i + 1) 34 (by omega)
    have e1 : (((b.drop (i + 1)).takeWhile fun x => x != 34).length = (b.drop (i + 1)).length) ↔ i + 1 + upTo b (i + 1) 34 = b.length := by
      rw [eu, hrl]
      omega
    by_cases hcl : i + 1 + upTo b (i + 1) 34 = b.length
    · rw [if_pos (e1.mpr hcl), if_pos hcl]
      rfl
    · rw [if_neg fun z => hcl (e1.mp z), if_neg hcl, Option.bind_some]
      show _ = (addP s (.text _)).bind _
      rw [← eu, take_tw, dd, show i + (1 + (((b.drop (i + 1)).takeWhile fun x => x != 34).length + 1)) = i + (((b.drop (i + 1)).takeWhile fun x => x != 34).length + 2) by omega]
      rfl
  rw [if_neg h34, if_neg h34]
  unfold rpL2
  have chr : c = 92 ∨ c = 95 → ∀ g : Bytes × Bytes → Option (Sv68.Section × Option Bytes), (Sv68.char1 (b.drop (i + 1))).bind g = (b[i + 1]?).bind fun d => g ((b.drop (i + 1)).take (csz d), b.drop (i + (1 + csz d))) := fun h g => by
    have hu1 := asc (by rcases h with e | e <;> rw [e] <;> decide)
    cases hd : b[i + 1]? with
    | none =>
      rw [List.drop_of_length_le (by have := List.getElem?_eq_none_iff.mp hd; omega)]
      rfl
    | some d =>
      rw [drop_get hd] at hu1 ⊢
      rw [char1_of hu1, Option.bind_some, Option.bind_some, ← drop_get hd, dd]
  by_cases h92 : c = 92
  · rw [if_pos h92, if_pos (.inl h92), chr (.inl h92)]
    cases b[i + 1]? with
    | none => rfl
    | some d =>
      dsimp only [Option.map_some, Option.bind_some]
      unfold behC
      rw [if_neg (by rw [h92]; decide)]
      rfl
  rw [if_neg h92]
  by_cases h95 : c = 95
  · rw [if_pos h95, if_pos (.inr h95), chr (.inr h95)]
    cases b[i + 1]? with
    | none => rfl
    | some d =>
      dsimp only [Option.map_some, Option.bind_some]
      unfold behC
      rw [if_pos h95]
      rfl
  rw [if_neg h95, if_neg (show ¬ (c = 92 ∨ c = 95) from fun z => z.elim h92 h95)]
  unfold rpL3
  by_cases h91 : c = 91
  · rw [if_pos h91, if_pos h91]
    unfold brk
    have eu : ((b.drop (i + 1)).takeWhile fun x => x != 93).length = upTo b (i + 1) 93 := rfl
    have hle := upTo_le b (i + 1) 93 (by omega)
    have e1 : (((b.drop (i + 1)).takeWhile fun x => x != 93).length = (b.drop (i + 1)).length) ↔ i + 1 + upTo b (i + 1) 93 = b.length := by
      rw [eu, hrl]
      omega
    by_cases hcl : i + 1 + upTo b (i + 1) 93 = b.length
    · rw [if_pos (e1.mpr hcl), if_pos hcl]
      rfl
    · rw [if_neg fun z => hcl (e1.mp z), if_neg hcl, ← eu, take_tw, bracket_eq]
      generalize ((b.drop (i + 1)).takeWhile fun x => x != 93) = t
      have eq : (b.drop (i + 1)).drop (t.length + 1) = b.drop (i + 1 + t.length + 1) := by rw [List.drop_drop]; congr 1
      rw [eq]
      generalize hlow : t.map lower = low
      have hpc : pasI low = true → condI low = none := by
        rw [← hlow]
        exact pas_cond
      have dq : ∀ m, (b.drop (i + 1 + t.length + 1)).drop m = b.drop (i + (t.length + 2 + m)) := fun m => by rw [List.drop_drop]; congr 1; omega
      have dq0 : b.drop (i + 1 + t.length + 1) = b.drop (i + (t.length + 2 + 0)) := by congr 1; omega
      unfold brkI
      by_cases g0 : 0 < colI low
      · rw [if_pos g0, if_pos g0]
        dsimp only [Option.map_some, Option.bind_some]
        unfold addP
        dsimp only
        rw [dq0]
        split <;> rfl
      · rw [if_neg g0, if_neg g0]
        by_cases g1 : pasI low = true
        · rw [if_pos g1, hpc g1]
          dsimp only
          rw [if_pos g1]
          dsimp only [Option.map_some, Option.bind_some]
          by_cases g2 : low.headD 0 = 115
          · rw [g2]
            rw [show decC 115 (b.drop (i + 1 + t.length + 1)) = tenths (b.drop (i + 1 + t.length + 1)) from rfl, show (if tenths (b.drop (i + 1 + t.length + 1)) = 0 then 0 else tenths (b.drop (i + 1 + t.length + 1)) + 1) = more (tenths (b.drop (i + 1 + t.length + 1))) from rfl, dq]
            rfl
          · have ed0 : decC (low.headD 0) (b.drop (i + 1 + t.length + 1)) = 0 := by
              unfold decC
              rw [if_neg g2]
            rw [ed0]
            split
            · rename_i heq
              cases heq
            · rename_i heq
              cases heq
            · rename_i heq
              injection heq with heq
              injection heq with heq
              injection heq with heq
              injection heq with heq
              exact (g2 heq).elim
            · rename_i p' _ heq
              injection heq with heq
              injection heq with heq
              injection heq with heq
              rw [← heq, dq0]
              rfl
            · rename_i heq
              cases heq
        · rw [if_neg g1]
          cases hcn : condI low with
          | none =>
            dsimp only
            rw [if_neg g1]
            rfl
          | some x =>
            dsimp only [Option.map_some, Option.bind_some]
            unfold addP
            dsimp only
            rw [dq0]
            split <;> rfl
  rw [if_neg h91, if_neg h91]
  unfold rpL4
  have one : b.drop (i + 1) = b.drop (i + 1) := rfl
  by_cases hpl : c = 48 ∨ c = 35 ∨ c = 63
  · have hs : signI c = some nPlace := by rw [(sign_facts c).2, if_pos hpl]
    rw [if_pos hpl, hs]
    rfl
  rw [if_neg hpl]
  by_cases h46 : c = 46
  · have hs : signI c = some nPoint := by rw [(sign_facts c).2, if_neg hpl, if_pos h46]
    rw [if_pos h46, hs]
    rfl
  rw [if_neg h46]
  by_cases h44 : c = 44
  · have hs : signI c = some nComma := by rw [(sign_facts c).2, if_neg hpl, if_neg h46, if_pos h44]
    rw [if_pos h44, hs]
    rfl
  rw [if_neg h44]
  by_cases h37 : c = 37
  · have hs : signI c = some nPercent := by rw [(sign_facts c).2, if_neg hpl, if_neg h46, if_neg h44, if_pos h37]
    rw [if_pos h37, hs]
    rfl
  rw [if_neg h37]
  by_cases h64 : c = 64
  · have hs : signI c = some nAt := by rw [(sign_facts c).2, if_neg hpl, if_neg h46, if_neg h44, if_neg h37, if_pos h64]
    rw [if_pos h64, hs]
    rfl
  rw [if_neg h64]
  have hs : signI c = none := by rw [(sign_facts c).2, if_neg hpl, if_neg h46, if_neg h44, if_neg h37, if_neg h64]
  rw [hs]
  dsimp only
  unfold rpL5
  have eE : ((c :: (b.drop (i + 1)).take 1) = Sv68.str "E+" ∨ (c :: (b.drop (i + 1)).take 1) = Sv68.str "E-") ↔ (c = 69 ∧ ((b.drop (i + 1)).take 1 = [43] ∨ (b.drop (i + 1)).take 1 = [45])) := by
    rw [show Sv68.str "E+" = [69, 43] by decide +kernel, show Sv68.str "E-" = [69, 45] by decide +kernel, List.cons.injEq, List.cons.injEq]
    constructor
    · rintro (⟨h1, h2⟩ | ⟨h1, h2⟩)
      · exact ⟨h1, .inl h2⟩
      · exact ⟨h1, .inr h2⟩
    · rintro ⟨h1, h2 | h2⟩
      · exact .inl ⟨h1, h2⟩
      · exact .inr ⟨h1, h2⟩
  by_cases hE : c = 69 ∧ ((b.drop (i + 1)).take 1 = [43] ∨ (b.drop (i + 1)).take 1 = [45])
  · rw [if_pos (eE.mpr hE), if_pos hE, Option.bind_some]
    obtain ⟨d, r', er⟩ : ∃ d r', b.drop (i + 1) = d :: r' := by
      cases hh : b.drop (i + 1) with
      | nil =>
        rw [hh] at hE
        rcases hE.2 with h | h <;> cases h
      | cons d r' => exact ⟨d, r', rfl⟩
    have ed2 : (b.drop (i + 1)).drop 1 = b.drop (i + 2) := dd 1
    show Sv68.pieces f { s with pieces := s.pieces ++ [.power ((b.drop (i + 1)).head? == some 43)] } ((b.drop (i + 1)).drop 1) = Sv68.pieces f { s with pieces := s.pieces ++ [.power ((b.drop (i + 1)).headD 0 == 43)] } (b.drop (i + 2))
    rw [ed2, er]
    have : ((d :: r').head? == some (43 : UInt8)) = ((d :: r').headD 0 == 43) := by
      rw [Bool.eq_iff_iff, beq_iff_eq, beq_iff_eq]
      simp
    rw [this]
  rw [if_neg fun z => hE (eE.mp z), if_neg hE]
  unfold rpL6 WORDP
  have w1 : begI (bi b) i "general" = decide (((b.drop i).take 7).map lower = Sv68.str "general") := beg_eq (w := Sv68.str "general") (by decide +kernel) (by decide +kernel)
  have w2 : begI (bi b) i "am/pm" = decide (((b.drop i).take 5).map lower = Sv68.str "am/pm") := beg_eq (w := Sv68.str "am/pm") (by decide +kernel) (by decide +kernel)
  have w3 : begI (bi b) i "a/p" = decide (((b.drop i).take 3).map lower = Sv68.str "a/p") := beg_eq (w := Sv68.str "a/p") (by decide +kernel) (by decide +kernel)
  simp only [wordL, w1, w2, w3, decide_eq_true_iff]
  rw [← ed]
  by_cases g1 : ((b.drop i).take 7).map lower = Sv68.str "general"
  · rw [if_pos g1, if_pos g1, List.drop_drop]
    rfl
  rw [if_neg g1, if_neg g1]
  by_cases g2 : ((b.drop i).take 5).map lower = Sv68.str "am/pm"
  · rw [if_pos g2, if_pos g2, List.drop_drop]
    rfl
  rw [if_neg g2, if_neg g2]
  by_cases g3 : ((b.drop i).take 3).map lower = Sv68.str "a/p"
  · rw [if_pos g3, if_pos g3, List.drop_drop]
    rfl
  rw [if_neg g3, if_neg g3]
  dsimp only
  unfold rpL7
  rw [row_iff]
  cases hm : longest (lower c) with
  | some m =>
    rw [if_pos (show (some m).isSome = true from rfl)]
    dsimp only [Option.bind_some]
    have ern : ((b.drop i).takeWhile fun x => lower x == lower c).length = rowN b i (lower c) := rfl
    rw [ern, List.drop_drop]
    have ek : (if lower c = 115 then tenths (b.drop (i + rowN b i (lower c))) else 0) = decC (lower c) (b.drop (i + rowN b i (lower c))) := rfl
    rw [ek]
    have em : (if decC (lower c) (b.drop (i + rowN b i (lower c))) = 0 then 0 else decC (lower c) (b.drop (i + rowN b i (lower c))) + 1) = more (decC (lower c) (b.drop (i + rowN b i (lower c)))) := rfl
    rw [em, List.drop_drop, Nat.add_assoc]
    rfl
  | none =>
    rw [if_neg (show ¬ (none : Option Nat).isSome = true by decide), plain_iff]
    unfold rp8
    by_cases hq : 127 < c.toNat ∨ plainI c = true
    · rw [if_pos (decide_eq_true hq), if_pos hq]
      rw [ed] at hu
      rw [ed, char1_of hu, ← ed, List.drop_drop]
      rfl
    · rw [if_neg (fun z => hq (of_decide_eq_true z)), if_neg hq]
      rfl
end NP
end
section
set_option Elab.async false
set_option linter.all false
set_option maxRecDepth 100000
set_option maxHeartbeats 4000000
namespace NP
open PySem PySem.Spec PyProof.Rows L2
open Sv68 (isDigit lower tenths)
theorem rpL_on {b : Bytes} {i n : Nat} {c : UInt8} {p : Pc} (hc : b[i]? = some c) (hu : Wbk.utf8 (b.drop i) = true) (h : rpL b i c = some (p, n)) : 1 ≤ n ∧ i + n ≤ b.length ∧ Wbk.utf8 (b.drop (i + n)) = true := by
  have hil := (List.getElem?_eq_some_iff.mp hc).1
  have ed := drop_get hc
  have asc : c.toNat < 128 → Wbk.utf8 (b.drop (i + 1)) = true := fun hl => by
    rw [ed, utf8_ascii hl] at hu
    exact hu
  -- behind a sign that closes
  have clo : ∀ d : UInt8, d.toNat < 128 → i + 1 + upTo b (i + 1) d < b.length → Wbk.utf8 (b.drop (i + 1 + upTo b (i + 1) d + 1)) = true := fun d hd hlt => by
    have e := upTo_split hlt
    rw [ed, e, ← List.cons_append] at hu
    exact utf8_behind hd _ _ _ (Nat.le_refl _) hu
  unfold rpL at h
  split at h
  · split at h
    · cases h
    · rename_i h1 h2
      have hle := upTo_le b (i + 1) 34 (by omega)
      have hlt : i + 1 + upTo b (i + 1) 34 < b.length := by omega
      have := Prod.mk.inj (Option.some.inj h)
      obtain rfl := this.2
      refine ⟨by omega, by omega, ?_⟩
      have := clo 34 (by decide) hlt
      rw [show i + (upTo b (i + 1) 34 + 2) = i + 1 + upTo b (i + 1) 34 + 1 by omega]
      exact this
  · unfold rpL2 at h
    split at h
    · rename_i h1 h2
      have hl : c.toNat < 128 := by rcases h2 with e | e <;> rw [e] <;> decide
      cases hd : b[i + 1]? with
      | none =>
        rw [hd] at h
        cases h
      | some d =>
        rw [hd] at h
        have := Prod.mk.inj (Option.some.inj h)
        obtain rfl := this.2
        have hu1 := asc hl
        rw [drop_get hd] at hu1
        obtain ⟨g1, g2, g3⟩ := utf8_char hu1
        rw [List.length_drop] at g2
        have := (List.getElem?_eq_some_iff.mp hd).1
        refine ⟨by omega, by omega, ?_⟩
        rw [← drop_get hd, List.drop_drop] at g3
        rw [show i + (1 + csz d) = i + 1 + csz d by omega]
        exact g3
    · unfold rpL3 at h
      split at h
      · rename_i h1 h2 h3
        unfold brk at h
        split at h
        · cases h
        · rename_i h4
          have hle := upTo_le b (i + 1) 93 (by omega)
          have hlt : i + 1 + upTo b (i + 1) 93 < b.length := by omega
          have hu1 := clo 93 (by decide) hlt
          generalize upTo b (i + 1) 93 = u at *
          have go : ∀ m, m ≤ (b.drop (i + 1 + u + 1)).length → Wbk.utf8 ((b.drop (i + 1 + u + 1)).drop m) = true → n = u + 2 + m → 1 ≤ n ∧ i + n ≤ b.length ∧ Wbk.utf8 (b.drop (i + n)) = true := fun m h5 h6 h7 => by
            subst h7
            rw [List.length_drop] at h5
            rw [List.drop_drop] at h6
            refine ⟨by omega, by omega, ?_⟩
            rw [show i + (u + 2 + m) = i + 1 + u + 1 + m by omega]
            exact h6
          unfold brkI at h
          split at h
          · have := Prod.mk.inj (Option.some.inj h)
            exact go 0 (Nat.zero_le _) hu1 this.2.symm
          · split at h
            · have := Prod.mk.inj (Option.some.inj h)
              exact go 0 (Nat.zero_le _) hu1 this.2.symm
            · split at h
              · have := Prod.mk.inj (Option.some.inj h)
                have hd := utf8_dec (l := (List.map lower (List.take u (List.drop (i + 1) b))).headD 0) hu1
                exact go _ hd.1 hd.2 this.2.symm
              · cases h
      · unfold rpL4 at h
        split at h
        · rename_i nm hs
          have := Prod.mk.inj (Option.some.inj h)
          obtain rfl := this.2
          have hl : c.toNat < 128 := by
            unfold signI at hs
            repeat' split at hs
            all_goals first
              | cases hs; done
              | (rename_i e; rcases e with e | e | e <;> rw [e] <;> decide)
              | (rename_i e; rw [e]; decide)
          exact ⟨by omega, by omega, asc hl⟩
        · unfold rpL5 at h
          split at h
          · rename_i h5
            have := Prod.mk.inj (Option.some.inj h)
            obtain rfl := this.2
            have hu1 := asc (by rw [h5.1]; decide)
            cases hd : b[i + 1]? with
            | none =>
              have : b.drop (i + 1) = [] := List.drop_of_length_le (by
                have := List.getElem?_eq_none_iff.mp hd
                omega)
              rw [this] at h5
              rcases h5.2 with h | h <;> cases h
            | some d =>
              have := (List.getElem?_eq_some_iff.mp hd).1
              rw [drop_get hd] at hu1 h5
              have ed2 : d.toNat < 128 := by
                rcases h5.2 with h | h <;> (have := List.cons.inj h; rw [this.1]; decide)
              rw [utf8_ascii ed2] at hu1
              exact ⟨by omega, by omega, hu1⟩
          · unfold rpL6 at h
            split at h
            · rename_i x hw
              have := Prod.mk.inj (Option.some.inj h)
              obtain rfl := this.2
              have key : ∀ y : Str × Str, y ∈ WORDP → begI (bi b) i y.1 = true → 1 ≤ y.1.length ∧ i + y.1.length ≤ b.length ∧ ∀ z ∈ (b.drop i).take y.1.length, z.toNat < 128 := by
                intro y hy hbeg
                unfold begI at hbeg
                have hbeg := of_decide_eq_true hbeg
                have e1 : ((bi b).drop i).take y.1.length = bi ((b.drop i).take y.1.length) := by
                  unfold bi
                  rw [List.map_take, List.map_drop]
                rw [e1] at hbeg
                have facts : ∀ y ∈ WORDP, 1 ≤ y.1.length ∧ (codesI y.1).length = y.1.length ∧ ∀ n ∈ codesI y.1, n < 128 := by decide +kernel
                obtain ⟨f1, f2, f3⟩ := facts y hy
                have hlen : ((b.drop i).take y.1.length).length = y.1.length := by
                  have := congrArg List.length hbeg
                  rw [List.length_map, bi_length, f2] at this
                  exact this
                rw [List.length_take, List.length_drop] at hlen
                refine ⟨f1, by omega, fun z hz => ?_⟩
                have hm : lowI (z.toNat : Int) ∈ codesI y.1 := by
                  rw [← hbeg]
                  exact List.mem_map_of_mem (List.mem_map_of_mem hz)
                have := f3 _ hm
                rw [low_lower] at this
                exact lower_plain (by omega)
              have hx : ∃ y ∈ WORDP, begI (bi b) i y.1 = true ∧ x.2 = y.1.length := by
                have gen : ∀ l : List (Str × Str), (∀ y ∈ l, y ∈ WORDP) → wordL l b i = some x → ∃ y ∈ WORDP, begI (bi b) i y.1 = true ∧ x.2 = y.1.length := by
                  intro l
                  induction l with
                  | nil => intro _ h; cases h
                  | cons y l ih =>
                    intro hl h
                    rw [wordL_cons] at h
                    split at h
                    · rename_i hb
                      refine ⟨y, hl y List.mem_cons_self, hb, ?_⟩
                      rw [← Option.some.inj h]
                    · exact ih (fun z hz => hl z (List.mem_cons_of_mem _ hz)) h
                exact gen WORDP (fun _ h => h) hw
              obtain ⟨y, hy, hb, ey⟩ := hx
              obtain ⟨g1, g2, g3⟩ := key y hy hb
              rw [ey]
              refine ⟨g1, g2, ?_⟩
              have := utf8_plain y.1.length (b.drop i) (by rw [List.length_drop]; omega) g3 hu
              rw [List.drop_drop] at this
              exact this
            · unfold rpL7 at h
              split at h
              · rename_i m hm
                have := Prod.mk.inj (Option.some.inj h)
                obtain rfl := this.2
                have hrow : ∀ z ∈ (b.drop i).take (rowN b i (lower c)), z.toNat < 128 := fun z hz => by
                  unfold rowN at hz
                  rw [(List.prefix_iff_eq_take.mp (List.takeWhile_prefix (fun x => lower x == lower c) (l := b.drop i))).symm] at hz
                  have e : lower z = lower c := by simpa using tw_mem hz
                  refine lower_plain ?_
                  rw [e]
                  unfold longest at hm
                  repeat' split at hm
                  all_goals first
                    | cases hm; done
                    | (rename_i e; rw [e]; decide)
                have hr1 : 1 ≤ rowN b i (lower c) := by
                  unfold rowN
                  rw [ed, List.takeWhile_cons, if_pos (by simp), List.length_cons]
                  omega
                have hr2 : rowN b i (lower c) ≤ (b.drop i).length := (List.takeWhile_prefix _).length_le
                have hu1 := utf8_plain _ (b.drop i) hr2 hrow hu
                rw [List.drop_drop] at hu1
                rw [List.length_drop] at hr2
                obtain ⟨d1, d2⟩ := utf8_dec (l := lower c) hu1
                rw [List.length_drop] at d1
                rw [List.drop_drop] at d2
                refine ⟨by omega, by omega, ?_⟩
                rw [← Nat.add_assoc]
                exact d2
              · unfold rp8 at h
                split at h
                · have := Prod.mk.inj (Option.some.inj h)
                  obtain rfl := this.2
                  rw [ed] at hu
                  obtain ⟨g1, g2, g3⟩ := utf8_char hu
                  rw [List.length_drop] at g2
                  rw [← ed, List.drop_drop] at g3
                  exact ⟨g1, by omega, g3⟩
                · cases h
def p1L (b : Bytes) : Nat → Nat → Option (List Pc × Option Nat)
  | 0, _ => none
  | f + 1, i => match b[i]? with
    | none => some ([], none)
    | some c => if c = 59 then some ([], some (i + 1)) else (rpL b i c).bind fun x => (p1L b f (i + x.2)).map fun y => (x.1 :: y.1, y.2)
def ppL (b : Bytes) : Nat → Nat → Option (List (List Pc))
  | 0, _ => none
  | f + 1, i => match b[i]? with
    | none => some [[]]
    | some c => if c = 59 then (ppL b f (i + 1)).map fun l => [] :: l else (rpL b i c).bind fun x => (ppL b f (i + x.2)).map fun l => l.modifyHead fun t => x.1 :: t
def addL (s : Sv68.Section) : List Pc → Option Sv68.Section
  | [] => some s
  | p :: r => (addP s p).bind fun s' => addL s' r
theorem pieces_p1 {b : Bytes} : ∀ (f i : Nat) (s : Sv68.Section), i ≤ b.length → Wbk.utf8 (b.drop i) = true →
    Sv68.pieces f s (b.drop i) = (p1L b f i).bind fun y => (addL s y.1).map fun s' => (s', y.2.map fun j => b.drop j)
  | 0, i, s, _, _ => by rw [Sv68.pieces, p1L]; rfl
  | f + 1, i, s, hi, hu => by
    rw [p1L]
    cases hc : b[i]? with
    | none =>
      have e : b.drop i = [] := List.drop_of_length_le (List.getElem?_eq_none_iff.mp hc)
      rw [e, Sv68.pieces]
      rfl
    | some c =>
      dsimp only
      by_cases h59 : c = 59
      · rw [if_pos h59, drop_get hc, Sv68.pieces]
        dsimp only
        rw [if_pos h59]
        rfl
      · rw [if_neg h59, pieces_step hc h59 hu]
        cases hx : rpL b i c with
        | none => rfl
        | some x =>
          obtain ⟨p, n⟩ := x
          obtain ⟨g1, g2, g3⟩ := rpL_on hc hu hx
          dsimp only [Option.bind_some]
          have ih := fun s' => pieces_p1 f (i + n) s' g2 g3
          cases hp : p1L b f (i + n) with
          | none =>
            rw [hp] at ih
            cases addP s p with
            | none => rfl
            | some s' => exact ih s'
          | some y =>
            rw [hp] at ih
            show _ = (Option.map _ ((addP s p).bind fun s' => addL s' y.1))
            cases addP s p with
            | none => rfl
            | some s' => exact ih s'
theorem p1L_on {b : Bytes} : ∀ {f i : Nat} {y : List Pc × Option Nat}, i ≤ b.length → Wbk.utf8 (b.drop i) = true → p1L b f i = some y → ∀ j, y.2 = some j → i < j ∧ j ≤ b.length ∧ Wbk.utf8 (b.drop j) = true
  | 0, i, y, _, _, h => by cases h
  | f + 1, i, y, hi, hu, h => by
    rw [p1L] at h
    cases hc : b[i]? with
    | none =>
      rw [hc] at h
      rw [← Option.some.inj h]
      intro j e
      cases e
    | some c =>
      rw [hc] at h
      dsimp only at h
      have hil := (List.getElem?_eq_some_iff.mp hc).1
      split at h
      · rename_i h59
        rw [← Option.some.inj h]
        intro j e
        have e : i + 1 = j := Option.some.inj e
        subst e
        refine ⟨by omega, hil, ?_⟩
        rw [drop_get hc, utf8_ascii (by rw [h59]; decide)] at hu
        exact hu
      · obtain ⟨x, hx, h⟩ := Option.bind_eq_some_iff.mp h
        obtain ⟨z, hz, e⟩ := Option.map_eq_some_iff.mp h
        obtain ⟨g1, g2, g3⟩ := rpL_on hc hu (p := x.1) (n := x.2) hx
        rw [← e]
        intro j ej
        have := p1L_on g2 g3 hz j ej
        exact ⟨by omega, this.2⟩
theorem ppL_fuel {b : Bytes} : ∀ (f f' i : Nat), i ≤ b.length → Wbk.utf8 (b.drop i) = true → b.length - i + 1 ≤ f → b.length - i + 1 ≤ f' → ppL b f i = ppL b f' i
  | 0, f', i, hi, hu, h, h' => by omega
  | f + 1, 0, i, hi, hu, h, h' => by omega
  | f + 1, f' + 1, i, hi, hu, h, h' => by
    rw [ppL, ppL]
    cases hc : b[i]? with
    | none => rfl
    | some c =>
      have hil := (List.getElem?_eq_some_iff.mp hc).1
      dsimp only
      split
      · rename_i e
        have hu1 : Wbk.utf8 (b.drop (i + 1)) = true := by
          rw [drop_get hc, utf8_ascii (by rw [e]; decide)] at hu
          exact hu
        rw [ppL_fuel f f' (i + 1) hil hu1 (by omega) (by omega)]
      · cases hx : rpL b i c with
        | none => rfl
        | some x =>
          obtain ⟨p, n⟩ := x
          obtain ⟨g1, g2, g3⟩ := rpL_on hc hu hx
          show (ppL b f (i + n)).map _ = (ppL b f' (i + n)).map _
          rw [ppL_fuel f f' (i + n) g2 g3 (by omega) (by omega)]
theorem ppL_p1 {b : Bytes} : ∀ (f i : Nat), i ≤ b.length → Wbk.utf8 (b.drop i) = true → b.length - i + 1 ≤ f →
    ppL b f i = (p1L b f i).bind fun y => match y.2 with
      | none => some [y.1]
      | some j => (ppL b (b.length - j + 1) j).map fun l => y.1 :: l
  | 0, i, _, _, h => by omega
  | f + 1, i, hi, hu, h => by
    rw [ppL, p1L]
    cases hc : b[i]? with
    | none => rfl
    | some c =>
      have hil := (List.getElem?_eq_some_iff.mp hc).1
      dsimp only
      split
      · rename_i e
        have hu1 : Wbk.utf8 (b.drop (i + 1)) = true := by
          rw [drop_get hc, utf8_ascii (by rw [e]; decide)] at hu
          exact hu
        show (ppL b f (i + 1)).map _ = (ppL b (b.length - (i + 1) + 1) (i + 1)).map _
        rw [ppL_fuel f (b.length - (i + 1) + 1) (i + 1) hil hu1 (by omega) (by omega)]
      · cases hx : rpL b i c with
        | none => rfl
        | some x =>
          obtain ⟨p, n⟩ := x
          obtain ⟨g1, g2, g3⟩ := rpL_on hc hu hx
          show (ppL b f (i + n)).map _ = ((p1L b f (i + n)).map _).bind _
          rw [ppL_p1 f (i + n) g2 g3 (by omega)]
          cases p1L b f (i + n) with
          | none => rfl
          | some y =>
            obtain ⟨y1, y2⟩ := y
            cases y2 with
            | none => rfl
            | some j =>
              show Option.map _ ((ppL b (b.length - j + 1) j).map _) = (ppL b (b.length - j + 1) j).map _
              rw [Option.map_map]
              rfl
def mapS : List (List Pc) → Option Sv68.Picture
  | [] => some []
  | x :: r => (addL ⟨0, none, []⟩ x).bind fun s => (mapS r).map fun l => s :: l
theorem ppL_ne {b : Bytes} {f i : Nat} (hi : i ≤ b.length) (hu : Wbk.utf8 (b.drop i) = true) (hf : b.length - i + 1 ≤ f) {l : List (List Pc)} (h : ppL b f i = some l) : l ≠ [] := by
  rw [ppL_p1 f i hi hu hf] at h
  obtain ⟨y, _, h⟩ := Option.bind_eq_some_iff.mp h
  split at h
  · rw [← Option.some.inj h]; simp
  · obtain ⟨z, _, e⟩ := Option.map_eq_some_iff.mp h
    rw [← e]; simp
theorem sections_pp {b : Bytes} : ∀ (k i : Nat), i ≤ b.length → Wbk.utf8 (b.drop i) = true →
    Sv68.sections k (b.drop i) = (ppL b (b.length - i + 1) i).bind fun ls => if ls.length ≤ k then mapS ls else none
  | 0, i, hi, hu => by
    rw [Sv68.sections]
    cases h : ppL b (b.length - i + 1) i with
    | none => rfl
    | some ls =>
      have := ppL_ne hi hu (Nat.le_refl _) h
      rw [Option.bind_some, if_neg]
      intro z
      exact this (List.length_eq_zero_iff.mp (by omega))
  | k + 1, i, hi, hu => by
    rw [Sv68.sections, List.length_drop, pieces_p1 _ i _ hi hu, ppL_p1 _ i hi hu (Nat.le_refl _)]
    cases hp : p1L b (b.length - i + 1) i with
    | none => rfl
    | some y =>
      have on := p1L_on hi hu hp
      obtain ⟨y1, y2⟩ := y
      dsimp only [Option.bind_some]
      cases y2 with
      | none =>
        dsimp only [Option.bind_some, Option.map_none]
        rw [if_pos (by simp)]
        show _ = (addL ⟨0, none, []⟩ y1).bind fun s => some [s]
        cases addL ⟨0, none, []⟩ y1 <;> rfl
      | some j =>
        obtain ⟨g1, g2, g3⟩ := on j rfl
        dsimp only [Option.map_some]
        have ih := sections_pp k j g2 g3
        cases hl : ppL b (b.length - j + 1) j with
        | none =>
          rw [hl] at ih
          cases addL ⟨0, none, []⟩ y1 with
          | none => rfl
          | some s =>
            show (Sv68.sections k (b.drop j)).map _ = none
            rw [ih]
            rfl
        | some ls =>
          rw [hl] at ih
          dsimp only [Option.map_some, Option.bind_some]
          rw [List.length_cons]
          cases ha : addL ⟨0, none, []⟩ y1 with
          | none =>
            show none = if _ then mapS (y1 :: ls) else none
            rw [mapS, ha]
            split <;> rfl
          | some s =>
            show (Sv68.sections k (b.drop j)).map _ = _
            rw [ih, Option.bind_some, mapS, ha]
            by_cases hk : ls.length ≤ k
            · rw [if_pos hk, if_pos (by omega)]
              rfl
            · rw [if_neg hk, if_neg (by omega)]
              rfl
theorem ppL_ne' {b : Bytes} : ∀ {f i : Nat} {l : List (List Pc)}, ppL b f i = some l → l ≠ []
  | 0, _, _, h => by cases h
  | f + 1, i, l, h => by
    rw [ppL] at h
    split at h
    · rw [← Option.some.inj h]; simp
    · split at h
      · obtain ⟨x, _, e⟩ := Option.map_eq_some_iff.mp h
        rw [← e]; simp
      · obtain ⟨x, _, h⟩ := Option.bind_eq_some_iff.mp h
        obtain ⟨y, hy, e⟩ := Option.map_eq_some_iff.mp h
        have := ppL_ne' hy
        rw [← e]
        cases y with
        | nil => exact (this rfl).elim
        | cons _ _ => simp
theorem ppF_ppL {b : Bytes} : ∀ f i, ppF b f i = (ppL b f i).bind fun ls => if ls.all (fun ps => ps.all okRow) = true then some ls else none
  | 0, i => rfl
  | f + 1, i => by
    rw [ppF, ppL]
    cases b[i]? with
    | none => rfl
    | some c =>
      dsimp only
      split
      · rw [ppF_ppL f (i + 1)]
        cases ppL b f (i + 1) with
        | none => rfl
        | some l =>
          show Option.map _ (if _ then some l else none) = if ([] :: l).all (fun ps => ps.all okRow) = true then some ([] :: l) else none
          rw [List.all_cons, List.all_nil, Bool.true_and]
          split <;> rfl
      · rw [rp_rpL]
        cases rpL b i c with
        | none => rfl
        | some x =>
          dsimp only [Option.bind_some]
          have ih := ppF_ppL (b := b) f (i + x.2)
          by_cases h : okRow x.1 = true
          · rw [if_pos h, Option.bind_some, ih]
            cases ppL b f (i + x.2) with
            | none => rfl
            | some l =>
              show Option.map _ (if _ then some l else none) = if (l.modifyHead fun t => x.1 :: t).all (fun ps => ps.all okRow) = true then some _ else none
              have e : (l.modifyHead fun t => x.1 :: t).all (fun ps => ps.all okRow) = l.all (fun ps => ps.all okRow) := by
                cases l with
                | nil => rfl
                | cons t r => simp [h]
              rw [e]
              split <;> rfl
          · rw [if_neg h, Option.bind_none]
            cases hl : ppL b f (i + x.2) with
            | none => rfl
            | some l =>
              cases l with
              | nil => exact (ppL_ne' hl rfl).elim
              | cons t r =>
                show none = if ((x.1 :: t) :: r).all (fun ps => ps.all okRow) = true then _ else none
                rw [List.all_cons, List.all_cons, Bool.eq_false_iff.mpr h]
                rfl
end NP
end
section
set_option Elab.async false
set_option linter.all false
set_option maxRecDepth 100000
set_option maxHeartbeats 4000000
namespace NP
open PySem PySem.Spec PyProof.Rows L2
open Sv68 (isDigit lower tenths)
def Good (p : Pc) : Prop := Named p ∧ match p with
  | .colour k => 1 ≤ k
  | .part l _ _ => (longest l).isSome = true
  | _ => True
theorem rpL_good {b : Bytes} {i n : Nat} {c : UInt8} {p : Pc} (h : rpL b i c = some (p, n)) : Good p := by
  unfold rpL at h
  split at h
  · split at h
    · cases h
    · rw [← (Prod.mk.inj (Option.some.inj h)).1]; exact ⟨trivial, trivial⟩
  unfold rpL2 at h
  split at h
  · cases hd : b[i + 1]? with
    | none => rw [hd] at h; cases h
    | some d =>
      rw [hd] at h
      rw [← (Prod.mk.inj (Option.some.inj h)).1]; exact ⟨trivial, trivial⟩
  unfold rpL3 at h
  split at h
  · unfold brk at h
    split at h
    · cases h
    · unfold brkI at h
      split at h
      · rename_i hk
        rw [← (Prod.mk.inj (Option.some.inj h)).1]; exact ⟨trivial, hk⟩
      · split at h
        · rw [← (Prod.mk.inj (Option.some.inj h)).1]; exact ⟨trivial, trivial⟩
        · split at h
          · rw [← (Prod.mk.inj (Option.some.inj h)).1]; exact ⟨trivial, trivial⟩
          · cases h
  unfold rpL4 at h
  split at h
  · rename_i nm hs
    rw [← (Prod.mk.inj (Option.some.inj h)).1]
    exact ⟨sign_named hs, trivial⟩
  unfold rpL5 at h
  split at h
  · rw [← (Prod.mk.inj (Option.some.inj h)).1]; exact ⟨trivial, trivial⟩
  unfold rpL6 at h
  split at h
  · rename_i x hw
    rw [← (Prod.mk.inj (Option.some.inj h)).1]
    refine ⟨?_, trivial⟩
    show x.1 = nGeneral ∨ x.1 = nNoon
    have gen : ∀ l : List (Str × Str), (∀ y ∈ l, y.2 = nGeneral ∨ y.2 = nNoon) → wordL l b i = some x → x.1 = nGeneral ∨ x.1 = nNoon := by
      intro l
      induction l with
      | nil => intro _ h; cases h
      | cons y l ih =>
        intro hl h
        rw [wordL_cons] at h
        split at h
        · rw [← Option.some.inj h]
          exact hl y List.mem_cons_self
        · exact ih (fun z hz => hl z (List.mem_cons_of_mem _ hz)) h
    exact gen WORDP (by decide +kernel) hw
  unfold rpL7 at h
  split at h
  · rename_i m hm
    rw [← (Prod.mk.inj (Option.some.inj h)).1]; exact ⟨trivial, by show (longest (lower c)).isSome = true; rw [hm]; rfl⟩
  · unfold rp8 at h
    split at h
    · rw [← (Prod.mk.inj (Option.some.inj h)).1]; exact ⟨trivial, trivial⟩
    · cases h
theorem ppL_good {b : Bytes} : ∀ {f i : Nat} {l : List (List Pc)}, ppL b f i = some l → ∀ ps ∈ l, ∀ p ∈ ps, Good p
  | 0, _, _, h => by cases h
  | f + 1, i, l, h => by
    rw [ppL] at h
    split at h
    · rw [← Option.some.inj h]
      intro ps hps
      rw [List.mem_singleton.mp hps]
      intro p hp
      cases hp
    · split at h
      · obtain ⟨x, hx, e⟩ := Option.map_eq_some_iff.mp h
        rw [← e]
        intro ps hps
        rcases List.mem_cons.mp hps with e | hps
        · rw [e]; intro p hp; cases hp
        · exact ppL_good hx ps hps
      · obtain ⟨x, hx, h⟩ := Option.bind_eq_some_iff.mp h
        obtain ⟨y, hy, e⟩ := Option.map_eq_some_iff.mp h
        rw [← e]
        have ih := ppL_good hy
        cases y with
        | nil => intro ps hps; cases hps
        | cons t r =>
          intro ps hps
          rcases List.mem_cons.mp hps with e | hps
          · rw [e]
            intro p hp
            rcases List.mem_cons.mp hp with e | hp
            · rw [e]; exact rpL_good hx
            · exact ih t List.mem_cons_self p hp
          · exact ih ps (List.mem_cons_of_mem _ hps)
def toPo : Pc → Option Sv68.Piece
  | .colour _ => none
  | .condition _ _ => none
  | p => some (toP p)
theorem addL_eq : ∀ (ps : List Pc) (s : Sv68.Section), (∀ p ∈ ps, Good p) → addL s ps = if (ps.filterMap colOf).length + (if s.colour = 0 then 0 else 1) ≤ 1 ∧ (ps.filterMap condOf).length + (if s.condition.isNone = true then 0 else 1) ≤ 1 then
    some ⟨s.colour + (ps.filterMap colOf).sum, s.condition.or ((ps.filterMap condOf).head?.map fun x => (opN x.1, x.2)), s.pieces ++ ps.filterMap toPo⟩ else none
  | [], s, _ => by
    rw [addL, if_pos (by constructor <;> (simp; split <;> omega))]
    simp
  | p :: ps, s, h => by
    have ih := fun s' => addL_eq ps s' fun q hq => h q (List.mem_cons_of_mem _ hq)
    have plain : colOf p = none → condOf p = none → addP s p = some { s with pieces := s.pieces ++ [toP p] } → toPo p = some (toP p) → _ := fun h1 h2 h3 h4 => show addL s (p :: ps) = if ((p :: ps).filterMap colOf).length + (if s.colour = 0 then 0 else 1) ≤ 1 ∧ ((p :: ps).filterMap condOf).length + (if s.condition.isNone = true then 0 else 1) ≤ 1 then
        some ⟨s.colour + ((p :: ps).filterMap colOf).sum, s.condition.or (((p :: ps).filterMap condOf).head?.map fun x => (opN x.1, x.2)), s.pieces ++ (p :: ps).filterMap toPo⟩ else none by
      rw [addL, h3, Option.bind_some, ih, List.filterMap_cons, List.filterMap_cons, List.filterMap_cons, h1, h2, h4]
      dsimp only
      rw [List.append_assoc]
      rfl
    cases p with
    | colour k =>
      have hk : 1 ≤ k := (h (.colour k) List.mem_cons_self).2
      rw [addL, List.filterMap_cons, List.filterMap_cons, List.filterMap_cons]
      show (if s.colour = 0 then some { s with colour := k } else none).bind _ = _
      dsimp only [colOf, condOf, toPo]
      by_cases h0 : s.colour = 0
      · rw [if_pos h0, Option.bind_some, ih]
        have ek : (if k = 0 then (0 : Nat) else 1) = 1 := if_neg (by omega)
        have k0 : k ≠ 0 := by omega
        simp [h0, k0]
      · simp [h0]
    | condition z x =>
      rw [addL, List.filterMap_cons, List.filterMap_cons, List.filterMap_cons]
      show (if s.condition.isNone = true then some { s with condition := some (opN z, x) } else none).bind _ = _
      dsimp only [colOf, condOf, toPo]
      by_cases h0 : s.condition.isNone = true
      · rw [if_pos h0, Option.bind_some, ih]
        dsimp only
        have e0 : s.condition = none := Option.isNone_iff_eq_none.mp h0
        rw [e0]
        simp
      · have h1 : s.condition.isNone = false := Bool.eq_false_iff.mpr h0
        simp [h1]
    | text b => exact plain rfl rfl rfl rfl
    | sign nm c => exact plain rfl rfl rfl rfl
    | exponent c => exact plain rfl rfl rfl rfl
    | word nm n => exact plain rfl rfl rfl rfl
    | part l n d => exact plain rfl rfl rfl rfl
    | passed l n d => exact plain rfl rfl rfl rfl
def isPower : Sv68.Piece → Bool
  | .power _ => true
  | _ => false
theorem sign_toP {nm : Str} {c : UInt8} (h : Named (.sign nm c)) : (nm = nPlace ∧ toP (.sign nm c) = .place c) ∨ (nm = nPoint ∧ toP (.sign nm c) = .point) ∨ (nm = nComma ∧ toP (.sign nm c) = .comma) ∨ (nm = nPercent ∧ toP (.sign nm c) = .percent) ∨ (nm = nAt ∧ toP (.sign nm c) = .itself) := by
  have h : nm = nPlace ∨ nm = nPoint ∨ nm = nComma ∨ nm = nPercent ∨ nm = nAt := h
  have n1 : nPoint ≠ nPlace := by decide +kernel
  have n2 : nComma ≠ nPlace ∧ nComma ≠ nPoint := by decide +kernel
  have n3 : nPercent ≠ nPlace ∧ nPercent ≠ nPoint ∧ nPercent ≠ nComma := by decide +kernel
  have n4 : nAt ≠ nPlace ∧ nAt ≠ nPoint ∧ nAt ≠ nComma ∧ nAt ≠ nPercent := by decide +kernel
  unfold toP
  dsimp only
  rcases h with e | e | e | e | e
  · exact .inl ⟨e, if_pos e⟩
  · exact .inr (.inl ⟨e, by rw [e, if_neg n1, if_pos rfl]⟩)
  · exact .inr (.inr (.inl ⟨e, by rw [e, if_neg n2.1, if_neg n2.2, if_pos rfl]⟩))
  · exact .inr (.inr (.inr (.inl ⟨e, by rw [e, if_neg n3.1, if_neg n3.2.1, if_neg n3.2.2, if_pos rfl]⟩)))
  · exact .inr (.inr (.inr (.inr ⟨e, by rw [e, if_neg n4.1, if_neg n4.2.1, if_neg n4.2.2.1, if_neg n4.2.2.2]⟩)))
structure Facts (p : Pc) (q : Sv68.Piece) : Prop where
  text : Sv68.isText q = decide (p.name = nText)
  at_ : (q == Sv68.Piece.itself) = decide (p.name = nAt)
  general : (q == Sv68.Piece.general) = decide (p.name = nGeneral)
  clock : Sv68.isClock q = decide (p.name ∈ DAYS3)
  digits : Sv68.isDigits q = decide (p.name ∈ DIGS5)
  place : Sv68.isPlace q = decide (p.name = nPlace)
  point : (q == Sv68.Piece.point) = decide (p.name = nPoint)
  comma : (q == Sv68.Piece.comma) = decide (p.name = nComma)
  percent : (q == Sv68.Piece.percent) = decide (p.name = nPercent)
  power : isPower q = decide (p.name = nExponent)
  zero : (q == Sv68.Piece.place 48) = isZero p
  cc : notCC p = true
  free : decide (p.name ∈ FREES) = decide (p.name = nText)
theorem facts {p : Pc} {q : Sv68.Piece} (hg : Good p) (h : toPo p = some q) : Facts p q := by
  cases p with
  | colour k => cases h
  | condition z x => cases h
  | text b =>
    obtain rfl := Option.some.inj h
    constructor <;> first | rfl | (show _ = _; decide +kernel)
  | exponent c =>
    obtain rfl := Option.some.inj h
    constructor <;> first | rfl | (show _ = _; decide +kernel)
  | part l n d =>
    obtain rfl := Option.some.inj h
    constructor <;> first | rfl | (show _ = _; decide +kernel)
  | passed l n d =>
    obtain rfl := Option.some.inj h
    constructor <;> first | rfl | (show _ = _; decide +kernel)
  | word nm n =>
    obtain rfl := Option.some.inj h
    have hn : nm = nGeneral ∨ nm = nNoon := hg.1
    rcases hn with rfl | rfl
    · constructor <;> first | rfl | (show _ = _; decide +kernel)
    · constructor <;> first | rfl | (show _ = _; decide +kernel)
  | sign nm c =>
    obtain rfl := Option.some.inj h
    rcases sign_toP hg.1 with ⟨rfl, e⟩ | ⟨rfl, e⟩ | ⟨rfl, e⟩ | ⟨rfl, e⟩ | ⟨rfl, e⟩
    · rw [e]
      constructor <;> first | rfl | (show _ = _; decide +kernel) | skip
      show (Sv68.Piece.place c == Sv68.Piece.place 48) = (decide (nPlace = nPlace) && decide (c = 48))
      rw [Bool.eq_iff_iff]
      simp
    · rw [e]
      constructor <;> first | rfl | (show _ = _; decide +kernel)
    · rw [e]
      constructor <;> first | rfl | (show _ = _; decide +kernel)
    · rw [e]
      constructor <;> first | rfl | (show _ = _; decide +kernel)
    · rw [e]
      constructor <;> first | rfl | (show _ = _; decide +kernel)
end NP
end
section
set_option Elab.async false
set_option linter.all false
set_option maxRecDepth 100000
set_option maxHeartbeats 4000000
namespace NP
open PySem PySem.Spec PyProof.Rows L2
open Sv68 (isDigit lower tenths)
theorem toPo_none {p : Pc} (h : toPo p = none) : (p.name = nColour ∨ p.name = nCondition) ∧ notCC p = false ∧ decide (p.name ∈ FREES) = true ∧ okRow p = true := by
  cases p with
  | colour k => exact ⟨.inl rfl, by show (!decide (nColour = nColour) && !decide (nColour = nCondition)) = false; decide +kernel, by show decide (nColour ∈ FREES) = true; decide +kernel, rfl⟩
  | condition z x => exact ⟨.inr rfl, by show (!decide (nCondition = nColour) && !decide (nCondition = nCondition)) = false; decide +kernel, by show decide (nCondition ∈ FREES) = true; decide +kernel, rfl⟩
  | _ => cases h
section
variable {ps : List Pc}
abbrev lp (ps : List Pc) : List Sv68.Piece := ps.filterMap toPo
theorem lp_cons (p : Pc) (ps : List Pc) : lp (p :: ps) = match toPo p with
    | none => lp ps
    | some q => q :: lp ps := by
  unfold lp
  rw [List.filterMap_cons]
  cases toPo p <;> rfl
theorem lp_all {f : Sv68.Piece → Bool} {g : Str → Bool} (hf : ∀ p q, Good p → toPo p = some q → f q = g p.name) : ∀ {ps : List Pc}, (∀ p ∈ ps, Good p) → (lp ps).all (fun q => Sv68.isText q || f q) = (kindNames ps).all g
  | [], _ => rfl
  | p :: ps, h => by
    have ih := lp_all hf (ps := ps) fun q hq => h q (List.mem_cons_of_mem _ hq)
    have hp := h p List.mem_cons_self
    rw [lp_cons]
    unfold kindNames at ih ⊢
    rw [List.map_cons, List.filter_cons]
    cases ht : toPo p with
    | none =>
      rw [(toPo_none ht).2.2.1]
      exact ih
    | some q =>
      have F := facts hp ht
      dsimp only
      rw [List.all_cons, F.text, F.free, hf p q hp ht, ih]
      by_cases e : p.name = nText
      · rw [decide_eq_true e]
        rfl
      · rw [decide_eq_false e]
        rfl
theorem lp_count {f : Sv68.Piece → Bool} {x : Str} (hx : x ≠ nColour ∧ x ≠ nCondition) (hf : ∀ p q, Good p → toPo p = some q → f q = decide (p.name = x)) : ∀ {ps : List Pc}, (∀ p ∈ ps, Good p) → ((lp ps).filter f).length = (ps.map Pc.name).count x
  | [], _ => rfl
  | p :: ps, h => by
    have ih := lp_count hx hf (ps := ps) fun q hq => h q (List.mem_cons_of_mem _ hq)
    have hp := h p List.mem_cons_self
    rw [lp_cons, List.map_cons, List.count_cons]
    cases ht : toPo p with
    | none =>
      have hn : p.name ≠ x := fun e => by
        rcases (toPo_none ht).1 with z | z
        · exact hx.1 (e.symm.trans z)
        · exact hx.2 (e.symm.trans z)
      dsimp only
      rw [ih, if_neg (by simpa using hn)]
      rfl
    | some q =>
      dsimp only
      rw [List.filter_cons, hf p q hp ht]
      by_cases e : p.name = x
      · rw [decide_eq_true e, if_pos rfl, List.length_cons, ih, if_pos (by simpa using e)]
      · rw [decide_eq_false e, if_neg (by simp), ih, if_neg (by simpa using e)]
        rfl
theorem lp_take {f : Sv68.Piece → Bool} {g : Pc → Bool} (hf : ∀ p q, Good p → toPo p = some q → f q = g p) (hn : ∀ p, toPo p = none → g p = true) : ∀ {ps : List Pc}, (∀ p ∈ ps, Good p) → (lp ps).takeWhile f = lp (ps.takeWhile g) ∧ (lp ps).dropWhile f = lp (ps.dropWhile g)
  | [], _ => ⟨rfl, rfl⟩
  | p :: ps, h => by
    have ih := lp_take hf hn (ps := ps) fun q hq => h q (List.mem_cons_of_mem _ hq)
    have hp := h p List.mem_cons_self
    rw [lp_cons, List.takeWhile_cons, List.dropWhile_cons]
    cases ht : toPo p with
    | none =>
      dsimp only
      rw [hn p ht, if_pos rfl, if_pos rfl, lp_cons, ht]
      exact ih
    | some q =>
      dsimp only
      rw [List.takeWhile_cons, List.dropWhile_cons, hf p q hp ht]
      cases g p with
      | true =>
        rw [if_pos rfl, if_pos rfl, if_pos rfl, if_pos rfl, lp_cons, ht]
        exact ⟨by rw [ih.1], ih.2⟩
      | false =>
        simp only [Bool.false_eq_true, if_false]
        exact ⟨rfl, by rw [lp_cons, ht]⟩
theorem drop_tw {α : Type} (l : List α) (p : α → Bool) : l.drop (l.takeWhile p).length = l.dropWhile p := by
  have e := List.takeWhile_append_dropWhile (p := p) (l := l)
  have := List.drop_left (l₁ := l.takeWhile p) (l₂ := l.dropWhile p)
  rw [e] at this
  exact this
def notPoint (p : Pc) : Bool := !decide (p.name = nPoint)
def notExp (p : Pc) : Bool := !decide (p.name = nExponent)
theorem map_tw {x : Str} : ∀ ps : List Pc, (ps.map Pc.name).takeWhile (fun y => !decide (y = x)) = (ps.takeWhile fun p => !decide (p.name = x)).map Pc.name ∧ (ps.map Pc.name).dropWhile (fun y => !decide (y = x)) = (ps.dropWhile fun p => !decide (p.name = x)).map Pc.name
  | [] => ⟨rfl, rfl⟩
  | p :: ps => by
    have ih := map_tw (x := x) ps
    rw [List.map_cons, List.takeWhile_cons, List.dropWhile_cons, List.takeWhile_cons, List.dropWhile_cons]
    by_cases h : p.name = x
    · simp [h]
    · simp [h, ih.1, ih.2]
theorem count_pos {x : Str} {l : List Str} : (1 ≤ l.count x) ↔ x ∈ l := List.count_pos_iff
theorem count_zero {x : Str} {l : List Str} : l.count x = 0 ↔ ¬ x ∈ l := List.count_eq_zero
variable {ps : List Pc}
theorem cnt_place (h : ∀ p ∈ ps, Good p) : Sv68.count (lp ps) Sv68.isPlace = (ps.map Pc.name).count nPlace := lp_count (by decide +kernel) (fun p q hp hq => (facts hp hq).place) h
theorem cnt_point (h : ∀ p ∈ ps, Good p) : Sv68.count (lp ps) (fun p => p == .point) = (ps.map Pc.name).count nPoint := lp_count (by decide +kernel) (fun p q hp hq => (facts hp hq).point) h
theorem cnt_comma (h : ∀ p ∈ ps, Good p) : Sv68.count (lp ps) (fun p => p == .comma) = (ps.map Pc.name).count nComma := lp_count (by decide +kernel) (fun p q hp hq => (facts hp hq).comma) h
theorem cnt_percent (h : ∀ p ∈ ps, Good p) : Sv68.count (lp ps) (fun p => p == .percent) = (ps.map Pc.name).count nPercent := lp_count (by decide +kernel) (fun p q hp hq => (facts hp hq).percent) h
theorem cnt_power (h : ∀ p ∈ ps, Good p) : ((lp ps).filter isPower).length = (ps.map Pc.name).count nExponent := lp_count (by decide +kernel) (fun p q hp hq => (facts hp hq).power) h
theorem all_comma (h : ∀ p ∈ ps, Good p) : (lp ps).all (fun p => p != .comma) = !decide (nComma ∈ ps.map Pc.name) := by
  rw [Bool.eq_iff_iff]
  have c := cnt_comma h
  unfold Sv68.count at c
  rw [Bool.not_eq_true', decide_eq_false_iff_not, ← count_zero, ← c, List.length_eq_zero_iff, List.filter_eq_nil_iff, List.all_eq_true]
  simp
theorem pre_place {l : List Sv68.Piece} (hh : l.head? = none ∨ l.head? = some .point) : Sv68.count (l.drop 1) Sv68.isPlace = Sv68.count l Sv68.isPlace ∧ (l.drop 1).all (fun p => p != .comma) = l.all (fun p => p != .comma) := by
  cases l with
  | nil => exact ⟨rfl, rfl⟩
  | cons q l =>
    rcases hh with e | e
    · cases e
    · obtain rfl := Option.some.inj e
      exact ⟨rfl, rfl⟩
theorem dw_head {g : Pc → Bool} {x : Str} (hg : ∀ p, g p = !decide (p.name = x)) : ∀ ps : List Pc, (ps.dropWhile g) = [] ∨ ∃ p r, ps.dropWhile g = p :: r ∧ p.name = x
  | [] => .inl rfl
  | p :: ps => by
    rw [List.dropWhile_cons]
    by_cases h : p.name = x
    · rw [if_neg (by rw [hg, h]; simp)]
      exact .inr ⟨p, ps, rfl, h⟩
    · rw [if_pos (by rw [hg]; simpa using h)]
      exact dw_head hg ps
theorem Good.tw {g : Pc → Bool} (h : ∀ p ∈ ps, Good p) : (∀ p ∈ ps.takeWhile g, Good p) ∧ ∀ p ∈ ps.dropWhile g, Good p := ⟨fun p hp => h p ((List.takeWhile_prefix g).mem hp), fun p hp => h p ((List.dropWhile_suffix g).mem hp)⟩
theorem num_eq (h : ∀ p ∈ ps, Good p) (hx : ¬ nExponent ∈ ps.map Pc.name) : let w := (lp ps).takeWhile fun p => match p with
      | .point => false
      | .power _ => false
      | _ => true
    (w = lp (ps.takeWhile notPoint)) ∧ (((lp ps).drop w.length) = lp (ps.dropWhile notPoint)) := by
  have e := lp_take (f := fun p => match p with
      | .point => false
      | .power _ => false
      | _ => true) (g := fun p => !decide (p.name = nPoint) && !decide (p.name = nExponent)) (fun p q hp hq => by
    have F := facts hp hq
    rw [← F.point, ← F.power]
    cases q <;> rfl) (fun p hp => by
    rcases (toPo_none hp).1 with e | e
    · rw [e]; decide +kernel
    · rw [e]; decide +kernel) h
  have eg : ∀ l : List Pc, (∀ p ∈ l, p.name ≠ nExponent) → l.takeWhile (fun p => !decide (p.name = nPoint) && !decide (p.name = nExponent)) = l.takeWhile notPoint ∧ l.dropWhile (fun p => !decide (p.name = nPoint) && !decide (p.name = nExponent)) = l.dropWhile notPoint := fun l => by
    induction l with
    | nil => intro _; exact ⟨rfl, rfl⟩
    | cons p l ih =>
      intro hl
      have hp := hl p List.mem_cons_self
      have := ih fun q hq => hl q (List.mem_cons_of_mem _ hq)
      rw [List.takeWhile_cons, List.takeWhile_cons, List.dropWhile_cons, List.dropWhile_cons, this.1, this.2, decide_eq_false hp, Bool.not_false, Bool.and_true]
      exact ⟨rfl, rfl⟩
  have hne : ∀ p ∈ ps, p.name ≠ nExponent := fun p hp e => hx (by rw [← e]; exact List.mem_map_of_mem hp)
  obtain ⟨g1, g2⟩ := eg ps hne
  rw [g1, g2] at e
  dsimp only
  refine ⟨e.1, ?_⟩
  rw [drop_tw]
  exact e.2
end
end NP
end
section
set_option Elab.async false
set_option linter.all false
set_option maxRecDepth 100000
set_option maxHeartbeats 4000000
namespace NP
open PySem PySem.Spec PyProof.Rows L2
open Sv68 (isDigit lower tenths)
def DigC (l : List Sv68.Piece) : Prop :=
  Sv68.count l (fun p => p == .point) ≤ 1 ∧ (l.filter isPower).length ≤ 1 ∧ Sv68.count l (fun p => p == .percent) ≤ 4 ∧ 1 ≤ Sv68.count (Sv68.beforePower l) Sv68.isPlace ∧ Sv68.count (Sv68.wholePart l) Sv68.isPlace ≤ 24 ∧ Sv68.count (Sv68.tenthsPart l) Sv68.isPlace ≤ 12 ∧ (Sv68.tenthsPart l).all (fun p => p != .comma) = true ∧
      ((l.filter isPower).length = 0 ∨ (1 ≤ Sv68.count (Sv68.wholePart l) Sv68.isPlace ∧ ((Sv68.wholePart l).all fun p => p != .comma) = true ∧ Sv68.count l (fun p => p == .percent) = 0 ∧ 1 ≤ (Sv68.behindPower l).length ∧ (Sv68.behindPower l).length ≤ 3 ∧ ((Sv68.behindPower l).all fun p => p == .place 48) = true)) ∧ Sv68.count (Sv68.wholePart l) (fun p => p == .comma) ≤ 8
section
variable {ps : List Pc}
theorem lp_append (a b : List Pc) : lp (a ++ b) = lp a ++ lp b := List.filterMap_append
theorem lp_len (h : ∀ p ∈ ps, Good p) : (lp ps).length = (ps.filter notCC).length ∧ (lp ps).all (fun q => q == .place 48) = (ps.filter notCC).all isZero := by
  induction ps with
  | nil => exact ⟨rfl, rfl⟩
  | cons p ps ih =>
    have ih := ih fun q hq => h q (List.mem_cons_of_mem _ hq)
    rw [lp_cons, List.filter_cons]
    cases ht : toPo p with
    | none =>
      rw [(toPo_none ht).2.1]
      exact ih
    | some q =>
      have F := facts (h p List.mem_cons_self) ht
      rw [F.cc, if_pos rfl]
      dsimp only
      rw [List.length_cons, List.length_cons, ih.1, List.all_cons, List.all_cons, ih.2, F.zero]
      exact ⟨rfl, rfl⟩
theorem expo_eq (h : ∀ p ∈ ps, Good p) : isExpo ps = true ↔ (1 ≤ (lp ps).length ∧ (lp ps).length ≤ 3 ∧ (lp ps).all (fun q => q == .place 48) = true) := by
  obtain ⟨e1, e2⟩ := lp_len h
  rw [e1, e2]
  unfold isExpo
  generalize ps.filter notCC = l
  have hle := List.length_filter_le isZero l
  have heq : (l.filter isZero).length = l.length ↔ l.all isZero = true := by
    rw [List.length_filter_eq_length_iff, List.all_eq_true]
  rw [Bool.and_eq_true, Bool.and_eq_true, decide_eq_true_iff, decide_eq_true_iff, decide_eq_true_iff, heq]
  constructor
  · rintro ⟨a, b, c⟩
    have := heq.mpr c
    exact ⟨by omega, by omega, c⟩
  · rintro ⟨a, b, c⟩
    have := heq.mpr c
    exact ⟨by omega, by omega, c⟩
theorem zero_names (h : ∀ p ∈ ps, Good p) (hz : (lp ps).all (fun q => q == .place 48) = true) {x : Str} (hx : x ≠ nPlace ∧ x ≠ nColour ∧ x ≠ nCondition) : (ps.map Pc.name).count x = 0 := by
  rw [count_zero]
  intro hm
  obtain ⟨p, hp, e⟩ := List.mem_map.mp hm
  rw [(lp_len h).2, List.all_eq_true] at hz
  cases ht : toPo p with
  | none =>
    rcases (toPo_none ht).1 with z | z
    · exact hx.2.1 (e.symm.trans z)
    · exact hx.2.2 (e.symm.trans z)
  | some q =>
    have F := facts (h p hp) ht
    have := hz p (List.mem_filter.mpr ⟨hp, F.cc⟩)
    exact hx.1 (e.symm.trans (zero_name this))
theorem before_eq (h : ∀ p ∈ ps, Good p) : Sv68.beforePower (lp ps) = lp (ps.takeWhile notExp) ∧ (lp ps).drop (Sv68.beforePower (lp ps)).length = lp (ps.dropWhile notExp) := by
  have e := lp_take (f := fun p => match p with
      | .power _ => false
      | _ => true) (g := notExp) (fun p q hp hq => by
    have F := facts hp hq
    unfold notExp
    rw [← F.power]
    cases q <;> rfl) (fun p hp => by
    unfold notExp
    rcases (toPo_none hp).1 with e | e
    · rw [e]; decide +kernel
    · rw [e]; decide +kernel) h
  refine ⟨e.1, ?_⟩
  show (lp ps).drop ((lp ps).takeWhile _).length = _
  rw [drop_tw]
  exact e.2
theorem tw_stopP {f : Sv68.Piece → Bool} {q : Sv68.Piece} {Y : List Sv68.Piece} (hq : f q = false) : ∀ X : List Sv68.Piece, (X ++ q :: Y).takeWhile f = X.takeWhile f
  | [] => by rw [List.nil_append, List.takeWhile_cons, hq]; rfl
  | a :: X => by
    rw [List.cons_append, List.takeWhile_cons, List.takeWhile_cons]
    split
    · rw [tw_stopP hq X]
    · rfl
theorem dig_eq (h : ∀ p ∈ ps, Good p) : DigC (lp ps) ↔ rightDig ps = true := by
  obtain ⟨b1, b2⟩ := before_eq h
  have hgA := (Good.tw (g := notExp) h).1
  have hgX := (Good.tw (g := notExp) h).2
  have eA : befExp (ps.map Pc.name) = (ps.takeWhile notExp).map Pc.name := (map_tw (x := nExponent) ps).1
  have hsplit := List.takeWhile_append_dropWhile (p := notExp) (l := ps)
  have hnA : ¬ nExponent ∈ (ps.takeWhile notExp).map Pc.name := fun hm => by
    obtain ⟨p, hp, e⟩ := List.mem_map.mp hm
    have : notExp p = true := by
      have gen : ∀ l : List Pc, p ∈ l.takeWhile notExp → notExp p = true := fun l => by
        induction l with
        | nil => intro h; cases h
        | cons a l ih =>
          intro h
          rw [List.takeWhile_cons] at h
          split at h
          · rename_i ha
            rcases List.mem_cons.mp h with e | h
            · rw [e]; exact ha
            · exact ih h
          · cases h
      exact gen ps hp
    unfold notExp at this
    rw [e] at this
    simp at this
  generalize hA : ps.takeWhile notExp = A at *
  generalize hX : ps.dropWhile notExp = X at *
  obtain ⟨n1, n2⟩ := num_eq hgA hnA
  have ps_eq : ps = A ++ X := hsplit.symm
  have hd := dw_head (g := notExp) (x := nExponent) (fun _ => rfl) ps
  rw [hX] at hd
  -- the whole part, what is behind the point
  have hw : Sv68.wholePart (lp ps) = lp (A.takeWhile notPoint) := by
    unfold Sv68.wholePart
    rw [ps_eq, lp_append]
    rcases hd with e | ⟨x, R, e, ex⟩
    · rw [e]
      show (lp A ++ []).takeWhile _ = _
      rw [List.append_nil]
      exact n1
    · rw [e, lp_cons]
      have hgx := hgX x (by rw [e]; exact List.mem_cons_self)
      cases ht : toPo x with
      | none =>
        rcases (toPo_none ht).1 with z | z
        · exact absurd (ex.symm.trans z) (by decide +kernel)
        · exact absurd (ex.symm.trans z) (by decide +kernel)
      | some q =>
        have F := facts hgx ht
        have hqp : isPower q = true := by rw [F.power, decide_eq_true ex]
        dsimp only
        rw [tw_stopP (by cases q <;> first | rfl | cases hqp)]
        exact n1
  have htn : Sv68.tenthsPart (lp ps) = (lp (A.dropWhile notPoint)).drop 1 := by
    unfold Sv68.tenthsPart
    rw [b1, hw]
    rw [n1] at n2
    rw [n2]
  have hgW := (Good.tw (g := notPoint) hgA).1
  have hgB := (Good.tw (g := notPoint) hgA).2
  have hhead : (lp (A.dropWhile notPoint)).head? = none ∨ (lp (A.dropWhile notPoint)).head? = some .point := by
    rcases dw_head (g := notPoint) (x := nPoint) (fun _ => rfl) A with e | ⟨x, R, e, ex⟩
    · rw [e]; exact .inl rfl
    · rw [e, lp_cons]
      have hgx := hgB x (by rw [e]; exact List.mem_cons_self)
      cases ht : toPo x with
      | none =>
        rcases (toPo_none ht).1 with z | z
        · exact absurd (ex.symm.trans z) (by decide +kernel)
        · exact absurd (ex.symm.trans z) (by decide +kernel)
      | some q =>
        have F := facts hgx ht
        have : (q == Sv68.Piece.point) = true := by rw [F.point, decide_eq_true ex]
        rw [beq_iff_eq] at this
        rw [this]
        exact .inr rfl
  obtain ⟨t1, t2⟩ := pre_place hhead
  -- isNum of the names ahead of the exponent
  have m1 : wholeP (A.map Pc.name) = (A.takeWhile notPoint).map Pc.name := (map_tw (x := nPoint) A).1
  have m2 : (A.map Pc.name).drop (wholeP (A.map Pc.name)).length = (A.dropWhile notPoint).map Pc.name := by
    unfold wholeP
    rw [drop_tw]
    exact (map_tw (x := nPoint) A).2
  have hnum : isNum (A.map Pc.name) = true ↔ (nPlace ∈ A.map Pc.name ∧ (A.map Pc.name).count nPoint ≤ 1 ∧ (A.map Pc.name).count nPercent ≤ 4 ∧ ((A.takeWhile notPoint).map Pc.name).count nPlace ≤ 24 ∧ ((A.takeWhile notPoint).map Pc.name).count nComma ≤ 8 ∧ ((A.dropWhile notPoint).map Pc.name).count nPlace ≤ 12 ∧ ¬ nComma ∈ (A.dropWhile notPoint).map Pc.name) := by
    unfold isNum
    rw [m2, m1]
    simp only [Bool.and_eq_true, decide_eq_true_iff, Bool.not_eq_true', decide_eq_false_iff_not]
  have hcount : ∀ x : Str, (ps.map Pc.name).count x = (A.map Pc.name).count x + (X.map Pc.name).count x := fun x => by
    rw [ps_eq, List.map_append, List.count_append]
  unfold DigC rightDig
  rw [cnt_point h, cnt_power h, cnt_percent h, b1, hw, htn, t1, t2, cnt_place hgA, cnt_place hgW, cnt_place hgB, all_comma hgB, all_comma hgW, cnt_comma hgW, eA, count_pos]
  have hbp : Sv68.behindPower (lp ps) = (lp X).drop 1 := by
    unfold Sv68.behindPower
    rw [b2]
  rw [hbp]
  simp only [Bool.not_eq_true', decide_eq_false_iff_not]
  rcases hd with e | ⟨x, R, e, ex⟩
  · -- no exponent
    have hA' : A = ps := by
      rw [ps_eq, e, List.append_nil]
    rw [e] at hcount
    have h0 : (ps.map Pc.name).count nExponent = 0 := by
      rw [← hA', count_zero]
      exact hnA
    rw [if_neg (count_zero.mp h0), ← hA', hnum, hA', h0]
    constructor
    · rintro ⟨a1, a2, a3, a4, a5, a6, a7, a8, a9⟩
      exact ⟨a4, a1, a3, a5, a9, a6, a7⟩
    · rintro ⟨a4, a1, a3, a5, a9, a6, a7⟩
      exact ⟨a1, by omega, a3, a4, a5, a6, a7, .inl rfl, a9⟩
  · -- with one
    have hmem : nExponent ∈ ps.map Pc.name := by
      rw [ps_eq, e, List.map_append, List.map_cons, ex]
      simp
    rw [if_pos hmem]
    have hgx := hgX x (by rw [e]; exact List.mem_cons_self)
    have hgR : ∀ p ∈ R, Good p := fun p hp => hgX p (by rw [e]; exact List.mem_cons_of_mem _ hp)
    have hR : ps.drop ((A.map Pc.name).length + 1) = R := by
      rw [List.length_map]
      conv => lhs; arg 2; rw [ps_eq, e]
      rw [List.drop_append]
      simp
    have hlX : (lp X).drop 1 = lp R := by
      rw [e, lp_cons]
      cases ht : toPo x with
      | none =>
        rcases (toPo_none ht).1 with z | z
        · exact absurd (ex.symm.trans z) (by decide +kernel)
        · exact absurd (ex.symm.trans z) (by decide +kernel)
      | some q => rfl
    rw [hR, hlX, Bool.and_eq_true, Bool.and_eq_true, hnum, expo_eq hgR]
    have hmay : mayExp (A.map Pc.name) = true ↔ (nPlace ∈ (A.takeWhile notPoint).map Pc.name ∧ ¬ nComma ∈ (A.takeWhile notPoint).map Pc.name ∧ ¬ nPercent ∈ A.map Pc.name) := by
      unfold mayExp
      rw [m1]
      simp only [Bool.and_eq_true, decide_eq_true_iff, Bool.not_eq_true', decide_eq_false_iff_not]
    rw [hmay, count_pos]
    have hcX : ∀ y : Str, (X.map Pc.name).count y = (R.map Pc.name).count y + (if nExponent = y then 1 else 0) := fun y => by
      rw [e, List.map_cons, List.count_cons, ex]
      simp
    have hA0 : (A.map Pc.name).count nExponent = 0 := count_zero.mpr hnA
    have c1 := hcount nPoint
    have c2 := hcount nPercent
    have c3 := hcount nExponent
    rw [hcX, if_neg (by decide +kernel)] at c1 c2
    rw [hcX, if_pos rfl, hA0] at c3
    constructor
    · rintro ⟨a1, a2, a3, a4, a5, a6, a7, a8, a9⟩
      rcases a8 with a8 | ⟨z1, z2, z3, z4, z5, z6⟩
      · omega
      · exact ⟨⟨a4, by omega, by omega, a5, a9, a6, a7⟩, ⟨z1, z2, count_zero.mp (by omega)⟩, z4, z5, z6⟩
    · rintro ⟨⟨a4, a1, a3, a5, a9, a6, a7⟩, ⟨z1, z2, z3⟩, z4, z5, z6⟩
      have r1 := zero_names hgR z6 (x := nPoint) (by decide +kernel)
      have r2 := zero_names hgR z6 (x := nPercent) (by decide +kernel)
      have r3 := zero_names hgR z6 (x := nExponent) (by decide +kernel)
      have p0 := count_zero.mpr z3
      exact ⟨by omega, by omega, by omega, a4, a5, a6, a7, .inr ⟨z1, z2, by omega, z4, z5, z6⟩, a9⟩
end
end NP
end
section
set_option Elab.async false
set_option linter.all false
set_option maxRecDepth 100000
set_option maxHeartbeats 4000000
namespace NP
open PySem PySem.Spec PyProof.Rows L2
open Sv68 (isDigit lower tenths)
section
variable {ps : List Pc}
def limP (p : Sv68.Piece) : Bool := match p with
      | .clock c n _ => if c = 109 then decide (n ≤ 5) else if c = 100 ∨ c = 121 then decide (n ≤ 4) else decide (n ≤ 2)
      | _ => true
theorem lim_one {p : Pc} {q : Sv68.Piece} (hg : Good p) (h : toPo p = some q) : limP q = okRow p := by
  cases p with
  | colour k => cases h
  | condition z x => cases h
  | part l n d =>
    obtain rfl := Option.some.inj h
    have hl : (longest l).isSome = true := hg.2
    show (if l = 109 then decide (n ≤ 5) else if l = 100 ∨ l = 121 then decide (n ≤ 4) else decide (n ≤ 2)) = (match longest l with
      | some m => decide (n ≤ m)
      | none => true)
    unfold longest at hl ⊢
    by_cases h1 : l = 121
    · subst h1; rfl
    by_cases h2 : l = 109
    · subst h2; rfl
    by_cases h3 : l = 100
    · subst h3; rfl
    by_cases h4 : l = 104
    · subst h4; rfl
    by_cases h5 : l = 115
    · subst h5; rfl
    · rw [if_neg h1, if_neg h2, if_neg h3, if_neg h4, if_neg h5] at hl
      cases hl
  | sign nm c =>
    obtain rfl := Option.some.inj h
    rcases sign_toP hg.1 with ⟨_, e⟩ | ⟨_, e⟩ | ⟨_, e⟩ | ⟨_, e⟩ | ⟨_, e⟩ <;> (rw [e]; rfl)
  | word nm n =>
    obtain rfl := Option.some.inj h
    show limP (if nm = nGeneral then .general else .half (n == 3)) = true
    split <;> rfl
  | text b => obtain rfl := Option.some.inj h; rfl
  | exponent c => obtain rfl := Option.some.inj h; rfl
  | passed l n d => obtain rfl := Option.some.inj h; rfl
theorem lim_all (h : ∀ p ∈ ps, Good p) : (lp ps).all limP = ps.all okRow := by
  induction ps with
  | nil => rfl
  | cons p ps ih =>
    have ih := ih fun q hq => h q (List.mem_cons_of_mem _ hq)
    rw [lp_cons, List.all_cons]
    cases ht : toPo p with
    | none =>
      rw [(toPo_none ht).2.2.2, Bool.true_and]
      exact ih
    | some q =>
      dsimp only
      rw [List.all_cons, ih, lim_one (h p List.mem_cons_self) ht]
theorem not_ok {p : Pc} (h : okRow p = false) : p.name = nPart := by
  cases p with
  | part l n d => rfl
  | _ => cases h
theorem kind_eq (h : ∀ p ∈ ps, Good p) : Sv68.kindOf (lp ps) = if ps.all okRow = true then findK ps else none := by
  have a0 : ((lp ps).all Sv68.isText = true) ↔ kindNames ps = [] := by
    have := lp_all (f := fun _ => false) (g := fun _ => false) (fun _ _ _ _ => rfl) h
    have e : (lp ps).all Sv68.isText = (lp ps).all (fun q => Sv68.isText q || (fun _ => false) q) := by
      congr 1
      funext q
      rw [Bool.or_false]
    rw [e, this]
    cases kindNames ps with
    | nil => simp
    | cons a l => simp
  have a3 := lp_all (f := fun q => q == .itself) (g := fun x => decide (x = nAt)) (fun p q hp hq => (facts hp hq).at_) h
  have a4 := lp_all (f := fun q => q == .general) (g := fun x => decide (x = nGeneral)) (fun p q hp hq => (facts hp hq).general) h
  have a2 := lp_all (f := Sv68.isClock) (g := fun x => decide (x ∈ DAYS3)) (fun p q hp hq => (facts hp hq).clock) h
  have a1 := lp_all (f := Sv68.isDigits) (g := fun x => decide (x ∈ DIGS5)) (fun p q hp hq => (facts hp hq).digits) h
  have cg : Sv68.count (lp ps) (fun p => p == .general) = (kindNames ps).count nGeneral := by
    have : Sv68.count (lp ps) (fun p => p == .general) = (ps.map Pc.name).count nGeneral := lp_count (by decide +kernel) (fun p q hp hq => (facts hp hq).general) h
    rw [this]
    unfold kindNames
    rw [List.count_filter (by decide +kernel)]
  have bad : ps.all okRow = false → nPart ∈ kindNames ps := fun hb => by
    obtain ⟨p, hp, e⟩ : ∃ p, p ∈ ps ∧ okRow p = false := by
      rw [List.all_eq_false] at hb
      obtain ⟨p, hp, e⟩ := hb
      exact ⟨p, hp, by simpa using e⟩
    unfold kindNames
    rw [List.mem_filter]
    refine ⟨?_, by decide +kernel⟩
    rw [← not_ok e]
    exact List.mem_map_of_mem hp
  have lim := lim_all h
  have dg := dig_eq h
  unfold Sv68.kindOf findK
  generalize hk : kindNames ps = ks at *
  by_cases h0 : ks = []
  · rw [if_pos (a0.mpr h0), if_pos h0]
    cases hb : ps.all okRow with
    | true => rfl
    | false =>
      have := bad hb
      rw [h0] at this
      cases this
  rw [if_neg (fun z => h0 (a0.mp z)), a3]
  have none_part : ∀ g : Str → Bool, g nPart = false → nPart ∈ ks → ks.all g = true → False := fun g hg hm ha => by
    have := List.all_eq_true.mp ha nPart hm
    rw [hg] at this
    cases this
  have hhd : ∀ g g' : Str → Bool, (∀ x, g x = true → g' x = false) → ks.all g = true → ks.all g' = false := fun g g' hgg ha => by
    cases ks with
    | nil => exact (h0 rfl).elim
    | cons x l =>
      rw [List.all_cons, Bool.and_eq_true] at ha
      rw [List.all_cons, hgg x ha.1]
      rfl
  by_cases h3 : ks.all (fun x => decide (x = nAt)) = true
  · rw [if_pos h3]
    have nb : ps.all okRow = true := by
      cases hb : ps.all okRow with
      | true => rfl
      | false => exact (none_part _ (by decide +kernel) (bad hb) h3).elim
    have ng : ks ≠ [nGeneral] := fun e => by
      rw [e] at h3
      revert h3
      decide +kernel
    rw [nb, if_pos rfl, if_neg h0, if_neg ng, if_pos h3]
  rw [if_neg h3, a4]
  by_cases h4 : ks.all (fun x => decide (x = nGeneral)) = true
  · rw [if_pos h4, cg]
    have nb : ps.all okRow = true := by
      cases hb : ps.all okRow with
      | true => rfl
      | false => exact (none_part _ (by decide +kernel) (bad hb) h4).elim
    rw [nb, if_pos rfl, if_neg h0]
    have hc : ks.count nGeneral = ks.length := List.count_eq_length.mpr fun x hx => by
      have := List.all_eq_true.mp h4 x hx
      exact (of_decide_eq_true this).symm
    have hone : ks.count nGeneral = 1 ↔ ks = [nGeneral] := by
      rw [hc]
      constructor
      · intro z
        obtain ⟨x, e⟩ := List.length_eq_one_iff.mp z
        rw [e] at h4 ⊢
        simp at h4
        rw [h4]
      · intro z
        rw [z]
        rfl
    by_cases h5 : ks = [nGeneral]
    · rw [if_pos (hone.mpr h5), if_pos h5]
    · have hd := hhd (fun x => decide (x = nGeneral)) (fun x => decide (x ∈ DAYS3)) (fun x hx => by rw [of_decide_eq_true hx]; decide +kernel) h4
      have hd5 := hhd (fun x => decide (x = nGeneral)) (fun x => decide (x ∈ DIGS5)) (fun x hx => by rw [of_decide_eq_true hx]; decide +kernel) h4
      rw [if_neg (fun z => h5 (hone.mp z)), if_neg h5, if_neg h3, if_neg (by rw [hd]; decide), if_neg (by rw [hd5]; simp)]
  rw [if_neg h4, a2]
  have ng : ks ≠ [nGeneral] := fun e => h4 (by rw [e]; decide +kernel)
  by_cases h2 : ks.all (fun x => decide (x ∈ DAYS3)) = true
  · rw [if_pos h2]
    show (if (lp ps).all limP = true then some 2 else none) = _
    rw [lim]
    cases hb : ps.all okRow with
    | true => rw [if_pos rfl, if_pos rfl, if_neg h0, if_neg ng, if_neg h3, if_pos h2]
    | false => rfl
  rw [if_neg h2, a1]
  by_cases h1 : ks.all (fun x => decide (x ∈ DIGS5)) = true
  · rw [if_pos h1]
    have nb : ps.all okRow = true := by
      cases hb : ps.all okRow with
      | true => rfl
      | false => exact (none_part _ (by decide +kernel) (bad hb) h1).elim
    rw [nb, if_pos rfl, if_neg h0, if_neg ng, if_neg h3, if_neg h2]
    by_cases hd : rightDig ps = true
    · rw [if_pos (show ks.all (fun x => decide (x ∈ DIGS5)) = true ∧ rightDig ps = true from ⟨h1, hd⟩)]
      exact if_pos (dg.mpr hd)
    · rw [if_neg (show ¬ (ks.all (fun x => decide (x ∈ DIGS5)) = true ∧ rightDig ps = true) from fun z => hd z.2)]
      exact if_neg fun z => hd (dg.mp z)
  · rw [if_neg h1]
    cases hb : ps.all okRow with
    | true => rw [if_pos rfl, if_neg h0, if_neg ng, if_neg h3, if_neg h2, if_neg fun z => h1 z.1]
    | false => rfl
end
end NP
end
section
set_option Elab.async false
set_option linter.all false
set_option maxRecDepth 100000
set_option maxHeartbeats 4000000
namespace NP
open PySem PySem.Spec PyProof.Rows L2
open Sv68 (isDigit lower tenths)
structure SR (c : CSec) (s : Sv68.Section) : Prop where
  colour : s.colour = c.colour
  kind : Sv68.kindOf s.pieces = some c.kind
  cond : s.condition = c.cond.map fun x => (opN x.1, x.2)
  pieces : s.pieces = lp c.ps
theorem addL_z {ps : List Pc} (h : ∀ p ∈ ps, Good p) : addL ⟨0, none, []⟩ ps = if 1 < (ps.filterMap colOf).length ∨ 1 < (ps.filterMap condOf).length then none else some ⟨(ps.filterMap colOf).sum, (ps.filterMap condOf).head?.map fun x => (opN x.1, x.2), lp ps⟩ := by
  rw [addL_eq ps _ h]
  by_cases hc : 1 < (ps.filterMap colOf).length ∨ 1 < (ps.filterMap condOf).length
  · rw [if_pos hc, if_neg]
    simp
    omega
  · rw [if_neg hc, if_pos]
    · simp
    · simp
      omega
theorem one1 {ps : List Pc} {c : CSec} (h : ∀ p ∈ ps, Good p) (hr : ps.all okRow = true) (hm : mkSec ps = some c) : ∃ s, addL ⟨0, none, []⟩ ps = some s ∧ SR c s := by
  unfold mkSec at hm
  rw [addL_z h]
  split at hm
  · cases hm
  · rename_i hn
    obtain ⟨k, hk, e⟩ := Option.map_eq_some_iff.mp hm
    rw [if_neg hn]
    refine ⟨_, rfl, ?_⟩
    subst e
    refine ⟨rfl, ?_, rfl, rfl⟩
    rw [kind_eq h, hr, if_pos rfl, hk]
theorem one2 {ps : List Pc} {s : Sv68.Section} {k : Nat} (h : ∀ p ∈ ps, Good p) (hm : addL ⟨0, none, []⟩ ps = some s) (hk : Sv68.kindOf s.pieces = some k) : ps.all okRow = true ∧ ∃ c, mkSec ps = some c ∧ SR c s := by
  rw [addL_z h] at hm
  split at hm
  · cases hm
  · rename_i hn
    have e := Option.some.inj hm
    have hp : s.pieces = lp ps := by rw [← e]
    rw [hp, kind_eq h] at hk
    split at hk
    · rename_i hr
      refine ⟨hr, ⟨(ps.filterMap colOf).sum, k, (ps.filterMap condOf).head?, ps⟩, ?_, ?_⟩
      · unfold mkSec
        rw [if_neg hn, hk]
        rfl
      · refine ⟨by rw [← e], ?_, by rw [← e], hp⟩
        rw [hp, kind_eq h, hr, if_pos rfl]
        exact hk
    · cases hk
theorem all1 : ∀ {ls : List (List Pc)} {cs : List CSec}, (∀ ps ∈ ls, ∀ p ∈ ps, Good p) → ls.all (fun ps => ps.all okRow) = true → secsL ls = some cs → ∃ l, mapS ls = some l ∧ A2 SR cs l
  | [], cs, _, _, h => by
    have e : [] = cs := Option.some.inj h
    subst e
    exact ⟨[], rfl, .nil⟩
  | x :: r, cs, hg, hr, h => by
    rw [List.all_cons, Bool.and_eq_true] at hr
    obtain ⟨c, hc, h⟩ := Option.bind_eq_some_iff.mp h
    obtain ⟨cs', hcs, e⟩ := Option.map_eq_some_iff.mp h
    obtain ⟨s, hs, hS⟩ := one1 (hg x List.mem_cons_self) hr.1 hc
    obtain ⟨l, hl, hA⟩ := all1 (fun ps hps => hg ps (List.mem_cons_of_mem _ hps)) hr.2 hcs
    subst e
    exact ⟨s :: l, by rw [mapS, hs, Option.bind_some, hl]; rfl, .cons hS hA⟩
theorem all2 : ∀ {ls : List (List Pc)} {l : Sv68.Picture}, (∀ ps ∈ ls, ∀ p ∈ ps, Good p) → mapS ls = some l → (l.map fun s => Sv68.kindOf s.pieces).all Option.isSome = true → ls.all (fun ps => ps.all okRow) = true ∧ ∃ cs, secsL ls = some cs ∧ A2 SR cs l
  | [], l, _, h, _ => by
    have e : [] = l := Option.some.inj h
    subst e
    exact ⟨rfl, [], rfl, .nil⟩
  | x :: r, l, hg, h, hk => by
    obtain ⟨s, hs, h⟩ := Option.bind_eq_some_iff.mp h
    obtain ⟨l', hl, e⟩ := Option.map_eq_some_iff.mp h
    subst e
    rw [List.map_cons, List.all_cons, Bool.and_eq_true] at hk
    obtain ⟨k, hk1⟩ := Option.isSome_iff_exists.mp hk.1
    obtain ⟨hr, c, hc, hS⟩ := one2 (hg x List.mem_cons_self) hs hk1
    obtain ⟨hr2, cs, hcs, hA⟩ := all2 (fun ps hps => hg ps (List.mem_cons_of_mem _ hps)) hl hk.2
    exact ⟨by rw [List.all_cons, hr, hr2]; rfl, c :: cs, by rw [secsL, hc, Option.bind_some, hcs]; rfl, .cons hS hA⟩
def picC (l : Sv68.Picture) : Bool := let ks := l.map fun s => Sv68.kindOf s.pieces
  (ks.all Option.isSome && ((ks.dropLast.all fun k => k != some 3) && ((l.drop 2).all (fun s => s.condition.isNone) && (decide (l.length < 4) || (ks.getLast?.join == some 0 || ks.getLast?.join == some 3)))))
theorem sr_kinds {cs : List CSec} {l : Sv68.Picture} (h : A2 SR cs l) : (l.map fun s => Sv68.kindOf s.pieces) = cs.map fun c => some c.kind := by
  induction h with
  | nil => rfl
  | cons r t ih => rw [List.map_cons, List.map_cons, ih, r.kind]
theorem sr_conds {cs : List CSec} {l : Sv68.Picture} (h : A2 SR cs l) : (l.all fun s => s.condition.isNone) = !cs.any fun c => c.cond.isSome := by
  induction h with
  | nil => rfl
  | @cons c s cs l r t ih =>
    rw [List.all_cons, List.any_cons, ih, r.cond, Bool.not_or]
    congr 1
    cases c.cond <;> rfl
theorem tog_eq {cs : List CSec} {l : Sv68.Picture} (h : A2 SR cs l) (hl : cs.length ≤ 4) : picC l = tog cs := by
  unfold picC tog
  dsimp only
  rw [sr_kinds h, decide_eq_true hl, Bool.true_and]
  have h1 : (cs.map fun c => some c.kind).all Option.isSome = true := by
    rw [List.all_map]
    exact List.all_eq_true.mpr fun _ _ => rfl
  have h2 : (cs.map fun c => some c.kind).dropLast.all (fun k => k != some 3) = !cs.dropLast.any (fun c => decide (c.kind = 3)) := by
    rw [← List.map_dropLast, List.all_map]
    generalize cs.dropLast = d
    induction d with
    | nil => rfl
    | cons c d ih =>
      rw [List.all_cons, List.any_cons, Bool.not_or, ih]
      congr 1
  rw [h1, Bool.true_and, h2, sr_conds (A2.dropL h 2), ← h.length]
  congr 2
  by_cases h4 : cs.length < 4
  · rw [decide_eq_true h4]
    rfl
  · rw [decide_eq_false h4, Bool.false_or, Bool.false_or]
    match cs, hl, h4 with
    | [a, b, c, d], _, _ =>
      show (some d.kind == some 0 || some d.kind == some 3) = (decide (d.kind = 0) || decide (d.kind = 3))
      rw [Bool.eq_iff_iff]
      simp
    | [], _, h4 => exact absurd (by decide) h4
    | [a], _, h4 => exact absurd (by simp) h4
    | [a, b], _, h4 => exact absurd (by simp) h4
    | [a, b, c], _, h4 => exact absurd (by simp) h4
    | a :: b :: c :: d :: e :: r, hl, _ => exact absurd hl (by simp)
theorem sec_len : ∀ {ls : List (List Pc)} {cs : List CSec}, secsL ls = some cs → cs.length = ls.length
  | [], cs, h => by
    have e : [] = cs := Option.some.inj h
    subst e
    rfl
  | x :: r, cs, h => by
    obtain ⟨c, hc, h⟩ := Option.bind_eq_some_iff.mp h
    obtain ⟨cs', hcs, e⟩ := Option.map_eq_some_iff.mp h
    subst e
    rw [List.length_cons, List.length_cons, sec_len hcs]
theorem pictureOf_eq (b : Bytes) : Sv68.pictureOf b = if 255 < b.length ∨ Wbk.utf8 b = false then none else (Sv68.sections 4 b).bind fun l => if picC l = true then some l else none := rfl
theorem rs_pic (b : Bytes) : (∀ cs, rsF b = some cs → ∃ l, Sv68.pictureOf b = some l ∧ A2 SR cs l) ∧ (rsF b = none → Sv68.pictureOf b = none) := by
  rw [pictureOf_eq]
  unfold rsF
  by_cases h0 : 255 < b.length ∨ Wbk.utf8 b = false
  · rw [if_pos h0, if_pos h0]
    exact ⟨fun cs h => (by cases h), fun _ => rfl⟩
  rw [if_neg h0, if_neg h0]
  have hu : Wbk.utf8 b = true := by
    cases hh : Wbk.utf8 b with
    | true => rfl
    | false => exact (h0 (.inr hh)).elim
  have hs := sections_pp (b := b) 4 0 (Nat.zero_le _) hu
  rw [List.drop_zero, Nat.sub_zero] at hs
  rw [hs, ppF_ppL]
  cases hl : ppL b (b.length + 1) 0 with
  | none => exact ⟨fun cs h => (by cases h), fun _ => rfl⟩
  | some ls =>
    have hg := ppL_good hl
    rw [Option.bind_some, Option.bind_some]
    constructor
    · intro cs h
      split at h
      · rename_i hr
        rw [Option.bind_some] at h
        obtain ⟨cs', hc, h⟩ := Option.bind_eq_some_iff.mp h
        split at h
        · rename_i ht
          obtain rfl := Option.some.inj h
          obtain ⟨l, hm, hA⟩ := all1 hg hr hc
          have hlen := sec_len hc
          have h4 : cs'.length ≤ 4 := by
            unfold tog at ht
            rw [Bool.and_eq_true] at ht
            exact of_decide_eq_true ht.1
          refine ⟨l, ?_, hA⟩
          rw [if_pos (by omega), hm, Option.bind_some, if_pos (by rw [tog_eq hA h4]; exact ht)]
        · cases h
      · cases h
    · intro h
      by_cases h4 : ls.length ≤ 4
      · rw [if_pos h4]
        cases hm : mapS ls with
        | none => rfl
        | some l =>
          rw [Option.bind_some]
          by_cases hp : picC l = true
          · have hk : (l.map fun s => Sv68.kindOf s.pieces).all Option.isSome = true := by
              unfold picC at hp
              rw [Bool.and_eq_true] at hp
              exact hp.1
            obtain ⟨hr, cs, hc, hA⟩ := all2 hg hm hk
            have hlen := sec_len hc
            rw [if_pos hr, Option.bind_some, hc, Option.bind_some, ← tog_eq hA (by omega), if_pos hp] at h
            cases h
          · rw [if_neg hp]
      · rw [if_neg h4]
        rfl
theorem check_eq (b : Bytes) : chk b = PySv68.check (bi b) := by
  show _ = (let a := Sv68.does (.check (oct (bi b))); a.v :: a.l)
  rw [oct_bi]
  unfold Sv68.does chk
  dsimp only
  obtain ⟨r1, r2⟩ := rs_pic b
  cases h : rsF b with
  | none =>
    rw [r2 h]
    rfl
  | some cs =>
    obtain ⟨l, hl, hA⟩ := r1 cs h
    rw [hl]
    dsimp only
    rw [hA.length]
    congr 1
    clear h hl
    induction hA with
    | nil => rfl
    | @cons c s cs l r t ih =>
      rw [List.flatMap_cons, List.flatMap_cons, ih, r.colour, r.kind]
      rfl
end NP
end
def PySem.W.Fast.tw2807563390768190540 : Unit := ()
def PySem.W.Fast.tw1549934505959806854 : Unit := ()
def PySem.W.Fast.tw14930815390529991043 : Unit := ()
def PySem.W.Fast.tw5117958984872130093 : Unit := ()
def PySem.W.Fast.tw10136431031296347161 : Unit := ()
def PySem.W.Fast.tw11223172813361092330 : Unit := ()
def PySem.W.Fast.tw14904676349634636938 : Unit := ()
def PySem.W.Fast.tw2785646035817942115 : Unit := ()
def PySem.W.Fast.tw3067467335782343045 : Unit := ()
def PySem.W.Fast.tw3462841135907779419 : Unit := ()
def PySem.W.Fast.tw5375826809837994042 : Unit := ()
def PySem.W.Fast.tw11692839262517903932 : Unit := ()
def PySem.W.Fast.tw3055644525626575834 : Unit := ()
def PySem.W.Fast.tw1122673602823825506 : Unit := ()
def PySem.W.Fast.tw18213141883024695278 : Unit := ()
def PySem.W.Fast.tw2289862937037373984 : Unit := ()
def PySem.W.Fast.tw18403292948718122470 : Unit := ()
def PySem.W.Fast.tw17813098858280665057 : Unit := ()
def PySem.W.Fast.tw9349619348894006992 : Unit := ()
def PySem.W.Fast.tw17741744735272383016 : Unit := ()
def PySem.W.Fast.tw2543036762841418415 : Unit := ()
def PySem.W.Fast.tw15094355495159369982 : Unit := ()
def PySem.W.Fast.tw16789583840116784341 : Unit := ()
def PySem.W.Fast.tw14684130287152719598 : Unit := ()
def PySem.W.Fast.tw11445348474476542094 : Unit := ()
def PySem.W.Fast.tw7776117214597547743 : Unit := ()
def PySem.W.Fast.tw13564204318626285606 : Unit := ()
def PySem.W.Fast.tw7411196025746776626 : Unit := ()
def PySem.W.Fast.tw17450860373258356299 : Unit := ()
def PySem.W.Fast.tw12560169915854795350 : Unit := ()
def PySem.W.Fast.tw10755211089718501656 : Unit := ()
def PySem.W.Fast.tw7622576070539476649 : Unit := ()
def PySem.W.Fast.tw10277894034148564099 : Unit := ()
def PySem.W.Fast.tw3121952599346772998 : Unit := ()
def PySem.W.Fast.tw16487106848643560723 : Unit := ()
def PySem.W.Fast.tw72288978927096681 : Unit := ()
def PySem.W.Fast.tw14976745115024749346 : Unit := ()
def PySem.W.Fast.tw13726553625228243793 : Unit := ()
def PySem.W.Fast.tw12549786683773827916 : Unit := ()
def PySem.W.Fast.tw2676977915312188239 : Unit := ()
def PySem.W.Fast.tw15124047996754601462 : Unit := ()
def PySem.W.Fast.tw9472583396099030284 : Unit := ()
def PySem.W.Fast.tw14508627763036885620 : Unit := ()
def PySem.W.Fast.tw18181974073239125942 : Unit := ()
def PySem.W.Fast.tw6013116251470025654 : Unit := ()
def PySem.W.Fast.tw17868677657002047165 : Unit := ()
def PySem.W.Fast.tw9068783270802410682 : Unit := ()
def PySem.W.Fast.tw6589360562979016797 : Unit := ()
def PySem.W.Fast.tw8152457279349854441 : Unit := ()
def PySem.W.Fast.tw6801385866962449139 : Unit := ()
def PySem.W.Fast.tw3030689416354605722 : Unit := ()
def PySem.W.Fast.tw14049065829279303553 : Unit := ()
def PySem.W.Fast.tw17118956597175110089 : Unit := ()
def PySem.W.Fast.tw15785094415907887485 : Unit := ()
def PySem.W.Fast.tw15626140194152778554 : Unit := ()
def PySem.W.Fast.tw15728256714973215482 : Unit := ()
def PySem.W.Fast.tw7449703690312159682 : Unit := ()
def PySem.W.Fast.tw7377904534811879895 : Unit := ()
def PySem.W.Fast.tw3061968192998321071 : Unit := ()
def PySem.W.Fast.tw5161590915137397063 : Unit := ()
def PySem.W.Fast.tw14239615805775931135 : Unit := ()
def PySem.W.Fast.tw17816861784919029028 : Unit := ()
def PySem.W.Fast.tw13586109319634069495 : Unit := ()
def PySem.W.Fast.tw11060424780633193372 : Unit := ()
def PySem.W.Fast.tw17357007207990550408 : Unit := ()
def PySem.W.Fast.tw5589944095574951820 : Unit := ()
def PySem.W.Fast.tw8702750423832008150 : Unit := ()
def PySem.W.Fast.tw14762990741107987017 : Unit := ()
def PySem.W.Fast.tw2070068433390420484 : Unit := ()
def PySem.W.Fast.tw15341307323082528169 : Unit := ()
def PySem.W.Fast.tw12886388070481004104 : Unit := ()
def PySem.W.Fast.tw4060511887377720449 : Unit := ()
def PySem.W.Fast.tw14496687343931003599 : Unit := ()
def PySem.W.Fast.tw14467774819409094358 : Unit := ()
def PySem.W.Fast.tw11753786203687506529 : Unit := ()
def PySem.W.Fast.tw4822116020211090352 : Unit := ()
def PySem.W.Fast.tw18308779118052476579 : Unit := ()
def PySem.W.Fast.tw2226000727997574633 : Unit := ()
def PySem.W.Fast.tw7588405644754024945 : Unit := ()
def PySem.W.Fast.tw2954105914742194807 : Unit := ()
def PySem.W.Fast.tw2496230117727089162 : Unit := ()
def PySem.W.Fast.tw309403768172657800 : Unit := ()
def PySem.W.Fast.tw17561639312642785871 : Unit := ()
def PySem.W.Fast.tw6661812069429363879 : Unit := ()
def PySem.W.Fast.tw8785190773199587097 : Unit := ()
def PySem.W.Fast.tw14673772233952712213 : Unit := ()
def PySem.W.Fast.tw14820661942929750269 : Unit := ()
def PySem.W.Fast.tw16596725812488981317 : Unit := ()
def PySem.W.Fast.tw922823730733874314 : Unit := ()
def PySem.W.Fast.tw7312145150599803896 : Unit := ()
def PySem.W.Fast.tw11628391430274248330 : Unit := ()
def PySem.W.Fast.tw11335464645621346152 : Unit := ()
def PySem.W.Fast.tw3420901678079939622 : Unit := ()
def PySem.W.Fast.tw15016110388122035919 : Unit := ()
def PySem.W.Fast.tw13220483428824049022 : Unit := ()
def PySem.W.Fast.tw749084223536646504 : Unit := ()
def PySem.W.Fast.tw5463018984686636666 : Unit := ()
def PySem.W.Fast.tw6641206145317049321 : Unit := ()
def PySem.W.Fast.tw3982191966593486328 : Unit := ()
def PySem.W.Fast.tw12072592171642005348 : Unit := ()
def PySem.W.Fast.tw13523912625623819340 : Unit := ()
def PySem.W.Fast.tw12543429318310065541 : Unit := ()
def PySem.W.Fast.tw14646705489659620662 : Unit := ()
def PySem.W.Fast.tw15341295139828484614 : Unit := ()
def PySem.W.Fast.tw1598556347579578446 : Unit := ()
def PySem.W.Fast.tw3552109810574116632 : Unit := ()
def PySem.W.Fast.tw10081723918713991561 : Unit := ()
def PySem.W.Fast.tw1314862238625396438 : Unit := ()
def PySem.W.Fast.tw10709339751226909776 : Unit := ()
def PySem.W.Fast.tw13518477772377711158 : Unit := ()
def PySem.W.Fast.tw10036817499190362180 : Unit := ()
def PySem.W.Fast.tw902944744994552788 : Unit := ()
def PySem.W.Fast.tw823797917867095152 : Unit := ()
def PySem.W.Fast.tw9291531171859550966 : Unit := ()
def PySem.W.Fast.tw15591337756391887118 : Unit := ()
def PySem.W.Fast.tw140066579487099580 : Unit := ()
def PySem.W.Fast.tw8966076183904040229 : Unit := ()
def PySem.W.Fast.tw6198516150978553148 : Unit := ()
def PySem.W.Fast.tw16463822411894042295 : Unit := ()
def PySem.W.Fast.tw7388356368177401259 : Unit := ()
def PySem.W.Fast.tw3892698489574297988 : Unit := ()
def PySem.W.Fast.tw16210175431543388603 : Unit := ()
def PySem.W.Fast.tw8064802998363392082 : Unit := ()
def PySem.W.Fast.tw8644584720224575098 : Unit := ()
def PySem.W.Fast.tw17683898721713957541 : Unit := ()
def PySem.W.Fast.tw1424893986645481534 : Unit := ()
def PySem.W.Fast.tw778057919505904556 : Unit := ()
def PySem.W.Fast.tw6211423473726134717 : Unit := ()
def PySem.W.Fast.tw16422936038207335733 : Unit := ()
def PySem.W.Fast.tw7021105224798007213 : Unit := ()
def PySem.W.Fast.tw4238092962882290312 : Unit := ()
def PySem.W.Fast.tw10756214353470715080 : Unit := ()
def PySem.W.Fast.tw2295108471222251343 : Unit := ()
def PySem.W.Fast.tw5998632483390713443 : Unit := ()
def PySem.W.Fast.tw4775884063159468884 : Unit := ()
def PySem.W.Fast.tw5437994871754811965 : Unit := ()
def PySem.W.Fast.tw6373110586950496836 : Unit := ()
def PySem.W.Fast.tw3764318452360892780 : Unit := ()
def PySem.W.Fast.tw15981895422369660657 : Unit := ()
def PySem.W.Fast.tw13709778368384028061 : Unit := ()
def PySem.W.Fast.tw10304226413225282787 : Unit := ()
def PySem.W.Fast.tw13954436214891458848 : Unit := ()
def PySem.W.Fast.tw4734713243502610139 : Unit := ()
def PySem.W.Fast.tw3383530974849321185 : Unit := ()
def PySem.W.Fast.tw736847007722512920 : Unit := ()
def PySem.W.Fast.tw12506936896098692905 : Unit := ()
def PySem.W.Fast.tw15581419705704943615 : Unit := ()
def PySem.W.Fast.tw18408946120141590864 : Unit := ()
def PySem.W.Fast.tw16569340668960926959 : Unit := ()
def PySem.W.Fast.tw5870208586169955182 : Unit := ()
def PySem.W.Fast.tw10203935582177276377 : Unit := ()
def PySem.W.Fast.tw2623085149193760360 : Unit := ()
def PySem.W.Fast.tw8319592649300240774 : Unit := ()
def PySem.W.Fast.tw17595046698288608246 : Unit := ()
def PySem.W.Fast.tw15712348191887505513 : Unit := ()
def PySem.W.Fast.tw4655435879514942458 : Unit := ()
def PySem.W.Fast.tw4528275474386596654 : Unit := ()
def PySem.W.Fast.tw15982515621672973679 : Unit := ()
def PySem.W.Fast.tw7093984192741192401 : Unit := ()
def PySem.W.Fast.tw6507158833305873571 : Unit := ()
def PySem.W.Fast.tw6597067187863848761 : Unit := ()
def PySem.W.Fast.tw6186711432248634274 : Unit := ()
def PySem.W.Fast.tw13370750610062716535 : Unit := ()
def PySem.W.Fast.tw13345635908047322369 : Unit := ()
def PySem.W.Fast.tw8766153393322288047 : Unit := ()
def PySem.W.Fast.tw11912792865369279377 : Unit := ()
def PySem.W.Fast.tw15254810406072802539 : Unit := ()
def PySem.W.Fast.tw4462555595199609385 : Unit := ()
def PySem.W.Fast.tw17424960099453637435 : Unit := ()
def PySem.W.Fast.tw2111299372608359332 : Unit := ()
def PySem.W.Fast.tw15150293554853526953 : Unit := ()
def PySem.W.Fast.tw9070684086602240875 : Unit := ()
def PySem.W.Fast.tw2549007928182171332 : Unit := ()
def PySem.W.Fast.tw15887230929002412650 : Unit := ()
def PySem.W.Fast.tw7709821921453804533 : Unit := ()
def PySem.W.Fast.tw11042397652287150249 : Unit := ()
def PySem.W.Fast.tw18198561376941686677 : Unit := ()
def PySem.W.Fast.tw17733686624954646493 : Unit := ()
def PySem.W.Fast.tw8342862402044837984 : Unit := ()
def PySem.W.Fast.tw514601927565586632 : Unit := ()
def PySem.W.Fast.tw5021162113524135791 : Unit := ()
def PySem.W.Fast.tw17557968697166058017 : Unit := ()
def PySem.W.Fast.tw2874802052685391575 : Unit := ()
def PySem.W.Fast.tw15254847095468821118 : Unit := ()
def PySem.W.Fast.tw8030797148779912648 : Unit := ()
def PySem.W.Fast.tw11044485973606273288 : Unit := ()
def PySem.W.Fast.tw7019252114592081929 : Unit := ()
def PySem.W.Fast.tw17577757902584107655 : Unit := ()
def PySem.W.Fast.tw15014974760042601518 : Unit := ()
def PySem.W.Fast.tw2040913903114394941 : Unit := ()
def PySem.W.Fast.tw11588596405264171010 : Unit := ()
def PySem.W.Fast.tw13776033813950141063 : Unit := ()
def PySem.W.Fast.tw4699494615343564541 : Unit := ()
def PySem.W.Fast.tw15824740236236380244 : Unit := ()
def PySem.W.Fast.tw1181628182372942647 : Unit := ()
def PySem.W.Fast.tw14077941064800966063 : Unit := ()
def PySem.W.Fast.tw14112308439931710617 : Unit := ()
def PySem.W.Fast.tw13955225340702991086 : Unit := ()
def PySem.W.Fast.tw1153638671899556650 : Unit := ()
def PySem.W.Fast.tw759233237910019849 : Unit := ()
def PySem.W.Fast.tw17763479325983339113 : Unit := ()
def PySem.W.Fast.tw16168139711066252795 : Unit := ()
def PySem.W.Fast.tw10567639478069947788 : Unit := ()
def PySem.W.Fast.tw16783427280219156259 : Unit := ()
def PySem.W.Fast.tw10098627340999385699 : Unit := ()
def PySem.W.Fast.tw15668144796168828050 : Unit := ()
def PySem.W.Fast.tw4848606124333035729 : Unit := ()
def PySem.W.Fast.tw10895120702902634931 : Unit := ()
def PySem.W.Fast.tw16141202390577992699 : Unit := ()
def PySem.W.Fast.tw14498701846742040807 : Unit := ()
def PySem.W.Fast.tw2748738226661731786 : Unit := ()
def PySem.W.Fast.tw15017268799468131441 : Unit := ()
def PySem.W.Fast.tw12257895434175192714 : Unit := ()
def PySem.W.Fast.tw8928641431949648967 : Unit := ()
def PySem.W.Fast.tw10511862708622297381 : Unit := ()
def PySem.W.Fast.tw97721599387970538 : Unit := ()
def PySem.W.Fast.tw15224986834793426274 : Unit := ()
def PySem.W.Fast.tw3495615552623950651 : Unit := ()
def PySem.W.Fast.tw7985402008758306639 : Unit := ()
def PySem.W.Fast.tw10260978360138612167 : Unit := ()
def PySem.W.Fast.tw3765099554901569204 : Unit := ()
def PySem.W.Fast.tw11241098451152287432 : Unit := ()
def PySem.W.Fast.tw3973881668266083245 : Unit := ()
def PySem.W.Fast.tw5275334501169996290 : Unit := ()
def PySem.W.Fast.tw13787334649575183495 : Unit := ()
def PySem.W.Fast.tw11002490721062039463 : Unit := ()
def PySem.W.Fast.tw2601098408664697828 : Unit := ()
def PySem.W.Fast.tw17734097094663111459 : Unit := ()
def PySem.W.Fast.tw15557537238693454114 : Unit := ()
def PySem.W.Fast.tw13727542390916082515 : Unit := ()
def PySem.W.Fast.tw4755508775483096429 : Unit := ()
def PySem.W.Fast.tw13106166457366812932 : Unit := ()
def PySem.W.Fast.tw11808532874258189866 : Unit := ()
def PySem.W.Fast.tw11995322498237241065 : Unit := ()
def PySem.W.Fast.tw4466365867657506276 : Unit := ()
def PySem.W.Fast.tw6589708409258021962 : Unit := ()
def PySem.W.Fast.tw13467329673542573405 : Unit := ()
def PySem.W.Fast.tw6135020039563583508 : Unit := ()
def PySem.W.Fast.tw6677894915911534729 : Unit := ()
def PySem.W.Fast.tw14236814804981199938 : Unit := ()
def PySem.W.Fast.tw6698925336393061579 : Unit := ()
def PySem.W.Fast.tw5982800197330134063 : Unit := ()
def PySem.W.Fast.tw14205199032048832192 : Unit := ()
def PySem.W.Fast.tw11256293723933920835 : Unit := ()
def PySem.W.Fast.tw12110417249039231042 : Unit := ()
def PySem.W.Fast.tw16832448629287216727 : Unit := ()
def PySem.W.Fast.tw15578739834470560302 : Unit := ()
def PySem.W.Fast.tw2065144753199136973 : Unit := ()
def PySem.W.Fast.tw3275431959637738679 : Unit := ()
def PySem.W.Fast.tw17885955919676622912 : Unit := ()
def PySem.W.Fast.tw3869250949836151357 : Unit := ()
def PySem.W.Fast.tw2067688754073199541 : Unit := ()
def PySem.W.Fast.tw18061389527646200601 : Unit := ()
def PySem.W.Fast.tw2313875313487432766 : Unit := ()
def PySem.W.Fast.tw8960052525382848867 : Unit := ()
def PySem.W.Fast.tw8184031873089815178 : Unit := ()
def PySem.W.Fast.tw9540263883921223695 : Unit := ()
def PySem.W.Fast.tw11472931915715001641 : Unit := ()
def PySem.W.Fast.tw70164085510590587 : Unit := ()
def PySem.W.Fast.tw10505912827047087755 : Unit := ()
def PySem.W.Fast.tw11231461327316841180 : Unit := ()
def PySem.W.Fast.tw6689205669818826205 : Unit := ()
def PySem.W.Fast.tw11572584779259651720 : Unit := ()
def PySem.W.Fast.tw2039258119582121896 : Unit := ()
def PySem.W.Fast.tw6023117662192770950 : Unit := ()
def PySem.W.Fast.tw7611795976137942330 : Unit := ()
def PySem.W.Fast.tw225998153385552633 : Unit := ()
def PySem.W.Fast.tw4376557832813178217 : Unit := ()
def PySem.W.Fast.tw13868495741404457114 : Unit := ()
def PySem.W.Fast.tw5314022038117098196 : Unit := ()
def PySem.W.Fast.tw2604545336244953090 : Unit := ()
def PySem.W.Fast.tw9665897324846444014 : Unit := ()
def PySem.W.Fast.tw6606986923887497522 : Unit := ()
def PySem.W.Fast.tw8191686699049680380 : Unit := ()
def PySem.W.Fast.tw13699807351864970350 : Unit := ()
def PySem.W.Fast.tw11479810009016024909 : Unit := ()
def PySem.W.Fast.tw10358017931340432855 : Unit := ()
def PySem.W.Fast.tw13822894194290729991 : Unit := ()
def PySem.W.Fast.tw7227345024203296360 : Unit := ()
def PySem.W.Fast.tw7338984142053764414 : Unit := ()
def PySem.W.Fast.tw14726960288934201849 : Unit := ()
def PySem.W.Fast.tw10389113314444609257 : Unit := ()
def PySem.W.Fast.tw3450485325926991790 : Unit := ()
def PySem.W.Fast.tw3235911698791378024 : Unit := ()
def PySem.W.Fast.tw10021912008410370830 : Unit := ()
def PySem.W.Fast.tw15047326839696860112 : Unit := ()
def PySem.W.Fast.tw226519264497539175 : Unit := ()
def PySem.W.Fast.tw5814391780056662878 : Unit := ()
def PySem.W.Fast.tw11402463638703279780 : Unit := ()
def PySem.W.Fast.tw1674938226740122221 : Unit := ()
def PySem.W.Fast.tw3671424629099132567 : Unit := ()
def PySem.W.Fast.tw7875480308119290592 : Unit := ()
def PySem.W.Fast.tw5677285335623114773 : Unit := ()
def PySem.W.Fast.tw14763374393856267468 : Unit := ()
def PySem.W.Fast.tw9400260772926618829 : Unit := ()
def PySem.W.Fast.tw14658474511879693139 : Unit := ()
def PySem.W.Fast.tw6455890319567429796 : Unit := ()
def PySem.W.Fast.tw10605061585436263686 : Unit := ()
def PySem.W.Fast.tw5822358149869467131 : Unit := ()
def PySem.W.Fast.tw12005403684587401623 : Unit := ()
def PySem.W.Fast.tw9732889204499124405 : Unit := ()
def PySem.W.Fast.tw17372424904482275870 : Unit := ()
def PySem.W.Fast.tw15426348384655849039 : Unit := ()
def PySem.W.Fast.tw81086905231542074 : Unit := ()
def PySem.W.Fast.tw15551433291258181210 : Unit := ()
def PySem.W.Fast.tw2557974651864357587 : Unit := ()
def PySem.W.Fast.tw13188904156862392931 : Unit := ()
def PySem.W.Fast.tw10049321903956320977 : Unit := ()
def PySem.W.Fast.tw14153451277785667933 : Unit := ()
def PySem.W.Fast.tw16777537388638871535 : Unit := ()
def PySem.W.Fast.tw12907629495425268490 : Unit := ()
def PySem.W.Fast.tw512591219274889624 : Unit := ()
def PySem.W.Fast.tw5774110597407886720 : Unit := ()
def PySem.W.Fast.tw9977993719249090772 : Unit := ()
def PySem.W.Fast.tw16260953671658922117 : Unit := ()
def PySem.W.Fast.tw1463974148507541209 : Unit := ()
def PySem.W.Fast.tw1720294826219925174 : Unit := ()
set_option Elab.async false
set_option linter.all false
set_option maxRecDepth 100000
open PySem PySem.W PyProof.Rows
set_option maxRecDepth 100000 in
set_option maxHeartbeats 0 in
theorem PySem.Challenge.cw_numberpictures_s01_check_holds : PySem.Challenge.rw_numberpictures_s01_check.Holds := by
  w_on; k_headS; (case hw => exact ⟨[.list []], by decide +kernel, by decide +kernel⟩)
  k_fillS
  refine L2.walk_specK (r := PySem.Challenge.rw_numberpictures_s01_check) (k := 9) (CX := L2.CX0) (ps := ["picture"]) (sp := NP.spChk) (by decide +kernel) rfl rfl ⟨rfl, by decide, by decide⟩ (fun w h Y => PySem.W.kIn_of Y) ?F ?S (fun _ _ _ _ z => z)
  case F =>
    intro w mg fa h Y KX G hmg
    have n_len : mg "len" = none := by refine' L2.nm_mk KX G ?a; (case a => k_is)
    have n_ord : mg "ord" = none := by refine' L2.nm_mk KX G ?a; (case a => k_is)
    have n_range : mg "range" = none := by refine' L2.nm_mk KX G ?a; (case a => k_is)
    have n_enumerate : mg "enumerate" = none := by refine' L2.nm_mk KX G ?a; (case a => k_is)
    have n_sum : mg "sum" = none := by refine' L2.nm_mk KX G ?a; (case a => k_is)
    have n_all : mg "all" = none := by refine' L2.nm_mk KX G ?a; (case a => k_is)
    have n_any : mg "any" = none := by refine' L2.nm_mk KX G ?a; (case a => k_is)
    have c_BLANK : L2.GI mg "BLANK" 32 := by refine' L2.gi_mk KX G ?a; (case a => k_is)
    have c_QUOTE : L2.GI mg "QUOTE" 34 := by refine' L2.gi_mk KX G ?a; (case a => k_is)
    have c_PLUS : L2.GI mg "PLUS" 43 := by refine' L2.gi_mk KX G ?a; (case a => k_is)
    have c_MINUS : L2.GI mg "MINUS" 45 := by refine' L2.gi_mk KX G ?a; (case a => k_is)
    have c_POINT : L2.GI mg "POINT" 46 := by refine' L2.gi_mk KX G ?a; (case a => k_is)
    have c_ZERO : L2.GI mg "ZERO" 48 := by refine' L2.gi_mk KX G ?a; (case a => k_is)
    have c_NINE : L2.GI mg "NINE" 57 := by refine' L2.gi_mk KX G ?a; (case a => k_is)
    have c_SEMICOLON : L2.GI mg "SEMICOLON" 59 := by refine' L2.gi_mk KX G ?a; (case a => k_is)
    have c_LARGE_A : L2.GI mg "LARGE_A" 65 := by refine' L2.gi_mk KX G ?a; (case a => k_is)
    have c_LARGE_E : L2.GI mg "LARGE_E" 69 := by refine' L2.gi_mk KX G ?a; (case a => k_is)
    have c_LARGE_Z : L2.GI mg "LARGE_Z" 90 := by refine' L2.gi_mk KX G ?a; (case a => k_is)
    have c_OPENING_BRACKET : L2.GI mg "OPENING_BRACKET" 91 := by refine' L2.gi_mk KX G ?a; (case a => k_is)
    have c_BACKSLASH : L2.GI mg "BACKSLASH" 92 := by refine' L2.gi_mk KX G ?a; (case a => k_is)
    have c_CLOSING_BRACKET : L2.GI mg "CLOSING_BRACKET" 93 := by refine' L2.gi_mk KX G ?a; (case a => k_is)
    have c_UNDERSCORE : L2.GI mg "UNDERSCORE" 95 := by refine' L2.gi_mk KX G ?a; (case a => k_is)
    have c_SMALL_H : L2.GI mg "SMALL_H" 104 := by refine' L2.gi_mk KX G ?a; (case a => k_is)
    have c_SMALL_M : L2.GI mg "SMALL_M" 109 := by refine' L2.gi_mk KX G ?a; (case a => k_is)
    have c_SMALL_S : L2.GI mg "SMALL_S" 115 := by refine' L2.gi_mk KX G ?a; (case a => k_is)
    have c_LAST_CHARACTER : L2.GI mg "LAST_CHARACTER" 1114111 := by refine' L2.gi_mk KX G ?a; (case a => k_is)
    have c_FIRST_SURROGATE : L2.GI mg "FIRST_SURROGATE" 55296 := by refine' L2.gi_mk KX G ?a; (case a => k_is)
    have c_LAST_SURROGATE : L2.GI mg "LAST_SURROGATE" 57343 := by refine' L2.gi_mk KX G ?a; (case a => k_is)
    have c_LEAST_BY_SIZE : L2.TupX KX mg "LEAST_BY_SIZE" [.int 0, .int 0, .int 128, .int 2048, .int 65536] := by
      refine' L2.tup_mk KX G ?a ?l ?z ?v
      (case a => k_is); (case l => k_is)
      case z => decide
      case v => exact (.cons ⟨_, rfl⟩ (.cons ⟨_, rfl⟩ (.cons ⟨_, rfl⟩ (.cons ⟨_, rfl⟩ (.cons ⟨_, rfl⟩ .nil)))))
    have c_COMPARISONS : L2.TupX KX mg "COMPARISONS" [.str "<=", .str ">=", .str "<>", .str "<", .str ">", .str "="] := by
      refine' L2.tup_mk KX G ?a ?l ?z ?v
      (case a => k_is); (case l => k_is)
      case z => decide
      case v => exact (.cons ⟨_, rfl⟩ (.cons ⟨_, rfl⟩ (.cons ⟨_, rfl⟩ (.cons ⟨_, rfl⟩ (.cons ⟨_, rfl⟩ (.cons ⟨_, rfl⟩ .nil))))))
    have c_MOST_DIGITS : L2.GI mg "MOST_DIGITS" 24 := by refine' L2.gi_mk KX G ?a; (case a => k_is)
    have c_MOST_DECIMALS : L2.GI mg "MOST_DECIMALS" 12 := by refine' L2.gi_mk KX G ?a; (case a => k_is)
    have c_SIGNS : L2.DicX KX NP.PR w mg "SIGNS" [(.inl 48, .str "place"), (.inl 35, .str "place"), (.inl 63, .str "place"), (.inl 46, .str "point"), (.inl 44, .str "comma"), (.inl 37, .str "percent"), (.inl 64, .str "at")] := by
      refine' L2.dic_mk KX G ?a ?l ?ns ?few ?nd ?en
      (case a => k_is); (case l => k_is)
      case ns => rfl
      case few => decide
      case nd => decide +kernel
      case en => exact (.cons rfl rfl ⟨_, rfl⟩ (.cons rfl rfl ⟨_, rfl⟩ (.cons rfl rfl ⟨_, rfl⟩ (.cons rfl rfl ⟨_, rfl⟩ (.cons rfl rfl ⟨_, rfl⟩ (.cons rfl rfl ⟨_, rfl⟩ (.cons rfl rfl ⟨_, rfl⟩ .nil)))))))
    have c_WORDS : L2.DicX KX NP.PR w mg "WORDS" [(.inr "general", .str "general"), (.inr "am/pm", .str "noon"), (.inr "a/p", .str "noon")] := by
      refine' L2.dic_mk KX G ?a ?l ?ns ?few ?nd ?en
      (case a => k_is); (case l => k_is)
      case ns => rfl
      case few => decide
      case nd => decide +kernel
      case en => exact (.cons rfl rfl ⟨_, rfl⟩ (.cons rfl rfl ⟨_, rfl⟩ (.cons rfl rfl ⟨_, rfl⟩ .nil)))
    have c_LONGEST_ROWS : L2.DicX KX NP.PR w mg "LONGEST_ROWS" [(.inl 121, .int 4), (.inl 109, .int 5), (.inl 100, .int 4), (.inl 104, .int 2), (.inl 115, .int 2)] := by
      refine' L2.dic_mk KX G ?a ?l ?ns ?few ?nd ?en
      (case a => k_is); (case l => k_is)
      case ns => rfl
      case few => decide
      case nd => decide +kernel
      case en => exact (.cons rfl rfl ⟨_, rfl⟩ (.cons rfl rfl ⟨_, rfl⟩ (.cons rfl rfl ⟨_, rfl⟩ (.cons rfl rfl ⟨_, rfl⟩ (.cons rfl rfl ⟨_, rfl⟩ .nil)))))
    have c_LONGEST_PASSED_TIME : L2.GI mg "LONGEST_PASSED_TIME" 9 := by refine' L2.gi_mk KX G ?a; (case a => k_is)
    have c_MOST_DECIMALS_OF_SECONDS : L2.GI mg "MOST_DECIMALS_OF_SECONDS" 3 := by refine' L2.gi_mk KX G ?a; (case a => k_is)
    have c_PLAIN : L2.GS mg "PLAIN" " !$&'()+-/:<=>^{}~" := by refine' L2.gs_mk KX G ?a; (case a => k_is)
    have c_COLOURS : L2.TupX KX mg "COLOURS" [.str "black", .str "blue", .str "cyan", .str "green", .str "magenta", .str "red", .str "white", .str "yellow"] := by
      refine' L2.tup_mk KX G ?a ?l ?z ?v
      (case a => k_is); (case l => k_is)
      case z => decide
      case v => exact (.cons ⟨_, rfl⟩ (.cons ⟨_, rfl⟩ (.cons ⟨_, rfl⟩ (.cons ⟨_, rfl⟩ (.cons ⟨_, rfl⟩ (.cons ⟨_, rfl⟩ (.cons ⟨_, rfl⟩ (.cons ⟨_, rfl⟩ .nil))))))))
    have c_MOST_BYTES : L2.GI mg "MOST_BYTES" 255 := by refine' L2.gi_mk KX G ?a; (case a => k_is)
    have c_MOST_SECTIONS : L2.GI mg "MOST_SECTIONS" 4 := by refine' L2.gi_mk KX G ?a; (case a => k_is)
    have c_TEXTS_ALONE : L2.GI mg "TEXTS_ALONE" 0 := by refine' L2.gi_mk KX G ?a; (case a => k_is)
    have c_DIGITS : L2.GI mg "DIGITS" 1 := by refine' L2.gi_mk KX G ?a; (case a => k_is)
    have c_DAYS_AND_TIMES : L2.GI mg "DAYS_AND_TIMES" 2 := by refine' L2.gi_mk KX G ?a; (case a => k_is)
    have c_WITH_TEXT : L2.GI mg "WITH_TEXT" 3 := by refine' L2.gi_mk KX G ?a; (case a => k_is)
    have c_AS_IT_IS : L2.GI mg "AS_IT_IS" 4 := by refine' L2.gi_mk KX G ?a; (case a => k_is)
    have c_COLOUR_OR_CONDITION : L2.TupX KX mg "COLOUR_OR_CONDITION" [.str "colour", .str "condition"] := by
      refine' L2.tup_mk KX G ?a ?l ?z ?v
      (case a => k_is); (case l => k_is)
      case z => decide
      case v => exact (.cons ⟨_, rfl⟩ (.cons ⟨_, rfl⟩ .nil))
    have c_FREE_PIECES : L2.TupX KX mg "FREE_PIECES" [.str "text", .str "colour", .str "condition"] := by
      refine' L2.tup_mk KX G ?a ?l ?z ?v
      (case a => k_is); (case l => k_is)
      case z => decide
      case v => exact (.cons ⟨_, rfl⟩ (.cons ⟨_, rfl⟩ (.cons ⟨_, rfl⟩ .nil)))
    have c_DAY_PIECES : L2.TupX KX mg "DAY_PIECES" [.str "part", .str "noon", .str "passed"] := by
      refine' L2.tup_mk KX G ?a ?l ?z ?v
      (case a => k_is); (case l => k_is)
      case z => decide
      case v => exact (.cons ⟨_, rfl⟩ (.cons ⟨_, rfl⟩ (.cons ⟨_, rfl⟩ .nil)))
    have c_DIGIT_PIECES : L2.TupX KX mg "DIGIT_PIECES" [.str "place", .str "point", .str "comma", .str "percent", .str "exponent"] := by
      refine' L2.tup_mk KX G ?a ?l ?z ?v
      (case a => k_is); (case l => k_is)
      case z => decide
      case v => exact (.cons ⟨_, rfl⟩ (.cons ⟨_, rfl⟩ (.cons ⟨_, rfl⟩ (.cons ⟨_, rfl⟩ (.cons ⟨_, rfl⟩ .nil)))))
    have c_NO_PICTURE : L2.GI mg "NO_PICTURE" (-3) := by refine' L2.gi_mk KX G ?a; (case a => k_is)
    have T : NP.TX NP.PR w _ mg := ⟨n_len, n_ord, n_range, n_enumerate, n_sum, n_all, n_any, c_BLANK, c_QUOTE, c_PLUS, c_MINUS, c_POINT, c_ZERO, c_NINE, c_SEMICOLON, c_LARGE_A, c_LARGE_E, c_LARGE_Z, c_OPENING_BRACKET, c_BACKSLASH, c_CLOSING_BRACKET, c_UNDERSCORE, c_SMALL_H, c_SMALL_M, c_SMALL_S, c_LAST_CHARACTER, c_FIRST_SURROGATE, c_LAST_SURROGATE, c_LEAST_BY_SIZE, c_COMPARISONS, c_MOST_DIGITS, c_MOST_DECIMALS, c_SIGNS, c_WORDS, c_LONGEST_ROWS, c_LONGEST_PASSED_TIME, c_MOST_DECIMALS_OF_SECONDS, c_PLAIN, c_COLOURS, c_MOST_BYTES, c_MOST_SECTIONS, c_TEXTS_ALONE, c_DIGITS, c_DAYS_AND_TIMES, c_WITH_TEXT, c_AS_IT_IS, c_COLOUR_OR_CONDITION, c_FREE_PIECES, c_DAY_PIECES, c_DIGIT_PIECES, c_NO_PICTURE⟩
    have d_small : L2.DefInX KX mg "small" (NP.top 19) ["code"] := by
      refine' L2.defIn_mk KX G ?a ?l ?c ?k ?b
      (case a => k_is); (case l => k_is); (case c => k_is); (case k => k_is)
      case b => exact fun _ _ _ _ _ _ us hl => match us, hl with | [_], _ => rfl
    have d_codes_of : L2.DefInX KX mg "codes_of" (NP.top 20) ["word"] := by
      refine' L2.defIn_mk KX G ?a ?l ?c ?k ?b
      (case a => k_is); (case l => k_is); (case c => k_is); (case k => k_is)
      case b => exact fun _ _ _ _ _ _ us hl => match us, hl with | [_], _ => rfl
    have d_begins_with : L2.DefInX KX mg "begins_with" (NP.top 21) ["codes", "at", "word"] := by
      refine' L2.defIn_mk KX G ?a ?l ?c ?k ?b
      (case a => k_is); (case l => k_is); (case c => k_is); (case k => k_is)
      case b => exact fun _ _ _ _ _ _ us hl => match us, hl with | [_, _, _], _ => rfl
    have d_end_of_digits : L2.DefInX KX mg "end_of_digits" (NP.top 22) ["codes", "begin"] := by
      refine' L2.defIn_mk KX G ?a ?l ?c ?k ?b
      (case a => k_is); (case l => k_is); (case c => k_is); (case k => k_is)
      case b => exact fun _ _ _ _ _ _ us hl => match us, hl with | [_, _], _ => rfl
    have d_are_digits : L2.DefInX KX mg "are_digits" (NP.top 23) ["codes", "least", "most"] := by
      refine' L2.defIn_mk KX G ?a ?l ?c ?k ?b
      (case a => k_is); (case l => k_is); (case c => k_is); (case k => k_is)
      case b => exact fun _ _ _ _ _ _ us hl => match us, hl with | [_, _, _], _ => rfl
    have d_parted : L2.DefInX KX mg "parted" (NP.top 24) ["codes", "sign"] := by
      refine' L2.defIn_mk KX G ?a ?l ?c ?k ?b
      (case a => k_is); (case l => k_is); (case c => k_is); (case k => k_is)
      case b => exact fun _ _ _ _ _ _ us hl => match us, hl with | [_, _], _ => rfl
    have d_number_of : L2.DefInX KX mg "number_of" (NP.top 25) ["digits"] := by
      refine' L2.defIn_mk KX G ?a ?l ?c ?k ?b
      (case a => k_is); (case l => k_is); (case c => k_is); (case k => k_is)
      case b => exact fun _ _ _ _ _ _ us hl => match us, hl with | [_], _ => rfl
    have d_character_size : L2.DefInX KX mg "character_size" (NP.top 31) ["first"] := by
      refine' L2.defIn_mk KX G ?a ?l ?c ?k ?b
      (case a => k_is); (case l => k_is); (case c => k_is); (case k => k_is)
      case b => exact fun _ _ _ _ _ _ us hl => match us, hl with | [_], _ => rfl
    have d_is_character : L2.DefInX KX mg "is_character" (NP.top 32) ["codes"] := by
      refine' L2.defIn_mk KX G ?a ?l ?c ?k ?b
      (case a => k_is); (case l => k_is); (case c => k_is); (case k => k_is)
      case b => exact fun _ _ _ _ _ _ us hl => match us, hl with | [_], _ => rfl
    have d_is_well_made : L2.DefInX KX mg "is_well_made" (NP.top 33) ["codes"] := by
      refine' L2.defIn_mk KX G ?a ?l ?c ?k ?b
      (case a => k_is); (case l => k_is); (case c => k_is); (case k => k_is)
      case b => exact fun _ _ _ _ _ _ us hl => match us, hl with | [_], _ => rfl
    have d_power : L2.DefInX KX mg "power" (NP.top 35) ["base", "exponent"] := by
      refine' L2.defIn_mk KX G ?a ?l ?c ?k ?b
      (case a => k_is); (case l => k_is); (case c => k_is); (case k => k_is)
      case b => exact fun _ _ _ _ _ _ us hl => match us, hl with | [_, _], _ => rfl
    obtain ⟨C_Condition, dc_Condition, na_Condition_comparison, na_Condition_limit⟩ : ∃ C, L2.ClsInX KX mg "Condition" "Condition.__init__" (L2.inClass (NP.top 40) 0) ["self", "comparison", "limit"] C ∧ L2.NoAttrX KX C "comparison" ∧ L2.NoAttrX KX C "limit" := by
      refine' ⟨_, L2.clsIn_mk KX G ?a ?a1 ?i1 ?l ?c ?k ?pg ?hd ?po ?sa ?mk ?kc ?b, ?n_comparison, ?n_limit⟩
      (case a => k_is); (case a1 => k_is); (case i1 => k_is); (case l => k_is); (case c => k_is); (case k => k_is); (case pg => k_is); (case hd => k_is); (case po => k_is); (case sa => k_is); (case mk => k_is); (case kc => k_is)
      case b => exact fun _ _ _ _ _ _ us hl => match us, hl with | [_, _, _], _ => rfl
      (case n_comparison => show PySem.W.findIn _ _ _ = some none; k_is)
      (case n_limit => show PySem.W.findIn _ _ _ = some none; k_is)
    have tx_Condition : NP.Tx_Condition _ C_Condition := ⟨dc_Condition.cl, na_Condition_comparison, na_Condition_limit⟩
    have d_read_condition : L2.DefInX KX mg "read_condition" (NP.top 41) ["inner"] := by
      refine' L2.defIn_mk KX G ?a ?l ?c ?k ?b
      (case a => k_is); (case l => k_is); (case c => k_is); (case k => k_is)
      case b => exact fun _ _ _ _ _ _ us hl => match us, hl with | [_], _ => rfl
    have d_read_limit : L2.DefInX KX mg "read_limit" (NP.top 42) ["comparison", "codes"] := by
      refine' L2.defIn_mk KX G ?a ?l ?c ?k ?b
      (case a => k_is); (case l => k_is); (case c => k_is); (case k => k_is)
      case b => exact fun _ _ _ _ _ _ us hl => match us, hl with | [_, _], _ => rfl
    obtain ⟨C_NoPicture, e_NoPicture, q_NoPicture⟩ : ∃ C, L2.OwnExX KX "NoPicture" C := by
      refine' L2.ownEx_mk KX ?exa ?exq
      (case exa => k_is)
      case exq => k_exc
    obtain ⟨C_Piece, dc_Piece, na_Piece_name, na_Piece_value, na_Piece_end⟩ : ∃ C, L2.ClsInX KX mg "Piece" "Piece.__init__" (L2.inClass (NP.top 52) 0) ["self", "name", "value", "end"] C ∧ L2.NoAttrX KX C "name" ∧ L2.NoAttrX KX C "value" ∧ L2.NoAttrX KX C "end" := by
      refine' ⟨_, L2.clsIn_mk KX G ?a ?a1 ?i1 ?l ?c ?k ?pg ?hd ?po ?sa ?mk ?kc ?b, ?n_name, ?n_value, ?n_end⟩
      (case a => k_is); (case a1 => k_is); (case i1 => k_is); (case l => k_is); (case c => k_is); (case k => k_is); (case pg => k_is); (case hd => k_is); (case po => k_is); (case sa => k_is); (case mk => k_is); (case kc => k_is)
      case b => exact fun _ _ _ _ _ _ us hl => match us, hl with | [_, _, _, _], _ => rfl
      (case n_name => show PySem.W.findIn _ _ _ = some none; k_is)
      (case n_value => show PySem.W.findIn _ _ _ = some none; k_is)
      (case n_end => show PySem.W.findIn _ _ _ = some none; k_is)
    have tx_Piece : NP.Tx_Piece _ C_Piece := ⟨dc_Piece.cl, na_Piece_name, na_Piece_value, na_Piece_end⟩
    obtain ⟨C_Part, dc_Part, na_Part_letter, na_Part_size, na_Part_decimals⟩ : ∃ C, L2.ClsInX KX mg "Part" "Part.__init__" (L2.inClass (NP.top 53) 0) ["self", "letter", "size", "decimals"] C ∧ L2.NoAttrX KX C "letter" ∧ L2.NoAttrX KX C "size" ∧ L2.NoAttrX KX C "decimals" := by
      refine' ⟨_, L2.clsIn_mk KX G ?a ?a1 ?i1 ?l ?c ?k ?pg ?hd ?po ?sa ?mk ?kc ?b, ?n_letter, ?n_size, ?n_decimals⟩
      (case a => k_is); (case a1 => k_is); (case i1 => k_is); (case l => k_is); (case c => k_is); (case k => k_is); (case pg => k_is); (case hd => k_is); (case po => k_is); (case sa => k_is); (case mk => k_is); (case kc => k_is)
      case b => exact fun _ _ _ _ _ _ us hl => match us, hl with | [_, _, _, _], _ => rfl
      (case n_letter => show PySem.W.findIn _ _ _ = some none; k_is)
      (case n_size => show PySem.W.findIn _ _ _ = some none; k_is)
      (case n_decimals => show PySem.W.findIn _ _ _ = some none; k_is)
    have tx_Part : NP.Tx_Part _ C_Part := ⟨dc_Part.cl, na_Part_letter, na_Part_size, na_Part_decimals⟩
    have d_read_piece : L2.DefInX KX mg "read_piece" (NP.top 54) ["picture", "at"] := by
      refine' L2.defIn_mk KX G ?a ?l ?c ?k ?b
      (case a => k_is); (case l => k_is); (case c => k_is); (case k => k_is)
      case b => exact fun _ _ _ _ _ _ us hl => match us, hl with | [_, _], _ => rfl
    have d_closing_place : L2.DefInX KX mg "closing_place" (NP.top 55) ["picture", "at", "closing"] := by
      refine' L2.defIn_mk KX G ?a ?l ?c ?k ?b
      (case a => k_is); (case l => k_is); (case c => k_is); (case k => k_is)
      case b => exact fun _ _ _ _ _ _ us hl => match us, hl with | [_, _, _], _ => rfl
    have d_read_character_behind : L2.DefInX KX mg "read_character_behind" (NP.top 56) ["picture", "at"] := by
      refine' L2.defIn_mk KX G ?a ?l ?c ?k ?b
      (case a => k_is); (case l => k_is); (case c => k_is); (case k => k_is)
      case b => exact fun _ _ _ _ _ _ us hl => match us, hl with | [_, _], _ => rfl
    have d_read_row : L2.DefInX KX mg "read_row" (NP.top 57) ["picture", "at"] := by
      refine' L2.defIn_mk KX G ?a ?l ?c ?k ?b
      (case a => k_is); (case l => k_is); (case c => k_is); (case k => k_is)
      case b => exact fun _ _ _ _ _ _ us hl => match us, hl with | [_, _], _ => rfl
    have d_make_part : L2.DefInX KX mg "make_part" (NP.top 58) ["picture", "name", "letter", "size", "end"] := by
      refine' L2.defIn_mk KX G ?a ?l ?c ?k ?b
      (case a => k_is); (case l => k_is); (case c => k_is); (case k => k_is)
      case b => exact fun _ _ _ _ _ _ us hl => match us, hl with | [_, _, _, _, _], _ => rfl
    have d_count_decimals : L2.DefInX KX mg "count_decimals" (NP.top 59) ["picture", "at"] := by
      refine' L2.defIn_mk KX G ?a ?l ?c ?k ?b
      (case a => k_is); (case l => k_is); (case c => k_is); (case k => k_is)
      case b => exact fun _ _ _ _ _ _ us hl => match us, hl with | [_, _], _ => rfl
    have d_read_bracket : L2.DefInX KX mg "read_bracket" (NP.top 60) ["picture", "at"] := by
      refine' L2.defIn_mk KX G ?a ?l ?c ?k ?b
      (case a => k_is); (case l => k_is); (case c => k_is); (case k => k_is)
      case b => exact fun _ _ _ _ _ _ us hl => match us, hl with | [_, _], _ => rfl
    have d_colour_number : L2.DefInX KX mg "colour_number" (NP.top 61) ["inner"] := by
      refine' L2.defIn_mk KX G ?a ?l ?c ?k ?b
      (case a => k_is); (case l => k_is); (case c => k_is); (case k => k_is)
      case b => exact fun _ _ _ _ _ _ us hl => match us, hl with | [_], _ => rfl
    have d_is_passed_time : L2.DefInX KX mg "is_passed_time" (NP.top 62) ["inner"] := by
      refine' L2.defIn_mk KX G ?a ?l ?c ?k ?b
      (case a => k_is); (case l => k_is); (case c => k_is); (case k => k_is)
      case b => exact fun _ _ _ _ _ _ us hl => match us, hl with | [_], _ => rfl
    obtain ⟨C_Section, dc_Section, na_Section_colour, na_Section_kind, na_Section_condition, na_Section_pieces⟩ : ∃ C, L2.ClsInX KX mg "Section" "Section.__init__" (L2.inClass (NP.top 75) 0) ["self", "colour", "kind", "condition", "pieces"] C ∧ L2.NoAttrX KX C "colour" ∧ L2.NoAttrX KX C "kind" ∧ L2.NoAttrX KX C "condition" ∧ L2.NoAttrX KX C "pieces" := by
      refine' ⟨_, L2.clsIn_mk KX G ?a ?a1 ?i1 ?l ?c ?k ?pg ?hd ?po ?sa ?mk ?kc ?b, ?n_colour, ?n_kind, ?n_condition, ?n_pieces⟩
      (case a => k_is); (case a1 => k_is); (case i1 => k_is); (case l => k_is); (case c => k_is); (case k => k_is); (case pg => k_is); (case hd => k_is); (case po => k_is); (case sa => k_is); (case mk => k_is); (case kc => k_is)
      case b => exact fun _ _ _ _ _ _ us hl => match us, hl with | [_, _, _, _, _], _ => rfl
      (case n_colour => show PySem.W.findIn _ _ _ = some none; k_is)
      (case n_kind => show PySem.W.findIn _ _ _ = some none; k_is)
      (case n_condition => show PySem.W.findIn _ _ _ = some none; k_is)
      (case n_pieces => show PySem.W.findIn _ _ _ = some none; k_is)
    have tx_Section : NP.Tx_Section _ C_Section := ⟨dc_Section.cl, na_Section_colour, na_Section_kind, na_Section_condition, na_Section_pieces⟩
    have d_read_sections : L2.DefInX KX mg "read_sections" (NP.top 76) ["picture"] := by
      refine' L2.defIn_mk KX G ?a ?l ?c ?k ?b
      (case a => k_is); (case l => k_is); (case c => k_is); (case k => k_is)
      case b => exact fun _ _ _ _ _ _ us hl => match us, hl with | [_], _ => rfl
    have d_part_pieces : L2.DefInX KX mg "part_pieces" (NP.top 77) ["picture"] := by
      refine' L2.defIn_mk KX G ?a ?l ?c ?k ?b
      (case a => k_is); (case l => k_is); (case c => k_is); (case k => k_is)
      case b => exact fun _ _ _ _ _ _ us hl => match us, hl with | [_], _ => rfl
    have d_make_section : L2.DefInX KX mg "make_section" (NP.top 78) ["pieces"] := by
      refine' L2.defIn_mk KX G ?a ?l ?c ?k ?b
      (case a => k_is); (case l => k_is); (case c => k_is); (case k => k_is)
      case b => exact fun _ _ _ _ _ _ us hl => match us, hl with | [_], _ => rfl
    have d_find_kind : L2.DefInX KX mg "find_kind" (NP.top 79) ["pieces"] := by
      refine' L2.defIn_mk KX G ?a ?l ?c ?k ?b
      (case a => k_is); (case l => k_is); (case c => k_is); (case k => k_is)
      case b => exact fun _ _ _ _ _ _ us hl => match us, hl with | [_], _ => rfl
    have d_are_right_digits : L2.DefInX KX mg "are_right_digits" (NP.top 80) ["pieces"] := by
      refine' L2.defIn_mk KX G ?a ?l ?c ?k ?b
      (case a => k_is); (case l => k_is); (case c => k_is); (case k => k_is)
      case b => exact fun _ _ _ _ _ _ us hl => match us, hl with | [_], _ => rfl
    have d_whole_part : L2.DefInX KX mg "whole_part" (NP.top 81) ["names"] := by
      refine' L2.defIn_mk KX G ?a ?l ?c ?k ?b
      (case a => k_is); (case l => k_is); (case c => k_is); (case k => k_is)
      case b => exact fun _ _ _ _ _ _ us hl => match us, hl with | [_], _ => rfl
    have d_is_right_number : L2.DefInX KX mg "is_right_number" (NP.top 82) ["names"] := by
      refine' L2.defIn_mk KX G ?a ?l ?c ?k ?b
      (case a => k_is); (case l => k_is); (case c => k_is); (case k => k_is)
      case b => exact fun _ _ _ _ _ _ us hl => match us, hl with | [_], _ => rfl
    have d_may_have_exponent : L2.DefInX KX mg "may_have_exponent" (NP.top 83) ["names"] := by
      refine' L2.defIn_mk KX G ?a ?l ?c ?k ?b
      (case a => k_is); (case l => k_is); (case c => k_is); (case k => k_is)
      case b => exact fun _ _ _ _ _ _ us hl => match us, hl with | [_], _ => rfl
    have d_is_right_exponent : L2.DefInX KX mg "is_right_exponent" (NP.top 84) ["pieces"] := by
      refine' L2.defIn_mk KX G ?a ?l ?c ?k ?b
      (case a => k_is); (case l => k_is); (case c => k_is); (case k => k_is)
      case b => exact fun _ _ _ _ _ _ us hl => match us, hl with | [_], _ => rfl
    have d_are_right_together : L2.DefInX KX mg "are_right_together" (NP.top 85) ["sections"] := by
      refine' L2.defIn_mk KX G ?a ?l ?c ?k ?b
      (case a => k_is); (case l => k_is); (case c => k_is); (case k => k_is)
      case b => exact fun _ _ _ _ _ _ us hl => match us, hl with | [_], _ => rfl
    have d_check : L2.DefInX KX mg "check" (NP.top 88) ["picture"] := by
      refine' L2.defIn_mk KX G ?a ?l ?c ?k ?b
      (case a => k_is); (case l => k_is); (case c => k_is); (case k => k_is)
      case b => exact fun _ _ _ _ _ _ us hl => match us, hl with | [_], _ => rfl
    obtain ⟨f, fd, h1, h2, h3, h4⟩ := d_check.ex
    have e := hmg.symm.trans h1
    cases e
    refine ⟨fd, h4, fun base KB GB => ?_⟩
    have EX := L2.exc_mk KB GB e_NoPicture q_NoPicture
    have FB := PySem.F.excBase_ValueError
    have o_small := d_small.own (P := NP.PR) (w := w) (base := base) fun _ _ F => NP.ok_small T F
    have o_codes_of := d_codes_of.own (P := NP.PR) (w := w) (base := base) fun _ _ F => NP.ok_codes T F
    have o_begins_with := d_begins_with.own (P := NP.PR) (w := w) (base := base) fun _ _ F => NP.ok_begins T o_small o_codes_of F
    have o_end_of_digits := d_end_of_digits.own (P := NP.PR) (w := w) (base := base) fun _ _ F => NP.ok_eod T F
    have o_are_digits := d_are_digits.own (P := NP.PR) (w := w) (base := base) fun _ _ F => NP.ok_ared T o_end_of_digits F
    have o_parted := d_parted.own (P := NP.PR) (w := w) (base := base) fun _ _ F => NP.ok_parted T F
    have o_number_of := d_number_of.own (P := NP.PR) (w := w) (base := base) fun _ _ F => NP.ok_numof T F
    have o_character_size := d_character_size.own (P := NP.PR) (w := w) (base := base) fun _ _ F => NP.ok_csize F
    have o_is_character := d_is_character.own (P := NP.PR) (w := w) (base := base) fun _ _ F => NP.ok_isChar T F
    have o_is_well_made := d_is_well_made.own (P := NP.PR) (w := w) (base := base) fun _ _ F => NP.ok_well T o_character_size o_is_character F
    have o_power := d_power.own (P := NP.PR) (w := w) (base := base) fun _ _ F => NP.ok_power T F
    have o_Condition := dc_Condition.own (P := NP.PR) (w := w) (base := base) fun _ _ F => NP.ok_Condition tx_Condition F
    have o_Piece := dc_Piece.own (P := NP.PR) (w := w) (base := base) fun _ _ F => NP.ok_Piece tx_Piece F
    have o_Part := dc_Part.own (P := NP.PR) (w := w) (base := base) fun _ _ F => NP.ok_Part tx_Part F
    have o_Section := dc_Section.own (P := NP.PR) (w := w) (base := base) fun _ _ F => NP.ok_Section tx_Section F
    have o_read_limit := d_read_limit.own (P := NP.PR) (w := w) (base := base) fun _ _ F => NP.ok_rlim T o_are_digits o_parted o_number_of o_power o_Condition F
    have o_read_condition := d_read_condition.own (P := NP.PR) (w := w) (base := base) fun _ _ F => NP.ok_rcond T o_begins_with o_read_limit F
    have o_closing_place := d_closing_place.own (P := NP.PR) (w := w) (base := base) fun _ _ F => NP.ok_close T EX FB F
    have o_read_character_behind := d_read_character_behind.own (P := NP.PR) (w := w) (base := base) fun _ _ F => NP.ok_rbeh (C := ⟨C_Piece, C_Part, C_Condition⟩) T EX FB o_character_size o_Piece F
    have o_count_decimals := d_count_decimals.own (P := NP.PR) (w := w) (base := base) fun _ _ F => NP.ok_cdec T F
    have o_make_part := d_make_part.own (P := NP.PR) (w := w) (base := base) fun _ _ F => NP.ok_mpart (C := ⟨C_Piece, C_Part, C_Condition⟩) T o_count_decimals o_Piece o_Part F
    have o_read_row := d_read_row.own (P := NP.PR) (w := w) (base := base) fun _ _ F => NP.ok_rrow T EX FB o_small o_make_part F
    have o_colour_number := d_colour_number.own (P := NP.PR) (w := w) (base := base) fun _ _ F => NP.ok_col T o_codes_of F
    have o_is_passed_time := d_is_passed_time.own (P := NP.PR) (w := w) (base := base) fun _ _ F => NP.ok_pas T F
    have o_read_bracket := d_read_bracket.own (P := NP.PR) (w := w) (base := base) fun _ _ F => NP.ok_rbrk T EX FB o_small o_closing_place o_colour_number o_read_condition o_is_passed_time o_make_part o_Piece F
    have o_read_piece := d_read_piece.own (P := NP.PR) (w := w) (base := base) fun _ _ F => NP.ok_rp T EX FB o_small o_codes_of o_begins_with o_character_size o_closing_place o_read_character_behind o_read_bracket o_read_row o_Piece F
    have o_part_pieces := d_part_pieces.own (P := NP.PR) (w := w) (base := base) fun _ _ F => NP.ok_pp T tx_Piece o_read_piece F
    have o_whole_part := d_whole_part.own (P := NP.PR) (w := w) (base := base) fun _ _ F => NP.ok_whp T F
    have o_is_right_number := d_is_right_number.own (P := NP.PR) (w := w) (base := base) fun _ _ F => NP.ok_isn T o_whole_part F
    have o_may_have_exponent := d_may_have_exponent.own (P := NP.PR) (w := w) (base := base) fun _ _ F => NP.ok_mexp T o_whole_part F
    have o_is_right_exponent := d_is_right_exponent.own (P := NP.PR) (w := w) (base := base) fun _ _ F => NP.ok_isx (C := ⟨C_Piece, C_Part, C_Condition⟩) T tx_Piece F
    have o_are_right_digits := d_are_right_digits.own (P := NP.PR) (w := w) (base := base) fun _ _ F => NP.ok_ard T tx_Piece o_is_right_number o_may_have_exponent o_is_right_exponent F
    have o_find_kind := d_find_kind.own (P := NP.PR) (w := w) (base := base) fun _ _ F => NP.ok_fk T tx_Piece EX FB o_are_right_digits F
    have o_make_section := d_make_section.own (P := NP.PR) (w := w) (base := base) fun _ _ F => NP.ok_msec T tx_Piece EX FB o_find_kind o_Section F
    have o_are_right_together := d_are_right_together.own (P := NP.PR) (w := w) (base := base) fun _ _ F => NP.ok_art (C := ⟨C_Piece, C_Part, C_Condition⟩) T tx_Section F
    have o_read_sections := d_read_sections.own (P := NP.PR) (w := w) (base := base) fun _ _ F => NP.ok_rs T EX FB o_is_well_made o_part_pieces o_make_section o_are_right_together F
    exact NP.ok_chk T tx_Section EX FB o_read_sections h2
  case S =>
    intro K H xs a hO hwi hask hx
    cases hx with
    | cons h1 h2 =>
      cases h2
      cases h1 with
      | lst hs ha =>
        have e := L2.ints_dw a.1 _ ha
        subst e
        have q : ((Codec.inLen 0 65535 a.1 && a.1.all (Codec.inInt 0 255)) && true) = true := hwi
        rw [Bool.and_eq_true, Bool.and_eq_true] at q
        have hl := (Codec.inNat_iff.mp q.1.1).2
        have hb : NP.Byt a.1 := fun n hn => by
          have := List.all_eq_true.mp q.1.2 n hn
          simpa [Codec.inInt] using this
        have eb := NP.bi_oct hb
        refine ⟨_, NP.oct a.1, rfl, by unfold NP.bv; rw [eb]; exact hs, ?_, fun p H' hp => ?_⟩
        · have := NP.bi_length (NP.oct a.1)
          rw [eb] at this
          omega
        · rw [NP.check_eq, eb] at hp
          exact .lst (L2.SqL.of hp) (L2.dw_ints _)
