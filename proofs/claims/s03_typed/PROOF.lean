import PyProof.Rows.All
import Wide.All
import OpenK.AllK
import Wide.FinOn
import PyProof.EqAt
import PyProof.EqKinds
import PyProof.TupleCall
import KE.BitLaws
import Open.SpecLaws
import KE.OsHead
import KE.OsGo
import KE.IntBitsLaws
import PySem.Challenge.RW_numberpictures_s03_typed
section
set_option Elab.async false
set_option linter.all false
set_option maxRecDepth 100000
namespace L2
open PySem PySem.Spec PyProof.Rows
abbrev Key := Sum Int Str
def keyIs : Key → Value → Bool
  | .inl k, v => Value.isInt k v
  | .inr x, v => Value.isStrOf x v
def keyH (w : World) : Key → Int
  | .inl k => hashInt k
  | .inr x => hashStr w x
theorem keyIs_shape : ∀ {k : Key} {v : Value}, keyIs k v = true → (∃ i t, k = Sum.inl i ∧ v = Value.int i t) ∨ (∃ x t, k = Sum.inr x ∧ v = Value.str x t)
  | .inl i, v, h => by
    obtain ⟨t, e⟩ := Value.isInt_shape (k := i) (v := v) h
    exact .inl ⟨i, t, rfl, e⟩
  | .inr x, v, h => by
    obtain ⟨t, e⟩ := Value.isStrOf_shape (x := x) (v := v) h
    exact .inr ⟨x, t, rfl, e⟩
theorem keyIs_int (i : Int) (t : Tok) : keyIs (.inl i) (.int i t) = true := by simp [keyIs, Value.isInt]
theorem keyIs_str (x : Str) (t : Tok) : keyIs (.inr x) (.str x t) = true := by simp [keyIs, Value.isStrOf]
theorem key_ll (a b : Int) : decide ((Sum.inl a : Key) = Sum.inl b) = (a == b) := by
  by_cases e : a = b
  · subst e; simp
  · have h : ¬ (Sum.inl a : Key) = Sum.inl b := fun q => e (Sum.inl.inj q)
    rw [decide_eq_false h]
    exact (beq_eq_false_iff_ne.mpr e).symm
theorem key_rr (a b : Str) : decide ((Sum.inr a : Key) = Sum.inr b) = decide (a = b) := by
  by_cases e : a = b
  · subst e; simp
  · have h : ¬ (Sum.inr a : Key) = Sum.inr b := fun q => e (Sum.inr.inj q)
    rw [decide_eq_false h, decide_eq_false e]
theorem key_lr (a : Int) (b : Str) : decide ((Sum.inl a : Key) = Sum.inr b) = false := decide_eq_false (fun q => nomatch q)
theorem key_rl (a : Str) (b : Int) : decide ((Sum.inr a : Key) = Sum.inl b) = false := decide_eq_false (fun q => nomatch q)
def mixKind (prog : Program) (w : World) : PySem.KeyKind prog w Key where
  is := keyIs
  hash := keyH w
  inj := fun v a b ha hb => by
    rcases keyIs_shape ha with ⟨i, t, rfl, rfl⟩ | ⟨x, t, rfl, rfl⟩
    · rcases keyIs_shape hb with ⟨j, u, rfl, e⟩ | ⟨y, u, rfl, e⟩
      · injection e with e1 _; rw [e1]
      · exact nomatch e
    · rcases keyIs_shape hb with ⟨j, u, rfl, e⟩ | ⟨y, u, rfl, e⟩
      · exact nomatch e
      · injection e with e1 _; rw [e1]
  byValue := fun k v h => by
    rcases keyIs_shape h with ⟨i, t, rfl, rfl⟩ | ⟨x, t, rfl, rfl⟩ <;> rfl
  pyHash := fun hv h => by
    rcases keyIs_shape hv with ⟨i, t, rfl, rfl⟩ | ⟨x, t, rfl, rfl⟩
    · exact wpAny_pyHash_int h
    · exact wpAny_pyHash_str h
  eqBool := fun hu hv h => by
    rcases keyIs_shape hu with ⟨i, t, rfl, rfl⟩ | ⟨x, t, rfl, rfl⟩
    · rcases keyIs_shape hv with ⟨j, u, rfl, rfl⟩ | ⟨y, u, rfl, rfl⟩
      · rw [key_ll] at h; exact wpAny_eqBool_int h
      · rw [key_lr] at h; exact SeqAt.EqAt.int_str i t y u _ _ _ _ h
    · rcases keyIs_shape hv with ⟨j, u, rfl, rfl⟩ | ⟨y, u, rfl, rfl⟩
      · rw [key_rl] at h; exact SeqAt.EqAt.str_int x t j u _ _ _ _ h
      · rw [key_rr] at h; exact wpAny_eqBool_str h
  «strs» := fun k x t v h => by
    rcases keyIs_shape h with ⟨i, u, rfl, e⟩ | ⟨y, u, rfl, e⟩
    · exact nomatch e
    · injection e with e1 _
      subst e1
      cases v <;> rfl
theorem mixKind_int (prog : Program) (w : World) (i : Int) (t : Tok) : (mixKind prog w).is (.inl i) (.int i t) = true := keyIs_int i t
theorem mixKind_str (prog : Program) (w : World) (x : Str) (t : Tok) : (mixKind prog w).is (.inr x) (.str x t) = true := keyIs_str x t
end L2
namespace L2
open PySem PySem.Spec PyProof.Rows
inductive V where
  | non | bl (b : Bool) | int (i : Int) | str (x : Str) | byt (b : Array UInt8) | flt (b : UInt64) | ref (a : Addr) | ty (n : String)
  deriving DecidableEq
def RelV : V → Value → Prop
  | .non, u => u = Value.none
  | .bl b, u => u = Value.bool b
  | .int i, u => ∃ t, u = Value.int i t
  | .str x, u => ∃ t, u = Value.str x t
  | .byt b, u => ∃ t, u = Value.bytes b t
  | .flt b, u => ∃ t, u = Value.float b t
  | .ref a, u => u = Value.ref a
  | .ty n, u => u = Value.type n
abbrev Vals : List V → List Value → Prop := Paired RelV
theorem Vals.length {xs : List V} {us : List Value} (r : Vals xs us) : xs.length = us.length := Paired.length r
theorem Vals.get : ∀ {xs : List V} {us : List Value} {i : Nat} {x : V}, Vals xs us → xs[i]? = some x → ∃ u, us[i]? = some u ∧ RelV x u
  | _, _, _, _, .nil, e => by simp at e
  | _, _, 0, _, .cons r _, e => by simp at e; subst e; exact ⟨_, rfl, r⟩
  | _, _, i + 1, x, .cons _ t, e => by
    obtain ⟨u, h1, h2⟩ := Vals.get (i := i) (x := x) t (by simpa using e)
    exact ⟨u, by simpa using h1, h2⟩
theorem Vals.append : ∀ {xs ys : List V} {us ws : List Value}, Vals xs us → Vals ys ws → Vals (xs ++ ys) (us ++ ws)
  | _, _, _, _, .nil, s => s
  | _, _, _, _, .cons r t, s => .cons r (Vals.append t s)
theorem Vals.take : ∀ {xs : List V} {us : List Value} (n : Nat), Vals xs us → Vals (xs.take n) (us.take n)
  | _, _, 0, _ => .nil
  | _, _, _ + 1, .nil => .nil
  | _, _, n + 1, .cons r t => .cons r (Vals.take n t)
theorem Vals.drop : ∀ {xs : List V} {us : List Value} (n : Nat), Vals xs us → Vals (xs.drop n) (us.drop n)
  | _, _, 0, r => r
  | _, _, _ + 1, .nil => .nil
  | _, _, n + 1, .cons _ t => Vals.drop n t
def RelO : Option V → Option Value → Prop
  | some v, some u => RelV v u
  | none, none => True
  | _, _ => False
def KV {κ : Type} : List (κ × V) → List (κ × Value) → Prop := Paired fun (p : κ × V) (q : κ × Value) => p.1 = q.1 ∧ RelV p.2 q.2
def kV : Key → V
  | .inl i => .int i
  | .inr x => .str x
inductive HO where
  /-- a list -/
  | lst (xs : List V)
  /-- a tuple (never changes) -/
  | tup (xs : List V)
  /-- a dict whose keys are ints and texts; one whose keys are tuples of ints and texts (the empty one is both) -/
  | dK (kvs : List (Key × V)) | dT (kvs : List (List Key × V))
  /-- a set of ints: its members, its size -/
  | set (S : Int → Bool) (n : Nat)
  /-- an instance of the class at C, its dict at dx, its attributes -/
  | ins (C dx : Addr) (fs : List (Str × V))
  /-- the dict of the instance at x -/
  | own (x : Addr)
  /-- the dict of an exception -/
  | xd (fs : List (Str × V))
  /-- a bound method, f of x -/
  | met (f x : Addr)
  /-- a range object lo, lo + 1, .. below hi -/
  | rng (lo hi : Int)
  /-- a thing that is known to the object (the script; a dict while a loop walks it): read, never written while it is so -/
  | frz (o : Obj) (u : HO)
  /-- a code object's table -/
  | tbl (ps : Array Value)
  /-- any other thing, by what is true of its one object (a def of one's own: SetO a S n := HO.ext fun h => ..) -/
  | ext (φ : Heap → Prop)
abbrev Hp := Addr → Option HO
def upd (H : Hp) (a : Addr) (o : HO) : Hp := fun b => if b = a then some o else H b
theorem upd_same {H : Hp} {a : Addr} {o : HO} : upd H a o a = some o := by unfold upd; rw [if_pos rfl]
theorem upd_ne {H : Hp} {a b : Addr} {o : HO} (h : b ≠ a) : upd H a o b = H b := by unfold upd; rw [if_neg h]
theorem upd_upd {H : Hp} {a : Addr} {o u : HO} : upd (upd H a o) a u = upd H a u := by
  funext b; unfold upd; split <;> rfl
theorem ne_of_none {H : Hp} {a b : Addr} {o : HO} (h : H a = some o) (h' : H b = none) : a ≠ b := by
  intro e; subst e; rw [h] at h'; cases h'
section
variable (P : Program) (w : World)
def ObjOk (H : Hp) (h : Heap) (a : Addr) : HO → Prop
  | .lst xs => xs.length ≤ sizeLine ∧ ∃ (its : List Value) (n : Nat), Vals xs its ∧ h.get? a = some { cls := .type "list", data := .seq its.toArray n }
  | .tup xs => xs.length ≤ sizeLine ∧ ∃ its : List Value, Vals xs its ∧ IsTup h a its.toArray
  | .dK kvs => kvs.length ≤ sizeLine ∧ (a == sysModules) = false ∧ ∃ vs, KV kvs vs ∧ h.DictOf (mixKind P w) a vs
  | .dT kvs => kvs.length ≤ sizeLine ∧ (a == sysModules) = false ∧ ∃ xs : List (List Key × Addr × Value),
      Paired (fun (p : List Key × V) (q : List Key × Addr × Value) => p.1 = q.1 ∧ H q.2.1 = some (.tup (p.1.map kV)) ∧ RelV p.2 q.2.2) kvs xs ∧
      ∃ o es ep, h.get? a = some o ∧ o.ExactDict ∧ o.data = .dict es ep ∧ es.toList = xs.map (entryOfKey (tupleKind (mixKind P w))) ∧ (xs.map (·.1)).Nodup
  | .set S n => h.SetOf (intKind P w) a S n
  | .ins C dx fs => H dx = some (.own a) ∧ fs.length ≤ 1000 ∧ dx ≠ a ∧ h.get? a = some (PySem.W.instObj C dx) ∧
      ∃ mA, h.Ns1 dx mA ∧ (∀ f, RelO (fs.lookup f) (mA f)) ∧ PySem.Within mA (fs.map (·.1))
  | .own _ => ∃ o, h.get? a = some o
  | .xd fs => ∃ mA, h.Ns1 a mA ∧ ∀ f, RelO (fs.lookup f) (mA f)
  | .rng lo hi => ∃ t u v, h.get? a = some { cls := .type "range", data := .fields #[.int lo t, .int hi u, .int 1 v] }
  | .frz o u => h.get? a = some o ∧ ObjOk H h a u
  | .tbl ps => h.get? a = some { cls := .none, data := .fields ps }
  | .met f x => h.get? a = some (PySem.W.methodObj (.ref f) (.ref x))
  | .ext φ => φ h ∧ (∃ o, h.get? a = some o) ∧ ∀ h1 h2 : Heap, φ h1 → (∀ o, h1.get? a = some o → h2.get? a = some o) → φ h2
def HOk (H : Hp) (h : Heap) : Prop := ∀ a o, H a = some o → ObjOk P w H h a o
end
section
variable {P : Program} {w : World} {H H' : Hp} {h h' : Heap} {a : Addr} {o : HO}
theorem ObjOk.lt (x : ObjOk P w H h a o) : a < h.objs.size := by
  cases o with
  | lst xs => obtain ⟨_, _, _, _, e⟩ := x; exact Heap.lt_size e
  | tup xs => obtain ⟨_, _, _, p⟩ := x; exact p.lt
  | dK kvs => obtain ⟨_, _, _, _, o, _, _, e, _⟩ := x; exact Heap.lt_size e
  | dT kvs => obtain ⟨_, _, _, _, o, _, _, e, _⟩ := x; exact Heap.lt_size e
  | set S n => obtain ⟨o, _, _, _, e, _⟩ := x; exact Heap.lt_size e
  | ins C dx fs => obtain ⟨_, _, _, e, _⟩ := x; exact Heap.lt_size e
  | own y => obtain ⟨_, e⟩ := x; exact Heap.lt_size e
  | xd fs => obtain ⟨_, ⟨_, _, _, e, _⟩, _⟩ := x; exact Heap.lt_size e
  | rng lo hi => obtain ⟨_, _, _, e⟩ := x; exact Heap.lt_size e
  | frz ob u => obtain ⟨e, _⟩ := x; exact Heap.lt_size e
  | tbl ps => exact Heap.lt_size (show h.get? a = some _ from x)
  | met f y => exact Heap.lt_size (show h.get? a = some _ from x)
  | ext φ => obtain ⟨_, ⟨_, e⟩, _⟩ := x; exact Heap.lt_size e
theorem Paired.mapP {α β : Type} {F G : α → β → Prop} : ∀ {l₁ : List α} {l₂ : List β}, Paired F l₁ l₂ → (∀ a b, F a b → G a b) → Paired G l₁ l₂
  | _, _, .nil, _ => .nil
  | _, _, .cons r t, f => .cons (f _ _ r) (Paired.mapP t f)
theorem ObjOk.stay (x : ObjOk P w H h a o) (k : ∀ b u, (b = a ∨ H b = some (.own a)) → h.get? b = some u → h'.get? b = some u)
    (ho : ∀ b, H b = some (.own a) → H' b = some (.own a)) (ht : ∀ b xs, H b = some (.tup xs) → H' b = some (.tup xs)) : ObjOk P w H' h' a o := by
  induction o with
  | lst xs => obtain ⟨z, its, n, r, e⟩ := x; exact ⟨z, its, n, r, k _ _ (.inl rfl) e⟩
  | tup xs => obtain ⟨z, its, r, ob, e, c⟩ := x; exact ⟨z, its, r, ob, k _ _ (.inl rfl) e, c⟩
  | dK kvs => obtain ⟨z, y, vs, r, ob, es, ep, e, c⟩ := x; exact ⟨z, y, vs, r, ob, es, ep, k _ _ (.inl rfl) e, c⟩
  | dT kvs =>
    obtain ⟨z, y, xs, r, ob, es, ep, e, c⟩ := x
    exact ⟨z, y, xs, Paired.mapP r fun p q z => ⟨z.1, ht _ _ z.2.1, z.2.2⟩, ob, es, ep, k _ _ (.inl rfl) e, c⟩
  | set S n => obtain ⟨ob, es, ep, t, e, c⟩ := x; exact ⟨ob, es, ep, t, k _ _ (.inl rfl) e, c⟩
  | ins C dx fs =>
    obtain ⟨d, z, ne, e, mA, ⟨od, es, ep, e2, c⟩, r⟩ := x
    exact ⟨ho _ d, z, ne, k _ _ (.inl rfl) e, mA, ⟨od, es, ep, k _ _ (.inr d) e2, c⟩, r⟩
  | own y => obtain ⟨ob, e⟩ := x; exact ⟨ob, k _ _ (.inl rfl) e⟩
  | xd fs => obtain ⟨mA, ⟨od, es, ep, e, c⟩, r⟩ := x; exact ⟨mA, ⟨od, es, ep, k _ _ (.inl rfl) e, c⟩, r⟩
  | rng lo hi => obtain ⟨t, u, v, e⟩ := x; exact ⟨t, u, v, k _ _ (.inl rfl) e⟩
  | frz ob u ih => obtain ⟨e, q⟩ := x; exact ⟨k _ _ (.inl rfl) e, ih q⟩
  | tbl ps =>
    have e : h.get? a = some { cls := .none, data := .fields ps } := x
    show h'.get? a = some { cls := .none, data := .fields ps }
    exact k a _ (.inl rfl) e
  | met f y =>
    have e : h.get? a = some (PySem.W.methodObj (.ref f) (.ref y)) := x
    show h'.get? a = some (PySem.W.methodObj (.ref f) (.ref y))
    exact k a _ (.inl rfl) e
  | ext φ => obtain ⟨p, ⟨o, e⟩, st⟩ := x; exact ⟨st _ _ p fun o q => k _ _ (.inl rfl) q, ⟨o, k _ _ (.inl rfl) e⟩, st⟩
theorem HOk.lt (x : HOk P w H h) (e : H a = some o) : a < h.objs.size := (x a o e).lt
theorem HOk.fresh (x : HOk P w H h) (e : h.objs.size ≤ a) : H a = none := by
  cases q : H a with
  | none => rfl
  | some u => exact absurd (Nat.lt_of_lt_of_le (x.lt q) e) (Nat.lt_irrefl _)
theorem HOk.kept (x : HOk P w H h) (k : ∀ b u, h.get? b = some u → h'.get? b = some u) : HOk P w H h' := fun a o e =>
  (x a o e).stay (fun b u _ q => k b u q) (fun _ q => q) fun _ _ q => q
theorem HOk.laid (x : HOk P w H h) (k : ∀ b u, h.get? b = some u → h'.get? b = some u) (hp : h.objs.size ≤ a) (new : ObjOk P w (upd H a o) h' a o) : HOk P w (upd H a o) h' := fun b u e => by
  have hn := x.fresh hp
  by_cases hb : b = a
  · subst hb; rw [upd_same] at e; cases e; exact new
  · rw [upd_ne hb] at e
    exact (x b u e).stay (fun c v _ q => k c v q) (fun c q => by rw [upd_ne (ne_of_none q hn)]; exact q) fun c xs q => by rw [upd_ne (ne_of_none q hn)]; exact q
end
def Rd (H : Hp) (a : Addr) (u : HO) : Prop := H a = some u ∨ ∃ o, H a = some (.frz o u)
theorem Rd.ok {P : Program} {w : World} {H : Hp} {h : Heap} {a : Addr} {u : HO} (r : Rd H a u) (x : HOk P w H h) : ObjOk P w H h a u := by
  rcases r with r | ⟨o, r⟩
  · exact x a u r
  · obtain ⟨_, q⟩ := x a _ r
    exact q
def Mut : Option HO → Prop
  | some (.lst _) => True
  | some (.dK _) => True
  | some (.dT _) => True
  | some (.set _ _) => True
  | some (.ins _ _ _) => True
  | some (.ext _) => True
  | _ => False
section
variable {P : Program} {w : World} {H : Hp} {h h' : Heap} {x e : Addr} {o' : HO}
theorem HOk.write (ok : HOk P w H h) (mu : Mut (H x)) (he : e = x ∨ H e = some (.own x)) (k : ∀ b u, b ≠ e → h.get? b = some u → h'.get? b = some u) (heo : ∃ u, h'.get? e = some u)
    (new : ObjOk P w (upd H x o') h' x o') : HOk P w (upd H x o') h' := fun b u q => by
  have nown : ∀ c y, H c = some (.own y) → c ≠ x := fun c y r z => by subst z; rw [r] at mu; exact mu
  have ntup : ∀ c xs, H c = some (.tup xs) → c ≠ x := fun c xs r z => by subst z; rw [r] at mu; exact mu
  by_cases hb : b = x
  · subst hb; rw [upd_same] at q; cases q; exact new
  · rw [upd_ne hb] at q
    by_cases hbe : b = e
    · have q' : H b = some (.own x) := by
        rcases he with z | z
        · exact absurd (hbe.trans z) hb
        · rw [hbe]; exact z
      rw [q] at q'; cases q'
      obtain ⟨v, hv⟩ := heo
      exact ⟨v, by rw [hbe]; exact hv⟩
    · refine (ok b u q).stay (fun c v hc r => k c v ?_ r) (fun c r => by rw [upd_ne (nown c b r)]; exact r) fun c xs r => by rw [upd_ne (ntup c xs r)]; exact r
      rcases hc with rfl | hc
      · exact hbe
      · rintro rfl
        rcases he with z | z
        · exact nown c b hc z
        · rw [hc] at z; cases z; exact hb rfl
end
structure Un (fs ex : List Addr) (H H' : Hp) (h h' : Heap) : Prop where
  keep : ∀ b o, h.get? b = some o → H b = none → b ∉ fs → b ∉ ex → h'.get? b = some o
  slot : ∀ b o, h.get? b = some o → H b = none → b ∈ fs → b ∉ ex → ∃ sl, h'.get? b = some { o with slots := sl }
  free : ∀ b o, h.get? b = some o → H b = none → b ∉ ex → H' b = none
  there : ∀ b o, h.get? b = some o → b ∉ ex → ∃ o', h'.get? b = some o'
  tups : ∀ b xs, H b = some (.tup xs) → H' b = some (.tup xs)
  frzs : ∀ b o u, H b = some (.frz o u) → H' b = some (.frz o u)
  tbls : ∀ b ps, H b = some (.tbl ps) → ∃ more, H' b = some (.tbl (ps ++ more))
section
variable {fs fs' ex ex' : List Addr} {H H1 H2 : Hp} {h h1 h2 h' : Heap} {a x e : Addr} {o : HO}
theorem Un.any (u : Un fs ex H H1 h h1) {b : Addr} {ob : Obj} (q : h.get? b = some ob) (n : H b = none) (hx : b ∉ ex) : ∃ sl, h1.get? b = some { ob with slots := sl } := by
  by_cases hb : b ∈ fs
  · exact u.slot b ob q n hb hx
  · exact ⟨ob.slots, u.keep b ob q n hb hx⟩
theorem Un.kept (k : ∀ b u, h.get? b = some u → h'.get? b = some u) : Un fs ex H H h h' :=
  ⟨fun b ob q _ _ _ => k b ob q, fun b ob q _ _ _ => ⟨ob.slots, k b ob q⟩, fun _ _ _ n _ => n, fun b ob q _ => ⟨ob, k b ob q⟩, fun _ _ q => q, fun _ _ _ q => q, fun _ ps q => ⟨#[], by rw [q]; simp⟩⟩
theorem Un.refl : Un fs ex H H h h := Un.kept fun _ _ q => q
theorem Un.laid (k : ∀ b u, h.get? b = some u → h'.get? b = some u) (hp : h.objs.size ≤ a) (hn : H a = none) : Un fs ex H (upd H a o) h h' where
  keep := fun b u q _ _ _ => k b u q
  slot := fun b u q _ _ _ => ⟨u.slots, k b u q⟩
  free := fun b u q n _ => by rw [upd_ne (Nat.ne_of_lt (Nat.lt_of_lt_of_le (Heap.lt_size q) hp))]; exact n
  there := fun b u q _ => ⟨u, k b u q⟩
  tups := fun b xs q => by rw [upd_ne (ne_of_none q hn)]; exact q
  frzs := fun b u xs q => by rw [upd_ne (ne_of_none q hn)]; exact q
  tbls := fun b ps q => ⟨#[], by rw [upd_ne (ne_of_none q hn), q]; simp⟩
theorem Un.write (mu : Mut (H x)) (he : e = x ∨ H e = some (.own x)) (k : ∀ b u, b ≠ e → h.get? b = some u → h'.get? b = some u) (heo : ∃ u, h'.get? e = some u) : Un fs ex H (upd H x o) h h' := by
  have hx : ∀ b, H b = none → b ≠ x := fun b n z => by subst z; rw [n] at mu; exact mu
  have hb : ∀ b, H b = none → b ≠ e := fun b n z => by
    subst z
    rcases he with r | r
    · exact hx b n r
    · rw [n] at r; cases r
  have hm : ∀ b u, H b = some u → ¬ Mut (some u) → b ≠ x := fun b u q nm z => by subst z; rw [q] at mu; exact nm mu
  refine ⟨fun b u q n _ _ => k b u (hb b n) q, fun b u q n _ _ => ⟨u.slots, k b u (hb b n) q⟩, fun b u q n _ => by rw [upd_ne (hx b n)]; exact n, fun b u q _ => ?_,
    fun b xs q => by rw [upd_ne (hm b _ q fun z => z)]; exact q, fun b u xs q => by rw [upd_ne (hm b _ q fun z => z)]; exact q, fun b ps q => ⟨#[], by rw [upd_ne (hm b _ q fun z => z), q]; simp⟩⟩
  by_cases hbe : b = e
  · subst hbe; exact heo
  · exact ⟨u, k b u hbe q⟩
end
def trk (h : Heap) (H : Hp) : List Addr := (List.range h.objs.size).filter fun a => (H a).isSome
def hidT (h : Heap) (H : Hp) : Heap := PySem.W.hideAll h (trk h H)
theorem hidT_size (h : Heap) (H : Hp) : (hidT h H).objs.size = h.objs.size := PySem.W.hideAll_size _ _
theorem hidT_get {h : Heap} {H : Hp} {b : Addr} {o : Obj} (e : h.get? b = some o) (n : H b = none) : (hidT h H).get? b = some o :=
  PySem.W.hideAll_get _ e fun hm => by
    have q : (H b).isSome = true := (List.mem_filter.mp hm).2
    rw [n] at q; simp at q
theorem of_hidT {h : Heap} {H : Hp} {b : Addr} {o : Obj} (e : (hidT h H).get? b = some o) : h.get? b = some o ∧ H b = none := by
  have e' : h.get? b = some o := PySem.W.of_hideAll (trk h H) e
  refine ⟨e', ?_⟩
  cases q : H b with
  | none => rfl
  | some x =>
    have hm : b ∈ trk h H := List.mem_filter.mpr ⟨List.mem_range.mpr (Heap.lt_size e'), by simp [q]⟩
    have z : (hidT h H).get? b = none := PySem.W.hideAll_none (trk h H) hm
    rw [z] at e; cases e
def allNews (g h : Heap) (L : Addr) : List (Addr × Obj) := (List.range h.objs.size).filterMap fun a => if a = L ∨ (g.get? a).isSome = true then none else (h.get? a).map fun o => (a, o)
def rest (g h : Heap) (L d : Addr) : List (Addr × Obj) := (allNews g h L).filter fun p => decide (p.1 ≠ d)
end L2
namespace L2
open PySem PySem.Spec PyProof.Rows
structure Mod (K : PySem.W.Frag) (mg : Str → Option Value) (base : Heap) : Prop where
  kin : K.In base
  glob : base.Ns mainGlobals mg
  blt : ∃ mb, base.Ns builtinsNs mb ∧ ∀ x : Str, x ≠ "__name__" → mb x = bootBuiltins x
  nolimit : base.NoLimit
structure Cx where
  prog : Program
  w : World
  K : PySem.W.Frag
  mg : Str → Option Value
  base : Heap
  A : Around
  N : List Str
  s_0 : Shared
  H_0 : Hp
  env : Env
  outer : List Env
  stack : List Env
  ex : List Addr
  fn : Str → Bool
  calm : Bool
  pn : List (Addr × Obj)
  xe : Value → Shared → Prop
def frs (l : List Env) : List Addr := l.filterMap (·.frame)
abbrev Cx.fs (X : Cx) : List Addr := frs X.outer
def Vis (sc : Scope) (x : Str) : Prop := sc.names.lookup x = some .local ∨ sc.names.lookup x = some .cell ∨ sc.names.lookup x = some .free
def Loc (sc : Scope) (x : Str) : Prop := sc.names.lookup x = some .local ∨ sc.names.lookup x = some .cell
def Look (env : Env) (h : Heap) (m : Str → Option Value) (x : Str) (u : Value) : Prop :=
  (env.kindOf x = some .local ∧ m x = some u) ∨ ((env.kindOf x = some .cell ∨ env.kindOf x = some .free) ∧ ∃ c, env.cells.lookup x = some c ∧ h.IsCell c (some u))
structure Cx.Ok (X : Cx) : Prop where
  mod : Mod X.K X.mg X.base
  kind : X.env.scope.kind = .function
  glob : X.env.globals = mainGlobals
  blt : X.env.builtins = builtinsNs
  above : X.s_0.heap.objs.size ≤ X.env.locals
  inj : ∀ x y c, X.env.cells.lookup x = some c → X.env.cells.lookup y = some c → x = y
  has : ∀ x, (X.env.kindOf x = some .cell ∨ X.env.kindOf x = some .free) → ∃ c, X.env.cells.lookup x = some c
  cab : ∀ x c, X.fn x = true → X.env.cells.lookup x = some c → X.s_0.heap.objs.size ≤ c
  hd : X.calm = true → X.A.handled = none
  frames : X.A.frames = some X.stack
  stk : X.stack = X.outer ∨ (X.stack = X.env :: X.outer ∧ X.env.frame = some X.env.locals)
  exf : ∀ b ∈ X.ex, b ≠ X.env.locals ∧ ∀ x c, X.env.cells.lookup x = some c → c ≠ b
  bs : ∀ b o, X.base.get? b = some o → X.s_0.heap.get? b = some o ∧ X.H_0 b = none
  bsz : X.base.objs.size ≤ X.s_0.heap.objs.size
  noex : ∀ b o, X.base.get? b = some o → b ∉ X.ex
  exfs : ∀ b ∈ X.ex, b ∉ X.fs
  funs : X.s_0.heap.FunFrames X.base X.outer
  frf : ∀ b ∈ X.fs, X.H_0 b = none
structure Inv (X : Cx) (pins : List (Addr × Obj)) (σ : List (Option V)) (H : Hp) (s : Shared) : Prop where
  ok : X.Ok
  os : s.os = X.s_0.os
  bare : AllBare s.gens
  base : Un X.fs X.ex X.H_0 H X.s_0.heap s.heap
  loc : ∃ m, s.heap.Ns X.env.locals m ∧ ∀ (i : Nat) (x : Str) (v : V), X.N[i]? = some x → σ[i]? = some (some v) → Vis X.env.scope x → ∃ u, RelV v u ∧ Look X.env s.heap m x u
  cell : ∀ x c, X.env.cells.lookup x = some c → ∃ v, s.heap.IsCell c v
  free : H X.env.locals = none
  freeC : ∀ x c, X.env.cells.lookup x = some c → H c = none
  pin : ∀ p ∈ X.pn ++ pins, s.heap.get? p.1 = some p.2 ∧ H p.1 = none ∧ p.1 ≠ X.env.locals ∧ p.1 ∉ X.fs ∧ ∀ v, p.2.data ≠ .cell v
  hok : HOk X.prog X.w H s.heap
  len : σ.length = X.N.length
section
variable {X : Cx} {pins : List (Addr × Obj)} {σ : List (Option V)} {H H' : Hp} {s : Shared} {h' : Heap}
theorem Cx.Ok.nofr (ok : X.Ok) {b : Addr} {o : Obj} (e : X.base.get? b = some o) : b ∉ X.fs := fun hb => by
  have := (ok.funs.mem hb).1
  rw [e] at this; cases this
theorem Inv.bs (I : Inv X pins σ H s) : ∀ b o, X.base.get? b = some o → s.heap.get? b = some o ∧ H b = none := fun b o e =>
  ⟨I.base.keep b o (I.ok.bs b o e).1 (I.ok.bs b o e).2 (I.ok.nofr e) (I.ok.noex b o e), I.base.free b o (I.ok.bs b o e).1 (I.ok.bs b o e).2 (I.ok.noex b o e)⟩
theorem Inv.bk (I : Inv X pins σ H s) : ∀ b o, X.base.get? b = some o → s.heap.get? b = some o := fun b o e => (I.bs b o e).1
theorem Inv.mod (I : Inv X pins σ H s) : Mod X.K X.mg X.base := I.ok.mod
theorem Inv.kIn (I : Inv X pins σ H s) : X.K.In s.heap := I.ok.mod.kin.keeps I.bk
theorem Inv.lt (I : Inv X pins σ H s) : X.env.locals < s.heap.objs.size := let ⟨_, hn, _⟩ := I.loc; hn.lt
theorem Inv.sz (I : Inv X pins σ H s) : X.s_0.heap.objs.size ≤ s.heap.objs.size := Nat.le_trans I.ok.above (Nat.le_of_lt I.lt)
theorem Inv.nofs (I : Inv X pins σ H s) {a : Addr} (h : s.heap.objs.size ≤ a) : a ∉ X.fs := fun hb => by
  obtain ⟨_, o, ho, _⟩ := I.ok.funs.mem hb
  exact absurd (Nat.lt_of_lt_of_le (Heap.lt_size ho) (Nat.le_trans I.sz h)) (Nat.lt_irrefl _)
theorem Inv.cne (I : Inv X pins σ H s) : ∀ x c, X.env.cells.lookup x = some c → c ≠ X.env.locals := fun x c e z => by
  obtain ⟨v, o, ho, hd⟩ := I.cell x c e
  obtain ⟨m, ⟨o', es, ep, ho', hd', _⟩, _⟩ := I.loc
  rw [z, ho'] at ho; cases ho; rw [hd'] at hd; cases hd
theorem Inv.funs (I : Inv X pins σ H s) : s.heap.FunFrames X.base X.outer := by
  have all : ∀ (l : List Env), (∀ b ∈ frs l, b ∈ X.fs) → X.s_0.heap.FunFrames X.base l → s.heap.FunFrames X.base l := by
    intro l
    induction l with
    | nil => intro _ _; trivial
    | cons env r ih =>
      intro hs hl
      obtain ⟨hk, ⟨L, o, hf, hn, ho, hd⟩, hr⟩ := hl
      have hL : L ∈ X.fs := hs L (by unfold frs; rw [List.filterMap_cons, hf]; exact List.mem_cons_self)
      obtain ⟨sl, e⟩ := I.base.slot L o ho (I.ok.frf L hL) hL fun z => I.ok.exfs L z hL
      exact ⟨hk, ⟨L, _, hf, hn, e, hd⟩, ih (fun b hb => hs b (by unfold frs; rw [List.filterMap_cons, hf]; exact List.mem_cons_of_mem _ hb)) hr⟩
  exact all X.outer (fun _ hb => hb) I.ok.funs
theorem Inv.stack (I : Inv X pins σ H s) : s.heap.FunFrames X.base X.stack := by
  rcases I.ok.stk with e | ⟨e, hf⟩
  · rw [e]; exact I.funs
  · rw [e]
    obtain ⟨m, hn, _⟩ := I.loc
    refine .cons (by rw [I.ok.kind]; decide) hf hn ?_ I.funs
    exact Heap.get?_none_of_le (Nat.le_trans I.ok.bsz I.ok.above)
theorem Inv.stkSub (I : Inv X pins σ H s) : ∀ b ∈ frs X.stack, b ∈ X.env.locals :: X.fs := fun b hb => by
  rcases I.ok.stk with e | ⟨e, hf⟩
  · rw [e] at hb; exact List.mem_cons_of_mem _ hb
  · rw [e] at hb
    unfold frs at hb
    rw [List.filterMap_cons, hf] at hb
    exact hb
theorem Inv.stkFree (I : Inv X pins σ H s) : ∀ b ∈ frs X.stack, H b = none := fun b hb => by
  rcases List.mem_cons.mp (I.stkSub b hb) with e | hb
  · rw [e]; exact I.free
  · obtain ⟨_, o, ho, _⟩ := I.ok.funs.mem hb
    exact I.base.free b o ho (I.ok.frf b hb) fun z => I.ok.exfs b z hb
theorem Inv.step {g' : Array GenState} {t' : Nat} {d' : Drawn} {ch : List Addr} (I : Inv X pins σ H s)
    (hch : ∀ b ∈ ch, (b ∈ X.ex ∨ X.s_0.heap.objs.size ≤ b) ∧ b ≠ X.env.locals ∧ (∀ x c, X.env.cells.lookup x = some c → c ≠ b) ∧ ∀ p ∈ X.pn ++ pins, p.1 ≠ b)
    (keep : ∀ b o, b ≠ X.env.locals → b ∉ X.fs → b ∉ ch → s.heap.get? b = some o → H b = none → h'.get? b = some o)
    (slot : ∀ b o, b ≠ X.env.locals → b ∈ X.fs → b ∉ ch → s.heap.get? b = some o → H b = none → ∃ sl, h'.get? b = some { o with slots := sl }) (free : ∀ b o, b ∉ ch → s.heap.get? b = some o → H b = none → H' b = none)
    (there : ∀ b o, b ∉ ch → s.heap.get? b = some o → ∃ o', h'.get? b = some o')
    (tups : ∀ b xs, H b = some (.tup xs) → H' b = some (.tup xs)) (frzs : ∀ b o u, H b = some (.frz o u) → H' b = some (.frz o u)) (tbls : ∀ b ps, H b = some (.tbl ps) → ∃ more, H' b = some (.tbl (ps ++ more)))
    (ns : ∀ m, s.heap.Ns X.env.locals m → h'.Ns X.env.locals m) (hok : HOk X.prog X.w H' h') (hg : AllBare g') :
    Inv X pins σ H' { s with heap := h', gens := g', drawn := d', toks := t' } := by
  have neL : ∀ b o, X.s_0.heap.get? b = some o → b ≠ X.env.locals := fun b o e => Nat.ne_of_lt (Nat.lt_of_lt_of_le (Heap.lt_size e) I.ok.above)
  have neC : ∀ b o, X.s_0.heap.get? b = some o → b ∉ X.ex → b ∉ ch := fun b o e hx hb => by
    rcases (hch b hb).1 with z | z
    · exact hx z
    · exact absurd (Nat.lt_of_lt_of_le (Heap.lt_size e) z) (Nat.lt_irrefl _)
  have cellK : ∀ x c, X.env.cells.lookup x = some c → ∀ v, s.heap.IsCell c v → h'.IsCell c v := fun x c e v ⟨o, ho, hd⟩ => by
    have nch : c ∉ ch := fun z => (hch c z).2.2.1 x c e rfl
    by_cases hc : c ∈ X.fs
    · obtain ⟨sl, q⟩ := slot c o (I.cne x c e) hc nch ho (I.freeC x c e)
      exact ⟨_, q, hd⟩
    · exact ⟨o, keep c o (I.cne x c e) hc nch ho (I.freeC x c e), hd⟩
  refine ⟨I.ok, I.os, hg, ⟨fun b o e n hb hx => ?_, fun b o e n hb hx => ?_, fun b o e n hx => ?_, fun b o e hx => ?_, fun b xs e => tups b xs (I.base.tups b xs e), fun b o xs e => frzs b o xs (I.base.frzs b o xs e), fun b ps e => ?_⟩, ?_, fun x c e => ?_, ?_, fun x c e => ?_, fun p hp => ?_, hok, I.len⟩
  · exact keep b o (neL b o e) hb (neC b o e hx) (I.base.keep b o e n hb hx) (I.base.free b o e n hx)
  · obtain ⟨sl, e1⟩ := I.base.slot b o e n hb hx
    obtain ⟨sl', e2⟩ := slot b _ (neL b o e) hb (neC b o e hx) e1 (I.base.free b o e n hx)
    exact ⟨sl', e2⟩
  · obtain ⟨o', e1⟩ := I.base.there b o e hx
    exact free b o' (neC b o e hx) e1 (I.base.free b o e n hx)
  · obtain ⟨o', e1⟩ := I.base.there b o e hx
    exact there b o' (neC b o e hx) e1
  · obtain ⟨m1, e1⟩ := I.base.tbls b ps e
    obtain ⟨m2, e2⟩ := tbls b _ e1
    exact ⟨m1 ++ m2, by rw [e2, Array.append_assoc]⟩
  · obtain ⟨m, hn, hl⟩ := I.loc
    refine ⟨m, ns m hn, fun i x v e1 e2 e3 => ?_⟩
    obtain ⟨u, r, l⟩ := hl i x v e1 e2 e3
    refine ⟨u, r, ?_⟩
    rcases l with l | ⟨k, c, e, z⟩
    · exact .inl l
    · exact .inr ⟨k, c, e, cellK x c e _ z⟩
  · obtain ⟨v, z⟩ := I.cell x c e
    exact ⟨v, cellK x c e v z⟩
  · obtain ⟨m, ⟨o, _, _, ho, _⟩, _⟩ := I.loc
    exact free _ o (fun z => (hch _ z).2.1 rfl) ho I.free
  · obtain ⟨v, o, ho, hd⟩ := I.cell x c e
    exact free c o (fun z => (hch c z).2.2.1 x c e rfl) ho (I.freeC x c e)
  · obtain ⟨e, n, ne, nf, d⟩ := I.pin p hp
    have nch : p.1 ∉ ch := fun z => (hch p.1 z).2.2.2 p hp rfl
    exact ⟨keep p.1 p.2 ne nf nch e n, free p.1 p.2 nch e n, ne, nf, d⟩
theorem Inv.un {t' : Nat} (I : Inv X pins σ H s) (u : Un X.fs [] H H' s.heap h') (hok : HOk X.prog X.w H' h') : Inv X pins σ H' { s with heap := h', toks := t' } := by
  obtain ⟨m, ⟨o, es, ep, ho, r⟩, _⟩ := id I.loc
  obtain ⟨sl, hL⟩ := u.any ho I.free (by simp)
  exact I.step (g' := s.gens) (d' := s.drawn) (ch := []) (fun _ z => nomatch z) (fun b o _ hb _ e n => u.keep b o e n hb (by simp)) (fun b o _ hb _ e n => u.slot b o e n hb (by simp)) (fun b o _ e n => u.free b o e n (by simp)) (fun b o _ e => u.there b o e (by simp)) u.tups u.frzs u.tbls (fun m' hm => by
    obtain ⟨o', es', ep', ho', r'⟩ := hm
    rw [ho] at ho'; cases ho'
    exact ⟨_, es', ep', hL, r'⟩) hok I.bare
theorem Inv.call {g' : Array GenState} {t' : Nat} {d' : Drawn} {ch : List Addr} (I : Inv X pins σ H s) (u : Un (frs X.stack) ch H H' s.heap h') (hok : HOk X.prog X.w H' h') (hg : AllBare g')
    (hch : ∀ b ∈ ch, (b ∈ X.ex ∨ X.s_0.heap.objs.size ≤ b) ∧ b ≠ X.env.locals ∧ (∀ x c, X.env.cells.lookup x = some c → c ≠ b) ∧ ∀ p ∈ X.pn ++ pins, p.1 ≠ b) :
    Inv X pins σ H' { s with heap := h', gens := g', drawn := d', toks := t' } := by
  obtain ⟨m, ⟨o, es, ep, ho, r⟩, _⟩ := id I.loc
  obtain ⟨sl, hL⟩ := u.any ho I.free fun z => (hch _ z).2.1 rfl
  exact I.step (ch := ch) hch (fun b o hL hb hc e n => u.keep b o e n (fun z => (List.mem_cons.mp (I.stkSub b z)).elim hL hb) hc) (fun b o _ _ hc e n => u.any e n hc) (fun b o hc e n => u.free b o e n hc) (fun b o hc e => u.there b o e hc) u.tups u.frzs u.tbls (fun m' hm => by
    obtain ⟨o', es', ep', ho', r'⟩ := hm
    rw [ho] at ho'; cases ho'
    exact ⟨_, es', ep', hL, r'⟩) hok hg
theorem Inv.turned {t' : Nat} {it : Addr} (I : Inv X pins σ H s) (k : ∀ b o, b ≠ it → s.heap.get? b = some o → h'.get? b = some o) (hn : H it = none) (hL : it ≠ X.env.locals)
    (h1 : it ∈ X.ex ∨ X.s_0.heap.objs.size ≤ it) (h2 : ∀ x c, X.env.cells.lookup x = some c → c ≠ it) (h3 : ∀ p ∈ X.pn ++ pins, p.1 ≠ it) : Inv X pins σ H { s with heap := h', toks := t' } := by
  have nit : ∀ b u, H b = some u → b ≠ it := fun b u e z => by rw [z, hn] at e; cases e
  refine I.step (g' := s.gens) (d' := s.drawn) (ch := [it]) (fun b hb => ?_) (fun b o _ _ hc e _ => k b o (fun z => hc (by simp [z])) e) (fun b o _ _ hc e _ => ⟨o.slots, k b o (fun z => hc (by simp [z])) e⟩) (fun _ _ _ _ n => n)
    (fun b o hc e => ⟨o, k b o (fun z => hc (by simp [z])) e⟩) (fun _ _ e => e) (fun _ _ _ e => e) (fun b ps e => ⟨#[], by rw [e]; simp⟩) (fun m hm => ?_) (fun b u e => ?_) I.bare
  · have e : b = it := by simpa using hb
    subst e
    exact ⟨h1, hL, h2, h3⟩
  · obtain ⟨o, es, ep, ho, r⟩ := hm
    exact ⟨o, es, ep, k _ o (Ne.symm hL) ho, r⟩
  · refine (I.hok b u e).stay (fun c v hc q => k c v ?_ q) (fun _ q => q) fun _ _ q => q
    rcases hc with z | z
    · rw [z]; exact nit b u e
    · exact nit c _ z
theorem Inv.tok (I : Inv X pins σ H s) (t : Nat) : Inv X pins σ H { s with toks := t } := I.un (h' := s.heap) (t' := t) Un.refl I.hok
theorem Inv.kept {t' : Nat} (I : Inv X pins σ H s) (k : ∀ b u, s.heap.get? b = some u → h'.get? b = some u) : Inv X pins σ H { s with heap := h', toks := t' } := I.un (Un.kept k) (I.hok.kept k)
theorem Inv.laid {a : Addr} {o : HO} {t' : Nat} (I : Inv X pins σ H s) (k : ∀ b u, s.heap.get? b = some u → h'.get? b = some u) (hp : s.heap.objs.size ≤ a) (new : ObjOk X.prog X.w (upd H a o) h' a o) :
    Inv X pins σ (upd H a o) { s with heap := h', toks := t' } := I.un (Un.laid k hp (I.hok.fresh hp)) (I.hok.laid k hp new)
theorem Inv.write {x e : Addr} {o : HO} {t' : Nat} (I : Inv X pins σ H s) (mu : Mut (H x)) (he : e = x ∨ H e = some (.own x)) (k : ∀ b u, b ≠ e → s.heap.get? b = some u → h'.get? b = some u) (heo : ∃ u, h'.get? e = some u)
    (new : ObjOk X.prog X.w (upd H x o) h' x o) : Inv X pins σ (upd H x o) { s with heap := h', toks := t' } := I.un (Un.write mu he k heo) (I.hok.write mu he k heo new)
theorem Inv.weak {σ' : List (Option V)} (I : Inv X pins σ H s) (hl : σ'.length = σ.length) (w : ∀ (i : Nat) v, σ'[i]? = some (some v) → σ[i]? = some (some v)) : Inv X pins σ' H s :=
  ⟨I.ok, I.os, I.bare, I.base, let ⟨m, hn, hl'⟩ := I.loc; ⟨m, hn, fun i x v e1 e2 e3 => hl' i x v e1 (w i v e2) e3⟩, I.cell, I.free, I.freeC, I.pin, I.hok, hl.trans I.len⟩
theorem Inv.pins_of {pins' : List (Addr × Obj)} (I : Inv X pins σ H s) (h : ∀ p ∈ pins', s.heap.get? p.1 = some p.2 ∧ H p.1 = none ∧ p.1 ≠ X.env.locals ∧ p.1 ∉ X.fs ∧ ∀ v, p.2.data ≠ .cell v) : Inv X pins' σ H s :=
  ⟨I.ok, I.os, I.bare, I.base, I.loc, I.cell, I.free, I.freeC, fun p hp => (List.mem_append.mp hp).elim (fun z => I.pin p (List.mem_append_left _ z)) (h p), I.hok, I.len⟩
theorem nodup_ix {N : List Str} (hN : N.Nodup) {i j : Nat} {x : Str} (a : N[i]? = some x) (b : N[j]? = some x) : i = j := by
  obtain ⟨h1, e1⟩ := List.getElem?_eq_some_iff.mp a
  obtain ⟨h2, e2⟩ := List.getElem?_eq_some_iff.mp b
  exact (List.getElem_inj hN).mp (e1.trans e2.symm)
theorem store_ok2 {M : Model} {A : Around} {E : Value → Shared → Prop} {i : Nat} {x : Str} {v : V} {u : Value} {Q : Unit → Shared → Prop} (I : Inv X pins σ H s) (hN : X.N.Nodup) (hi : X.N[i]? = some x) (hx : Loc X.env.scope x) (r : RelV v u)
    (h : ∀ s', Inv X pins (σ.set i (some v)) H s' → (∃ a, Heap.SameBut a s.heap s'.heap ∧ (a = X.env.locals ∨ X.env.cells.lookup x = some a)) → Q () s') (hf : X.fn x = true ∨ X.env.scope.names.lookup x = some .local := by first | exact .inl rfl | exact .inr rfl | assumption) : wpAny M A (storeName X.env x u) Q E s := by
  obtain ⟨m, hn, hl⟩ := id I.loc
  have hcls : (X.env.scope.kind == .class || (X.env.scope.kind == .module && X.env.locals != X.env.globals)) = false := by rw [I.ok.kind]; rfl
  have hiσ : i < σ.length := by rw [I.len]; exact (List.getElem?_eq_some_iff.mp hi).1
  have cne := I.cne
  have tracked : ∀ {a : Addr} {h' : Heap}, (∃ o, s.heap.get? a = some o ∧ H a = none) → Heap.SameBut a s.heap h' → HOk X.prog X.w H h' := fun {a h'} ha hs b ob e => by
    obtain ⟨_, _, hfree⟩ := ha
    refine (I.hok b ob e).stay (fun c w' hc q => (hs.2 c ?_).trans q) (fun _ q => q) fun _ _ q => q
    rintro rfl
    rcases hc with rfl | hc
    · rw [hfree] at e; cases e
    · rw [hfree] at hc; cases hc
  rcases hx with hk | hk
  · refine wpAny_storeName_local hk hn (fun h' hn' hs => ?_) hcls
    obtain ⟨oL, _, _, hoL, _⟩ := id hn
    refine h _ ⟨I.ok, I.os, I.bare, ⟨fun b o e n hb hx => ?_, fun b o e n hb hx => ?_, I.base.free, fun b o e hx => ?_, I.base.tups, I.base.frzs, I.base.tbls⟩, ⟨_, hn', fun j y v' e1 e2 e3 => ?_⟩, fun y c e => ?_, I.free, I.freeC, fun p hp => ?_, tracked ⟨oL, hoL, I.free⟩ hs, by simpa using I.len⟩ ⟨_, hs, .inl rfl⟩
    · exact (hs.2 b (Nat.ne_of_lt (Nat.lt_of_lt_of_le (Heap.lt_size e) I.ok.above))).trans (I.base.keep b o e n hb hx)
    · obtain ⟨sl, e1⟩ := I.base.slot b o e n hb hx
      exact ⟨sl, (hs.2 b (Nat.ne_of_lt (Nat.lt_of_lt_of_le (Heap.lt_size e) I.ok.above))).trans e1⟩
    · obtain ⟨o', e1⟩ := I.base.there b o e hx
      exact ⟨o', (hs.2 b (Nat.ne_of_lt (Nat.lt_of_lt_of_le (Heap.lt_size e) I.ok.above))).trans e1⟩
    · by_cases hj : j = i
      · subst hj
        rw [hi] at e1; cases e1
        rw [List.getElem?_set_self hiσ] at e2
        cases e2
        exact ⟨u, r, .inl ⟨hk, by simp⟩⟩
      · rw [List.getElem?_set_ne (Ne.symm hj)] at e2
        obtain ⟨u', r', q⟩ := hl j y v' e1 e2 e3
        refine ⟨u', r', ?_⟩
        rcases q with ⟨k, e⟩ | ⟨k, c, e, z⟩
        · refine .inl ⟨k, ?_⟩
          have : y ≠ x := fun e => hj (nodup_ix hN e1 (e ▸ hi))
          simp [this, e]
        · exact .inr ⟨k, c, e, z.sameBut hs (cne y c e)⟩
    · obtain ⟨w', z⟩ := I.cell y c e
      exact ⟨w', z.sameBut hs (cne y c e)⟩
    · obtain ⟨e, n, ne, nf, d⟩ := I.pin p hp
      exact ⟨(hs.2 p.1 ne).trans e, n, ne, nf, d⟩
  · have hfn : X.fn x = true := by
      rcases hf with z | z
      · exact z
      · rw [z] at hk; cases hk
    obtain ⟨c, hc⟩ := I.ok.has x (.inl hk)
    obtain ⟨w', z⟩ := I.cell x c hc
    refine wpAny_storeName_cell I.ok.kind hk hc z (fun h' hc' hs => ?_)
    obtain ⟨oc, hoc, hocd⟩ := id z
    refine h { s with heap := h' } ⟨I.ok, I.os, I.bare, ⟨fun b o e n hb hx => ?_, fun b o e n hb hx => ?_, I.base.free, fun b o e hx => ?_, I.base.tups, I.base.frzs, I.base.tbls⟩, ⟨m, hn.sameBut hs (Ne.symm (cne x c hc)), fun j y v' e1 e2 e3 => ?_⟩, fun y c' e => ?_, I.free, I.freeC, fun p hp => ?_, tracked ⟨oc, hoc, I.freeC x c hc⟩ hs, by simpa using I.len⟩ ⟨c, hs, .inr hc⟩
    · exact (hs.2 b (Nat.ne_of_lt (Nat.lt_of_lt_of_le (Heap.lt_size e) (I.ok.cab x c hfn hc)))).trans (I.base.keep b o e n hb hx)
    · obtain ⟨sl, e1⟩ := I.base.slot b o e n hb hx
      exact ⟨sl, (hs.2 b (Nat.ne_of_lt (Nat.lt_of_lt_of_le (Heap.lt_size e) (I.ok.cab x c hfn hc)))).trans e1⟩
    · obtain ⟨o', e1⟩ := I.base.there b o e hx
      exact ⟨o', (hs.2 b (Nat.ne_of_lt (Nat.lt_of_lt_of_le (Heap.lt_size e) (I.ok.cab x c hfn hc)))).trans e1⟩
    · by_cases hj : j = i
      · subst hj
        rw [hi] at e1; cases e1
        rw [List.getElem?_set_self hiσ] at e2
        cases e2
        exact ⟨u, r, .inr ⟨.inl hk, c, hc, hc'⟩⟩
      · rw [List.getElem?_set_ne (Ne.symm hj)] at e2
        obtain ⟨u', r', q⟩ := hl j y v' e1 e2 e3
        refine ⟨u', r', ?_⟩
        rcases q with q | ⟨k, c', e, z'⟩
        · exact .inl q
        · refine .inr ⟨k, c', e, z'.sameBut hs ?_⟩
          rintro rfl
          exact hj (nodup_ix hN e1 (I.ok.inj _ _ _ e hc ▸ hi))
    · by_cases hcc : c' = c
      · subst hcc; exact ⟨_, hc'⟩
      · obtain ⟨w2, z2⟩ := I.cell y c' e
        exact ⟨w2, z2.sameBut hs hcc⟩
    · obtain ⟨e, n, ne, nf, d⟩ := I.pin p hp
      refine ⟨(hs.2 p.1 ?_).trans e, n, ne, nf, d⟩
      intro q
      rw [q, hoc] at e
      have q' : oc = p.2 := Option.some.inj e
      exact d w' (by rw [← q']; exact hocd)
theorem store_ok {M : Model} {A : Around} {E : Value → Shared → Prop} {i : Nat} {x : Str} {v : V} {u : Value} {Q : Unit → Shared → Prop} (I : Inv X pins σ H s) (hN : X.N.Nodup) (hi : X.N[i]? = some x) (hx : Loc X.env.scope x) (r : RelV v u)
    (h : ∀ s', Inv X pins (σ.set i (some v)) H s' → Q () s') (hf : X.fn x = true ∨ X.env.scope.names.lookup x = some .local := by first | exact .inl rfl | exact .inr rfl | assumption) : wpAny M A (storeName X.env x u) Q E s :=
  store_ok2 I hN hi hx r (fun s' I' _ => h s' I') hf
theorem Inv.call' {s' : Shared} {ch : List Addr} (I : Inv X pins σ H s) (ho : s'.os = s.os) (u : Un (frs X.stack) ch H H' s.heap s'.heap) (hok : HOk X.prog X.w H' s'.heap) (hg : AllBare s'.gens)
    (hch : ∀ b ∈ ch, (b ∈ X.ex ∨ X.s_0.heap.objs.size ≤ b) ∧ b ≠ X.env.locals ∧ (∀ x c, X.env.cells.lookup x = some c → c ≠ b) ∧ ∀ p ∈ X.pn ++ pins, p.1 ≠ b) : Inv X pins σ H' s' := by
  obtain ⟨h', g', d', t', o'⟩ := s'
  have e : o' = s.os := ho
  subst e
  exact I.call (g' := g') (t' := t') (d' := d') u hok hg hch
end
abbrev XK := Value → Option Addr → Hp → Prop
abbrev St := List (Option V)
abbrev VK := V → Hp → Prop
abbrev TE := St → Hp → VK → Prop
abbrev TT := St → Hp → (Bool → Hp → Prop) → Prop
abbrev TA := St → Hp → (List V → Hp → Prop) → Prop
structure Ends where
  nx : St → Hp → Prop
  rt : VK
  bk : St → Hp → Prop := fun _ _ => False
  ct : St → Hp → Prop := fun _ _ => False
abbrev TS := Ends → St → Hp → Prop
def EP (X : Cx) (pins : List (Addr × Obj)) (σ : St) (Q : VK) (u : Value) (s' : Shared) : Prop := ∃ v H', Inv X pins σ H' s' ∧ RelV v u ∧ Q v H'
def TP (X : Cx) (pins : List (Addr × Obj)) (σ : St) (Q : Bool → Hp → Prop) (b : Bool) (s' : Shared) : Prop := ∃ H', Inv X pins σ H' s' ∧ Q b H'
def AP (X : Cx) (pins : List (Addr × Obj)) (σ : St) (Q : List V → Hp → Prop) (us : List Value) (s' : Shared) : Prop := ∃ vs H', Inv X pins σ H' s' ∧ Vals vs us ∧ Q vs H'
def SP (X : Cx) (pins : List (Addr × Obj)) (D : Ends) (f : Flow) (s' : Shared) : Prop :=
  match f with
  | .next => ∃ σ' H', Inv X pins σ' H' s' ∧ D.nx σ' H'
  | .brk => ∃ σ' H', Inv X pins σ' H' s' ∧ D.bk σ' H'
  | .cont => ∃ σ' H', Inv X pins σ' H' s' ∧ D.ct σ' H'
  | .ret u => ∃ v σ' H', Inv X pins σ' H' s' ∧ RelV v u ∧ D.rt v H'
def PE (X : Cx) (e : Expr) (t : TE) : Prop :=
  ∀ (pins : List (Addr × Obj)) (s : Shared) (σ : St) (H : Hp) (Q : VK), Inv X pins σ H s → t σ H Q → wpAny (model X.prog X.w) X.A (eval e X.env) (EP X pins σ Q) X.xe s
def PT (X : Cx) (e : Expr) (t : TT) : Prop :=
  ∀ (pins : List (Addr × Obj)) (s : Shared) (σ : St) (H : Hp) (Q : Bool → Hp → Prop), Inv X pins σ H s → t σ H Q → wpAny (model X.prog X.w) X.A (isTrue e X.env (eval e X.env)) (TP X pins σ Q) X.xe s
def PW (X : Cx) (e : Expr) (t : TT) : Prop :=
  ∀ (whole : Sem Value) (pins : List (Addr × Obj)) (s : Shared) (σ : St) (H : Hp) (Q : Bool → Hp → Prop), Inv X pins σ H s → t σ H Q → wpAny (model X.prog X.w) X.A (isTrue e X.env whole) (TP X pins σ Q) X.xe s
theorem PW.pt {X : Cx} {e : Expr} {t : TT} (h : PW X e t) : PT X e t := h _
def PA (X : Cx) (es : List Expr) (t : TA) : Prop :=
  ∀ (pos : Pos) (pins : List (Addr × Obj)) (s : Shared) (σ : St) (H : Hp) (Q : List V → Hp → Prop), Inv X pins σ H s → t σ H Q → wpAny (model X.prog X.w) X.A (spliced (backTo pos (starEach es X.env))) (AP X pins σ Q) X.xe s
def PS (X : Cx) (st : Stmt) (t : TS) : Prop :=
  ∀ (pins : List (Addr × Obj)) (s : Shared) (σ : St) (H : Hp) (D : Ends), Inv X pins σ H s → t D σ H → wpAny (model X.prog X.w) X.A (exec st X.env) (SP X pins D) X.xe s
def PSs (X : Cx) (st : List Stmt) (t : TS) : Prop :=
  ∀ (pins : List (Addr × Obj)) (s : Shared) (σ : St) (H : Hp) (D : Ends), Inv X pins σ H s → t D σ H → wpAny (model X.prog X.w) X.A (execs st X.env) (SP X pins D) X.xe s
theorem thn {α : Type} {t : Sem α} {Q Q' : α → Shared → Prop} {M : Model} {A : Around} {E : Value → Shared → Prop} {s : Shared} (h : wpAny M A t Q E s) (hQ : ∀ a s, Q a s → Q' a s) : wpAny M A t Q' E s := wpAny_mono h hQ fun _ _ x => x
end L2
namespace L2
open PySem PySem.Spec PyProof.Rows
section
variable {X : Cx}
def tVar (i : Nat) : TE := fun σ H Q => ∃ v, σ[i]? = some (some v) ∧ Q v H
def tC (v : V) : TE := fun _ H Q => Q v H
theorem pe_var {i : Nat} {x : Str} {pos : Pos} (hN : X.N[i]? = some x) (hv : Vis X.env.scope x) (hd : (x == ("__debug__" : Str)) = false := by decide) (hcd : (x == ("__classdict__" : Str)) = false := by decide) : PE X (.Name x pos) (tVar i) := by
  intro pins s σ H Q I h
  obtain ⟨v, e, h⟩ := h
  obtain ⟨m, hn, hl⟩ := I.loc
  obtain ⟨u, r, l⟩ := hl i x v hN e hv
  have fin : EP X pins σ Q u s := ⟨v, H, I, r, h⟩
  rcases l with ⟨hk, hm⟩ | ⟨hk, c, hc, hcell⟩
  · exact wpAny_Name (wpAny_loadName_local I.ok.kind hk hn hm fin) hd
  · rcases hk with hk | hk
    · exact wpAny_Name (wpAny_loadName_cell I.ok.kind hk hc hcell fin) hd
    · exact wpAny_Name (wpAny_loadName_free I.ok.kind hk hc hcell fin hcd) hd
theorem pe_int {i j pos} : PE X (.Constant (.int i) j pos) (tC (.int i)) := fun _ _ _ H _ I h => wpAny_Constant_int ⟨.int i, H, I.tok _, ⟨_, rfl⟩, h⟩
theorem pe_bl {b j pos} : PE X (.Constant (.bool b) j pos) (tC (.bl b)) := fun _ _ _ H _ I h => Constant_bool ⟨.bl b, H, I, rfl, h⟩
theorem pe_non {j pos} : PE X (.Constant .none j pos) (tC .non) := fun _ _ _ H _ I h => Constant_none ⟨.non, H, I, rfl, h⟩
theorem pe_str {x j pos} : PE X (.Constant (.str x) j pos) (tC (.str x)) := fun _ _ _ H _ I h => Calls.Constant_str ⟨.str x, H, I.tok _, ⟨_, rfl⟩, h⟩
def Gl (X : Cx) (x : Str) : Prop := X.env.kindOf x = some .globalImplicit
theorem ld_glob {E : Value → Shared → Prop} {pins : List (Addr × Obj)} {s : Shared} {σ : St} {H : Hp} {x : Str} {u : Value} {pos : Pos} {Q : Value → Shared → Prop} (I : Inv X pins σ H s) (hg : Gl X x) (hm : X.mg x = some u) (h : Q u s)
    (hd : (x == ("__debug__" : Str)) = false := by decide) : wpAny (model X.prog X.w) X.A (eval (.Name x pos) X.env) Q E s :=
  Calls.Name_function_global I.ok.kind hg (Calls.loadGlobal_global (by rw [I.ok.glob]; exact I.mod.glob.keeps I.bk) hm h) hd
theorem ld_blt {E : Value → Shared → Prop} {pins : List (Addr × Obj)} {s : Shared} {σ : St} {H : Hp} {x : Str} {u : Value} {pos : Pos} {Q : Value → Shared → Prop} (I : Inv X pins σ H s) (hg : Gl X x) (hm : X.mg x = none) (hv : bootBuiltins x = some u) (h : Q u s)
    (hn : x ≠ "__name__" := by decide) (hd : (x == ("__debug__" : Str)) = false := by decide) : wpAny (model X.prog X.w) X.A (eval (.Name x pos) X.env) Q E s := by
  obtain ⟨mb, h1, h2⟩ := I.mod.blt
  exact Calls.Name_function_global I.ok.kind hg (Calls.loadGlobal_builtin (by rw [I.ok.glob]; exact I.mod.glob.keeps I.bk) hm (by rw [I.ok.blt]; exact h1.keeps I.bk) ((h2 x hn).trans hv) h) hd
theorem pe_glob {x : Str} {v : V} {u : Value} {pos : Pos} (hg : Gl X x) (hm : X.mg x = some u) (r : RelV v u) (hd : (x == ("__debug__" : Str)) = false := by decide) : PE X (.Name x pos) (tC v) :=
  fun _ _ _ H _ I h => ld_glob I hg hm ⟨v, H, I, r, h⟩ hd
def t2I (ta tb : TE) (k : Int → Int → Hp → Prop) : St → Hp → Prop := fun σ H => ta σ H fun x H1 => tb σ H1 fun y H2 => ∃ i j, x = .int i ∧ y = .int j ∧ k i j H2
def tAdd (ta tb : TE) : TE := fun σ H Q => t2I ta tb (fun i j H2 => Q (.int (i + j)) H2) σ H
def tSub (ta tb : TE) : TE := fun σ H Q => t2I ta tb (fun i j H2 => Q (.int (i - j)) H2) σ H
def tMul (ta tb : TE) : TE := fun σ H Q => t2I ta tb (fun i j H2 => (-(2 ^ 64) < i ∧ i < 2 ^ 64) ∧ Q (.int (i * j)) H2) σ H
variable {a b : Expr} {ta tb : TE} {pos : Pos}
def PC (X : Cx) (op : CmpOp) (a b : Expr) (t : TE) : Prop :=
  ∀ (pins : List (Addr × Obj)) (s : Shared) (σ : St) (H : Hp) (Q : VK), Inv X pins σ H s → t σ H Q →
    wpAny (model X.prog X.w) X.A (eval a X.env) (fun v s₁ => wpAny (model X.prog X.w) X.A (eval b X.env) (fun u s₂ => wpAny (model X.prog X.w) X.A (compareOp op v u) (EP X pins σ Q) X.xe s₂) X.xe s₁) X.xe s
def tCmp (p : Int → Int → Bool) (ta tb : TE) : TE := fun σ H Q => t2I ta tb (fun i j H2 => Q (.bl (p i j)) H2) σ H
abbrev tLt : TE → TE → TE := tCmp fun i j => decide (i < j)
abbrev tLe : TE → TE → TE := tCmp fun i j => decide (i ≤ j)
abbrev tGt : TE → TE → TE := tCmp fun i j => decide (j < i)
abbrev tGe : TE → TE → TE := tCmp fun i j => decide (j ≤ i)
abbrev tEqI : TE → TE → TE := tCmp fun i j => decide (i = j)
abbrev tNeI : TE → TE → TE := tCmp fun i j => !decide (i = j)
def tIsN (ta : TE) : TE := fun σ H Q => ta σ H fun x H1 => Q (.bl (decide (x = .non))) H1
def tNotN (ta : TE) : TE := fun σ H Q => ta σ H fun x H1 => Q (.bl (!decide (x = .non))) H1
def tB (t : TE) : TT := fun σ H Q => t σ H fun x H1 => ∃ c, x = .bl c ∧ Q c H1
theorem pt_val {e : Expr} {t : TE} (h : PE X e t) (he : ∀ whole, isTrue e X.env whole = (do let v ← whole; standAt e.pos; holding [v] (truthy v)) := by intro _; rfl) : PT X e (tB t) := by
  intro pins s σ H Q I hw
  refine isTrue_plain (thn (h pins s σ H _ I hw) fun v s1 ⟨x, H1, I1, r1, q1⟩ => ?_) (he _)
  obtain ⟨d, rfl, q⟩ := q1
  cases r1
  exact wpAny_truthy_bool ⟨H1, I1, q⟩
variable {tA tB' : TT} {rest : List Expr}
def tAnd (t u : TT) : TT := fun σ H Q => t σ H fun c H1 => if c = true then u σ H1 Q else Q false H1
def tOr (t u : TT) : TT := fun σ H Q => t σ H fun c H1 => if c = true then Q true H1 else u σ H1 Q
def tNot (t : TT) : TT := fun σ H Q => t σ H fun c H1 => Q (!c) H1
theorem pw_and1 (ha : PT X a tA) : PW X (.BoolOp .And [a] pos) tA := by
  intro wh pins s σ H Q I h
  refine isTrue_and (thn (ha pins s σ H Q I h) fun c s1 e => ?_)
  cases c with
  | true => exact isTrue_and_nil e
  | false => exact e
theorem pw_or1 (ha : PT X a tA) : PW X (.BoolOp .Or [a] pos) tA := by
  intro wh pins s σ H Q I h
  refine isTrue_or (thn (ha pins s σ H Q I h) fun c s1 e => ?_)
  cases c with
  | false => exact isTrue_or_nil e
  | true => exact e
theorem pw_and (ha : PT X a tA) (hb : PW X (.BoolOp .And (b :: rest) pos) tB') : PW X (.BoolOp .And (a :: b :: rest) pos) (tAnd tA tB') := by
  intro wh pins s σ H Q I h
  refine isTrue_and (thn (ha pins s σ H _ I h) fun c s1 ⟨H1, I1, q1⟩ => ?_)
  cases c with
  | true => exact hb wh pins s1 σ H1 Q I1 q1
  | false => exact ⟨H1, I1, q1⟩
theorem pw_or (ha : PT X a tA) (hb : PW X (.BoolOp .Or (b :: rest) pos) tB') : PW X (.BoolOp .Or (a :: b :: rest) pos) (tOr tA tB') := by
  intro wh pins s σ H Q I h
  refine isTrue_or (thn (ha pins s σ H _ I h) fun c s1 ⟨H1, I1, q1⟩ => ?_)
  cases c with
  | true => exact ⟨H1, I1, q1⟩
  | false => exact hb wh pins s1 σ H1 Q I1 q1
theorem pt_not (ha : PT X a tA) : PT X (.UnaryOp .Not a pos) (tNot tA) := by
  intro pins s σ H Q I h
  exact isTrue_not (ha pins s σ H (fun c H1 => Q (!c) H1) I h)
def tAndV (ta tb : TE) : TE := fun σ H Q => ta σ H fun x H1 => ∃ c, x = .bl c ∧ if c = true then tb σ H1 Q else Q (.bl false) H1
def tOrV (ta tb : TE) : TE := fun σ H Q => ta σ H fun x H1 => ∃ c, x = .bl c ∧ if c = true then Q (.bl true) H1 else tb σ H1 Q
def tNotV (ta : TE) : TE := fun σ H Q => ta σ H fun x H1 => ∃ c, x = .bl c ∧ Q (.bl (!c)) H1
theorem pe_one {op} {t : TE} (h : PE X a t) : PE X (.BoolOp op [a] pos) t := fun pins s σ H Q I hw => BoolOp_one (h pins s σ H Q I hw)
theorem pe_and (ha : PE X a ta) (hb : PE X (.BoolOp .And (b :: rest) pos) tb) : PE X (.BoolOp .And (a :: b :: rest) pos) (tAndV ta tb) := by
  intro pins s σ H Q I h
  refine BoolOp_and (thn (ha pins s σ H _ I h) fun v s1 ⟨x, H1, I1, r1, q1⟩ => ?_)
  obtain ⟨c, rfl, q1⟩ := q1
  cases r1
  refine wpAny_truthy_bool ?_
  cases c with
  | true => exact hb pins s1 σ H1 Q I1 q1
  | false => exact ⟨.bl false, H1, I1, rfl, q1⟩
theorem pe_or (ha : PE X a ta) (hb : PE X (.BoolOp .Or (b :: rest) pos) tb) : PE X (.BoolOp .Or (a :: b :: rest) pos) (tOrV ta tb) := by
  intro pins s σ H Q I h
  refine BoolOp_or (thn (ha pins s σ H _ I h) fun v s1 ⟨x, H1, I1, r1, q1⟩ => ?_)
  obtain ⟨c, rfl, q1⟩ := q1
  cases r1
  refine wpAny_truthy_bool ?_
  cases c with
  | false => exact hb pins s1 σ H1 Q I1 q1
  | true => exact ⟨.bl true, H1, I1, rfl, q1⟩
theorem pe_not (ha : PE X a ta) : PE X (.UnaryOp .Not a pos) (tNotV ta) := by
  intro pins s σ H Q I h
  refine UnaryOp_ (thn (ha pins s σ H _ I h) fun v s1 ⟨x, H1, I1, r1, q1⟩ => ?_)
  obtain ⟨c, rfl, q1⟩ := q1
  cases r1
  exact not_of (wpAny_truthy_bool ⟨.bl (!c), H1, I1, rfl, q1⟩)
def tIf (t : TT) (ta tb : TE) : TE := fun σ H Q => t σ H fun c H1 => if c = true then ta σ H1 Q else tb σ H1 Q
theorem pe_ifExp {c : Expr} (hc : PT X c tA) (ha : PE X a ta) (hb : PE X b tb) : PE X (.IfExp c a b pos) (tIf tA ta tb) := by
  intro pins s σ H Q I h
  refine wpAny_IfExp (thn (hc pins s σ H _ I h) fun d s1 ⟨H1, I1, q1⟩ => ?_)
  cases d with
  | true => exact ha pins s1 σ H1 Q I1 q1
  | false => exact hb pins s1 σ H1 Q I1 q1
end
end L2
namespace L2
open PySem PySem.Spec PyProof.Rows
def SqL (K : PySem.W.Frag) (H : Hp) (a : Addr) (xs : List V) : Prop :=
  Rd H a (.lst xs) ∨
    ∃ (o : Obj) (its : Array Value) (n : Nat), K.lookup a = some o ∧ o.cls = .type "list" ∧ o.dict = none ∧ o.data = .seq its n ∧ its.size ≤ sizeLine ∧ Vals xs its.toList
def SqT (K : PySem.W.Frag) (H : Hp) (a : Addr) (xs : List V) : Prop :=
  Rd H a (.tup xs) ∨
    ∃ (o : Obj) (its : Array Value) (n : Nat), K.lookup a = some o ∧ o.cls = .type "tuple" ∧ o.data = .seq its n ∧ its.size ≤ sizeLine ∧ Vals xs its.toList
def absV : Value → Option V
  | .none => some .non
  | .bool b => some (.bl b)
  | .int i _ => some (.int i)
  | .str x _ => some (.str x)
  | .bytes b _ => some (.byt b)
  | .float b _ => some (.flt b)
  | .ref a => some (.ref a)
  | .type n => some (.ty n)
  | _ => none
theorem RelV.abs {x : V} {u : Value} (r : RelV x u) : absV u = some x := by
  cases x with
  | non => cases r; rfl
  | bl _ => cases r; rfl
  | int _ => obtain ⟨t, rfl⟩ := r; rfl
  | str _ => obtain ⟨t, rfl⟩ := r; rfl
  | byt _ => obtain ⟨t, rfl⟩ := r; rfl
  | flt _ => obtain ⟨t, rfl⟩ := r; rfl
  | ref _ => cases r; rfl
  | ty _ => cases r; rfl
theorem RelV.inj {x y : V} {u : Value} (r : RelV x u) (q : RelV y u) : x = y := Option.some.inj (r.abs.symm.trans q.abs)
theorem Vals.inj : ∀ {xs ys : List V} {us : List Value}, Vals xs us → Vals ys us → xs = ys
  | _, _, _, .nil, .nil => rfl
  | _, _, _, .cons r t, .cons r' t' => by rw [r.inj r', Vals.inj t t']
section
variable {X : Cx} {pins : List (Addr × Obj)} {σ : St} {H : Hp} {s : Shared} {a : Addr} {xs ys : List V}
theorem SqL.of {K : PySem.W.Frag} (h : H a = some (.lst xs)) : SqL K H a xs := .inl (.inl h)
theorem SqT.of {K : PySem.W.Frag} (h : H a = some (.tup xs)) : SqT K H a xs := .inl (.inl h)
theorem Inv.list (I : Inv X pins σ H s) (h : SqL X.K H a xs) : ∃ its : List Value, Vals xs its ∧ PlainL s.heap a its.toArray ∧ xs.length ≤ sizeLine := by
  rcases h with h | ⟨o, its, n, hk, hc, hd, hs, hz, r⟩
  · obtain ⟨z, its, n, r, e⟩ := h.ok I.hok
    exact ⟨its, r, ⟨_, n, e, rfl, rfl, rfl⟩, z⟩
  · refine ⟨its.toList, r, ⟨o, n, I.kIn a o hk, hc, hd, by simpa using hs⟩, ?_⟩
    have e := r.length
    simp only [Array.length_toList] at e
    omega
theorem Inv.tuple (I : Inv X pins σ H s) (h : SqT X.K H a xs) : ∃ its : List Value, Vals xs its ∧ IsTup s.heap a its.toArray ∧ xs.length ≤ sizeLine := by
  rcases h with h | ⟨o, its, n, hk, hc, hs, hz, r⟩
  · obtain ⟨z, its, r, p⟩ := h.ok I.hok
    exact ⟨its, r, p, z⟩
  · refine ⟨its.toList, r, ⟨o, I.kIn a o hk, hc, n, by simpa using hs⟩, ?_⟩
    have e := r.length
    simp only [Array.length_toList] at e
    omega
theorem Inv.list_inj (I : Inv X pins σ H s) (h : SqL X.K H a xs) (h' : SqL X.K H a ys) : xs = ys := by
  obtain ⟨its, r, ⟨o, n, e, _, _, d⟩, _⟩ := I.list h
  obtain ⟨its', r', ⟨o', n', e', _, _, d'⟩, _⟩ := I.list h'
  rw [e] at e'; cases e'
  rw [d] at d'
  injection d' with d1 _
  have : its = its' := by simpa using congrArg Array.toList d1
  subst this
  exact r.inj r'
theorem Inv.tuple_inj (I : Inv X pins σ H s) (h : SqT X.K H a xs) (h' : SqT X.K H a ys) : xs = ys := by
  obtain ⟨its, r, ⟨o, e, _, n, d⟩, _⟩ := I.tuple h
  obtain ⟨its', r', ⟨o', e', _, n', d'⟩, _⟩ := I.tuple h'
  rw [e] at e'; cases e'
  rw [d] at d'
  injection d' with d1 _
  have : its = its' := by simpa using congrArg Array.toList d1
  subst this
  exact r.inj r'
end
abbrev Cx.wish (X : Cx) (E : Value → Shared → Prop) : Cx := { X with xe := E }
abbrev Cx.nox (X : Cx) : Cx := X.wish fun _ _ => False
theorem Cx.Ok.wish {X : Cx} (ok : X.Ok) (E : Value → Shared → Prop) : (X.wish E).Ok :=
  ⟨ok.mod, ok.kind, ok.glob, ok.blt, ok.above, ok.inj, ok.has, ok.cab, ok.hd, ok.frames, ok.stk, ok.exf, ok.bs, ok.bsz, ok.noex, ok.exfs, ok.funs, ok.frf⟩
theorem Cx.Ok.unwish {X : Cx} {E : Value → Shared → Prop} (ok : (X.wish E).Ok) : X.Ok :=
  ⟨ok.mod, ok.kind, ok.glob, ok.blt, ok.above, ok.inj, ok.has, ok.cab, ok.hd, ok.frames, ok.stk, ok.exf, ok.bs, ok.bsz, ok.noex, ok.exfs, ok.funs, ok.frf⟩
section
variable {X : Cx} {pins : List (Addr × Obj)} {σ : St} {H : Hp} {s : Shared} {E : Value → Shared → Prop}
theorem Inv.wish (I : Inv X pins σ H s) (E : Value → Shared → Prop) : Inv (X.wish E) pins σ H s := ⟨I.ok.wish E, I.os, I.bare, I.base, I.loc, I.cell, I.free, I.freeC, I.pin, I.hok, I.len⟩
theorem Inv.unwish (I : Inv (X.wish E) pins σ H s) : Inv X pins σ H s := ⟨I.ok.unwish, I.os, I.bare, I.base, I.loc, I.cell, I.free, I.freeC, I.pin, I.hok, I.len⟩
theorem SP.unwish {D : Ends} {f : Flow} {s' : Shared} (h : SP (X.wish E) pins D f s') : SP X pins D f s' := by
  cases f with
  | next => obtain ⟨σ', H', I, q⟩ := h; exact ⟨σ', H', I.unwish, q⟩
  | brk => obtain ⟨σ', H', I, q⟩ := h; exact ⟨σ', H', I.unwish, q⟩
  | cont => obtain ⟨σ', H', I, q⟩ := h; exact ⟨σ', H', I.unwish, q⟩
  | ret u => obtain ⟨v, σ', H', I, r, q⟩ := h; exact ⟨v, σ', H', I.unwish, r, q⟩
theorem PSs.nox {st : List Stmt} {t : TS} (h : PSs X.nox st t) : PSs X st t := fun pins s σ H D I hw =>
  wpAny_mono (h pins s σ H D (I.wish _) hw) (fun _ _ q => q.unwish) fun _ _ z => False.elim z
end
section
variable {X : Cx} {st : Stmt} {rest : List Stmt} {t u : TS} {e : Expr} {te : TE} {pos : Pos}
def tNext : TS := fun D σ H => D.nx σ H
def tSeq (t u : TS) : TS := fun D σ H => t { D with nx := u D } σ H
theorem pss_nil : PSs X [] tNext := fun _ _ σ H _ I h => wpAny_execs_nil ⟨σ, H, I, h⟩
theorem pss_cons (h1 : PS X st t) (h2 : PSs X rest u) : PSs X (st :: rest) (tSeq t u) := by
  intro pins s σ H D I h
  refine wpAny_execs_cons (thn (h1 pins s σ H { D with nx := u D } I h) fun f s1 q => ?_)
  cases f with
  | next =>
    obtain ⟨σ', H', I', q⟩ := q
    exact h2 pins s1 σ' H' D I' q
  | ret v => exact q
  | brk => exact q
  | cont => exact q
theorem pss_one (h1 : PS X st t) : PSs X [st] t := by
  intro pins s σ H D I h
  refine wpAny_execs_cons (thn (h1 pins s σ H D I h) fun f s1 q => ?_)
  cases f with
  | next => exact wpAny_execs_nil q
  | ret v => exact q
  | brk => exact q
  | cont => exact q
def tBreak : TS := fun D σ H => D.bk σ H
def tCont : TS := fun D σ H => D.ct σ H
theorem Inv.quiet {pins : List (Addr × Obj)} {σ : St} {H : Hp} {s : Shared} (I : Inv X pins σ H s) : interactive X.env = false := by simp [interactive, I.ok.kind]
def tDrop (te : TE) : TS := fun D σ H => te σ H fun _ H1 => D.nx σ H1
theorem ps_expr (he : PE X e te) (hs : swapsWith e none pos.line X.env = pure false := by rfl) : PS X (.Expr e pos) (tDrop te) := by
  intro pins s σ H D I h
  exact wpAny_Expr_any (thn (he pins s σ H _ I h) fun v s1 ⟨x, H1, I1, r1, q1⟩ => ⟨σ, H1, I1, q1⟩) I.quiet hs
def tRet (te : TE) : TS := fun D σ H => te σ H D.rt
theorem ps_ret (he : PE X e te) : PS X (.Return (some e) pos) (tRet te) := by
  intro pins s σ H D I h
  exact wpAny_Return_some (thn (he pins s σ H _ I h) fun v s1 ⟨x, H1, I1, r1, q1⟩ => ⟨x, σ, H1, I1, r1, q1⟩)
def tRetN : TS := fun D _ H => D.rt .non H
def tIfS (c : TT) (t u : TS) : TS := fun D σ H => c σ H fun b H1 => if b = true then t D σ H1 else u D σ H1
theorem ps_if {c : Expr} {a b : List Stmt} {tc : TT} (hc : PT X c tc) (ha : PSs X a t) (hb : PSs X b u) : PS X (.If c a b pos) (tIfS tc t u) := by
  intro pins s σ H D I h
  refine wpAny_If (thn (hc pins s σ H _ I h) fun d s1 ⟨H1, I1, q1⟩ => ?_)
  cases d with
  | true => exact ha pins s1 σ H1 D I1 q1
  | false => exact hb pins s1 σ H1 D I1 q1
def tNever : TS := fun _ _ _ => False
end
abbrev TG := V → St → Hp → (St → Hp → Prop) → Prop
abbrev TGs := List V → St → Hp → (St → Hp → Prop) → Prop
def PG (X : Cx) (target : Expr) (t : TG) : Prop :=
  ∀ (pins : List (Addr × Obj)) (s : Shared) (σ : St) (H : Hp) (v : V) (u : Value) (Q : St → Hp → Prop), Inv X pins σ H s → RelV v u → t v σ H Q →
    wpAny (model X.prog X.w) X.A (assign target X.env u) (fun _ s' => ∃ σ' H', Inv X pins σ' H' s' ∧ Q σ' H') X.xe s
def PGs (X : Cx) (ts : List Expr) (t : TGs) : Prop :=
  ∀ (pins : List (Addr × Obj)) (s : Shared) (σ : St) (H : Hp) (vs : List V) (us : List Value) (Q : St → Hp → Prop), Inv X pins σ H s → Vals vs us → t vs σ H Q →
    wpAny (model X.prog X.w) X.A (assignInOrder ((assignEach ts X.env).map (·.2)) us) (fun _ s' => ∃ σ' H', Inv X pins σ' H' s' ∧ Q σ' H') X.xe s
abbrev TSet := V → V → V → Hp → (Hp → Prop) → Prop
def PSet (X : Cx) (t : TSet) : Prop :=
  ∀ (pins : List (Addr × Obj)) (s : Shared) (σ : St) (H : Hp) (o i v : V) (ov iv u : Value) (Q : Hp → Prop), Inv X pins σ H s → RelV o ov → RelV i iv → RelV v u → t o i v H Q →
    wpAny (model X.prog X.w) X.A (setItem ov iv u) (fun _ s' => ∃ H', Inv X pins σ H' s' ∧ Q H') X.xe s
abbrev TIp := V → V → Hp → VK → Prop
def PIp (X : Cx) (op : Operator) (t : TIp) : Prop :=
  ∀ (pins : List (Addr × Obj)) (s : Shared) (σ : St) (H : Hp) (x y : V) (v u : Value) (Q : VK), Inv X pins σ H s → RelV x v → RelV y u → t x y H Q →
    wpAny (model X.prog X.w) X.A (inplaceOp op v u) (EP X pins σ Q) X.xe s
section
variable {X : Cx} {pos : Pos}
def gName (i : Nat) : TG := fun v σ H Q => Q (σ.set i (some v)) H
theorem pg_name {i : Nat} {x : Str} (hN : X.N.Nodup) (hi : X.N[i]? = some x) (hx : Loc X.env.scope x) (hf : X.fn x = true ∨ X.env.scope.names.lookup x = some .local := by first | exact .inl rfl | exact .inr rfl | assumption) : PG X (.Name x pos) (gName i) := by
  intro pins s σ H v u Q I r h
  exact wpAny_assign_Name (store_ok I hN hi hx r (fun s' I' => ⟨_, H, I', h⟩) hf)
def gNil : TGs := fun vs σ H Q => vs = [] ∧ Q σ H
def gCons (t : TG) (u : TGs) : TGs := fun vs σ H Q => ∃ v r, vs = v :: r ∧ t v σ H fun σ' H' => u r σ' H' Q
theorem pgs_nil : PGs X [] gNil := by
  intro pins s σ H vs us Q I r h
  obtain ⟨e, h⟩ := h
  subst e
  cases r
  exact assignInOrder_nil ⟨σ, H, I, h⟩
theorem pgs_cons {e : Expr} {es : List Expr} {t : TG} {u : TGs} (h1 : PG X e t) (h2 : PGs X es u)
    (hs : (assignEach (e :: es) X.env).map (·.2) = assign e X.env :: (assignEach es X.env).map (·.2) := by rfl) : PGs X (e :: es) (gCons t u) := by
  intro pins s σ H vs us Q I r h
  obtain ⟨v, vr, e1, h⟩ := h
  subst e1
  cases r with
  | cons r rr =>
    rw [hs]
    refine assignInOrder_cons (thn (h1 pins s σ H _ _ _ I r h) fun _ s1 ⟨σ1, H1, I1, q1⟩ => ?_)
    exact h2 pins s1 σ1 H1 _ _ Q I1 rr q1
def gTup (K : PySem.W.Frag) (n : Nat) (t : TGs) : TG := fun v σ H Q => ∃ a xs, v = .ref a ∧ SqT K H a xs ∧ xs.length = n ∧ t xs σ H Q
theorem pg_tup {es : List Expr} {k : Nat} {t : TGs} {n : Nat} (hc : X.calm = true) (h : PGs X es t)
    (hn : (assignEach es X.env).length = n := by rfl) (hst : (assignEach es X.env).findIdx? (·.1) = none := by rfl) : PG X (.Tuple es k pos) (gTup X.K n t) := by
  intro pins s σ H v u Q I r hw
  obtain ⟨a, xs, e1, hq, hl, hw⟩ := hw
  subst e1
  cases r
  obtain ⟨its, rv, ht, hz⟩ := I.tuple hq
  refine assign_Tuple_tuple (I.ok.hd hc) ht (by simp [hn, ← hl, rv.length]) hst fun h' hx => ?_
  have I1 : Inv X pins σ H { s with heap := h' } := I.kept (t' := s.toks) fun b o e => hx b o (Nat.ne_of_lt (Heap.lt_size e)) e
  exact h pins _ σ H xs _ Q I1 (by simpa using rv) hw
def gSub (to ti : TE) (t : TSet) : TG := fun v σ H Q => to σ H fun o H1 => ti σ H1 fun i H2 => t o i v H2 fun H3 => Q σ H3
def tAsg (te : TE) (g : TG) : TS := fun D σ H => te σ H fun x H1 => g x σ H1 D.nx
theorem ps_set {i : Nat} {x : Str} {e : Expr} {te : TE} {pos' : Pos} (hN : X.N.Nodup) (hi : X.N[i]? = some x) (hx : Loc X.env.scope x) (he : PE X e te) (hs : swapsWith e (some (.Name x pos')) pos.line X.env = pure false := by rfl) (hf : X.fn x = true ∨ X.env.scope.names.lookup x = some .local := by first | exact .inl rfl | exact .inr rfl | assumption) :
    PS X (.Assign [.Name x pos'] e pos) (tAsg te (gName i)) := by
  intro pins s σ H D I h
  refine wpAny_Assign_Name (thn (he pins s σ H _ I h) fun v s1 ⟨y, H1, I1, r1, q1⟩ => ?_) hs
  exact store_ok I1 hN hi hx r1 (fun s2 I2 => ⟨_, H1, I2, q1⟩) hf
def tPar (i j : Nat) (ta : TA) : TS := fun D σ H => ta σ H fun vs H1 => ∃ v w, vs = [v, w] ∧ D.nx ((σ.set i (some v)).set j (some w)) H1
def tAug (i : Nat) (te : TE) (ti : TIp) : TS := fun D σ H => ∃ x, σ[i]? = some (some x) ∧ te σ H fun y H1 => ti x y H1 fun z H2 => D.nx (σ.set i (some z)) H2
theorem ps_aug {i : Nat} {x : Str} {e : Expr} {te : TE} {op : Operator} {ti : TIp} {pos' : Pos} (hN : X.N.Nodup) (hi : X.N[i]? = some x) (hx : Loc X.env.scope x) (he : PE X e te) (ho : PIp X op ti) (hf : X.fn x = true ∨ X.env.scope.names.lookup x = some .local := by first | exact .inl rfl | exact .inr rfl | assumption) :
    PS X (.AugAssign (.Name x pos') op e pos) (tAug i te ti) := by
  intro pins s σ H D I h
  obtain ⟨v, e1, h⟩ := h
  obtain ⟨m, hn, hl⟩ := I.loc
  have vis : Vis X.env.scope x := by rcases hx with k | k; exact .inl k; exact .inr (.inl k)
  obtain ⟨u, r, l⟩ := hl i x v hi e1 vis
  refine wpAny_AugAssign_Name ?_
  have go : wpAny (model X.prog X.w) X.A (eval e X.env) (fun w s₂ => wpAny (model X.prog X.w) X.A (inplaceOp op u w) (fun r s₃ => wpAny (model X.prog X.w) X.A (storeName X.env x r) (fun _ => SP X pins D .next) X.xe s₃) X.xe s₂) X.xe s := by
    refine thn (he pins s σ H _ I h) fun w s1 ⟨y, H1, I1, r1, q1⟩ => ?_
    refine thn (ho pins s1 σ H1 v y u w _ I1 r r1 q1) fun z s2 ⟨zv, H2, I2, r2, q2⟩ => ?_
    exact store_ok I2 hN hi hx r2 (fun s3 I3 => ⟨_, H2, I3, q2⟩) hf
  rcases l with ⟨hk, hm⟩ | ⟨hk, c, hc, hcell⟩
  · exact wpAny_loadName_local I.ok.kind hk hn hm go
  · rcases hk with hk | hk
    · exact wpAny_loadName_cell I.ok.kind hk hc hcell go
    · rcases hx with k | k
      · have : X.env.scope.names.lookup x = some .free := hk
        rw [k] at this; cases this
      · have : X.env.scope.names.lookup x = some .free := hk
        rw [k] at this; cases this
def tAugS (to ti te : TE) (tget : V → V → Hp → VK → Prop) (tip : TIp) (tset : TSet) : TS := fun D σ H => to σ H fun o H1 => ti σ H1 fun i H2 => tget o i H2 fun x H3 => te σ H3 fun y H4 => tip x y H4 fun z H5 => tset o i z H5 fun H6 => D.nx σ H6
def PGet (X : Cx) (t : V → V → Hp → VK → Prop) : Prop :=
  ∀ (pins : List (Addr × Obj)) (s : Shared) (σ : St) (H : Hp) (o i : V) (ov iv : Value) (Q : VK), Inv X pins σ H s → RelV o ov → RelV i iv → t o i H Q →
    wpAny (model X.prog X.w) X.A (getItem ov iv) (EP X pins σ Q) X.xe s
def ipI (f : Int → Int → Int) : TIp := fun x y H Q => ∃ i j, x = .int i ∧ y = .int j ∧ Q (.int (f i j)) H
theorem ip_add : PIp X .Add (ipI fun i j => i + j) := by
  intro pins s σ H x y v u Q I r1 r2 h
  obtain ⟨i, j, e1, e2, q⟩ := h
  subst e1; subst e2
  obtain ⟨t, rfl⟩ := r1
  obtain ⟨t', rfl⟩ := r2
  exact iadd_int ⟨.int _, H, I.tok _, ⟨_, rfl⟩, q⟩
theorem ip_sub : PIp X .Sub (ipI fun i j => i - j) := by
  intro pins s σ H x y v u Q I r1 r2 h
  obtain ⟨i, j, e1, e2, q⟩ := h
  subst e1; subst e2
  obtain ⟨t, rfl⟩ := r1
  obtain ⟨t', rfl⟩ := r2
  exact isub_int ⟨.int _, H, I.tok _, ⟨_, rfl⟩, q⟩
end
section
variable {X : Cx} {pos : Pos}
def tWhile (c : TT) (tb : TS) : TS := fun D σ H => ∃ W : Nat → St → Hp → Prop, (∃ m, W m σ H) ∧ ∀ m σ H, W m σ H →
  c σ H fun b H1 => if b = true then ∃ N : St → Hp → Prop, (∀ σ' H', N σ' H' → ∃ m', m' < m ∧ W m' σ' H') ∧ tb { D with nx := N, ct := N, bk := D.nx } σ H1 else D.nx σ H1
theorem ps_while {c : Expr} {body : List Stmt} {tc : TT} {tb : TS} (hp : PassesOwn (model X.prog X.w) X.A X.env X.xe) (hc : PT X c tc) (hb : PSs X body tb) : PS X (.While c body [] pos) (tWhile tc tb) := by
  intro pins s σ H D I h
  obtain ⟨W, ⟨m0, w0⟩, turn⟩ := h
  refine wpAny_While (codeAny_whileLoop (fun n s' => ∃ σ' H', Inv X pins σ' H' s' ∧ W n σ' H') ?_ m0 ⟨σ, H, I, w0⟩)
  rintro n s1 ⟨σ1, H1, I1, w1⟩
  refine wpAny_passesOwn hp (thn (hc pins s1 σ1 H1 _ I1 (turn n σ1 H1 w1)) fun b s2 ⟨H2, I2, q2⟩ => ?_)
  cases b with
  | true =>
    obtain ⟨N, hN, q2⟩ := q2
    rw [if_pos rfl]
    refine wpAny_passesOwn hp (thn (hb pins s2 σ1 H2 _ I2 q2) fun f s3 q3 => ?_)
    cases f with
    | next =>
      obtain ⟨σ3, H3, I3, n3⟩ := q3
      obtain ⟨m', hm, w3⟩ := hN σ3 H3 n3
      exact ⟨m', hm, σ3, H3, I3, w3⟩
    | cont =>
      obtain ⟨σ3, H3, I3, n3⟩ := q3
      obtain ⟨m', hm, w3⟩ := hN σ3 H3 n3
      exact ⟨m', hm, σ3, H3, I3, w3⟩
    | brk => exact q3
    | ret v => exact q3
  | false =>
    rw [if_neg Bool.false_ne_true]
    exact wpAny_execs_nil ⟨σ1, H2, I2, q2⟩
end
structure It where
  go : Nat → Hp → Prop
  yld : Nat → Hp → V → Hp → Prop
  stop : Nat → Hp → Prop
def FpOk (X : Cx) (pins : List (Addr × Obj)) (H : Hp) (b : Addr) : Prop :=
  H b = none ∧ b ≠ X.env.locals ∧ b ∉ X.fs ∧ (b ∈ X.ex ∨ X.s_0.heap.objs.size ≤ b) ∧ (∀ x c, X.env.cells.lookup x = some c → c ≠ b) ∧ ∀ p ∈ X.pn ++ pins, p.1 ≠ b
theorem Inv.fpOk {X : Cx} {pins : List (Addr × Obj)} {σ : St} {H H' : Hp} {s : Shared} {b : Addr} (I : Inv X pins σ H s) (hb : s.heap.objs.size ≤ b) (hn : H' b = none) : FpOk X pins H' b := by
  refine ⟨hn, Nat.ne_of_gt (Nat.lt_of_lt_of_le I.lt hb), I.nofs hb, .inr (Nat.le_trans I.sz hb), fun x c e z => ?_, fun p hp z => ?_⟩
  · obtain ⟨v, q⟩ := I.cell x c e
    exact absurd (Nat.lt_of_lt_of_le q.lt (by rw [z]; exact hb)) (Nat.lt_irrefl _)
  · exact absurd (Nat.lt_of_lt_of_le (Heap.lt_size (I.pin p hp).1) (by rw [z]; exact hb)) (Nat.lt_irrefl _)
structure Turn (P : Program) (w : World) (K : PySem.W.Frag) (tg : Expr) (J : It) (fp : List Addr) (it : Addr) (tn : Nat → Heap → Prop) : Prop where
  mem : it ∈ fp
  obj : ∀ i h, tn i h → ∀ b ∈ fp, ∃ o, h.get? b = some o ∧ ∀ v, o.data ≠ .cell v
  keep : ∀ i h h', tn i h → (∀ b ∈ fp, ∀ o, h.get? b = some o → h'.get? b = some o) → tn i h'
  item : ∀ (X : Cx), X.prog = P → X.w = w → X.K = K → X.calm = true → ∀ (i : Nat) (pins : List (Addr × Obj)) (s : Shared) (σ : St) (H : Hp) (E : Value → Shared → Prop), Inv X pins σ H s → (∀ b ∈ fp, FpOk X pins H b) → tn i s.heap → J.go i H →
    wpAny (model P w) X.A (pyNext (.ref it)) (fun r s1 => ∃ u, r = some u ∧
      wpAny (model P w) X.A (letOwnedTupleGo tg (.ref it) u) (fun _ s2 => ∃ x H', Inv X pins σ H' s2 ∧ RelV x u ∧ J.yld i H x H' ∧ tn (i + 1) s2.heap ∧ ∀ b ∈ fp, H' b = none) E s1) E s
  done : ∀ (X : Cx), X.prog = P → X.w = w → X.K = K → X.calm = true → ∀ (i : Nat) (pins : List (Addr × Obj)) (s : Shared) (σ : St) (H : Hp) (E : Value → Shared → Prop), Inv X pins σ H s → (∀ b ∈ fp, FpOk X pins H b) → tn i s.heap → J.stop i H →
    wpAny (model P w) X.A (pyNext (.ref it)) (fun r s1 => r = none ∧ Inv X pins σ H s1) E s
  self : ∀ (A : Around) (i : Nat) (s : Shared) (Q : Value → Shared → Prop) (E : Value → Shared → Prop), tn i s.heap → Q (.ref it) s → wpAny (model P w) A (pyIter (.ref it)) Q E s
abbrev TI := St → Hp → (It → Hp → Prop) → Prop
def PIE (X : Cx) (pins : List (Addr × Obj)) (σ : St) (tg : Expr) (R : It → Hp → Prop) (itv : Value) (s2 : Shared) : Prop :=
  ∃ (it : Addr) (fp : List Addr) (tn : Nat → Heap → Prop) (J : It) (H' : Hp), itv = .ref it ∧ Inv X pins σ H' s2 ∧ Turn X.prog X.w X.K tg J fp it tn ∧ tn 0 s2.heap ∧ (∀ b ∈ fp, FpOk X pins H' b) ∧ R J H'
def PI (X : Cx) (tg iter : Expr) (wi : TI) : Prop :=
  ∀ (pins : List (Addr × Obj)) (s : Shared) (σ : St) (H : Hp) (R : It → Hp → Prop), Inv X pins σ H s → wi σ H R →
    wpAny (model X.prog X.w) X.A (eval iter X.env) (fun v s1 => wpAny (model X.prog X.w) X.A (pyIter v) (PIE X pins σ tg R) X.xe s1) X.xe s
theorem go_of {M : Model} {A : Around} {E : Value → Shared → Prop} {s : Shared} {tg : Expr} {it : Addr} {u : Value} {o : Obj} {n : String} {vs : Array Value} {Q : Unit → Shared → Prop} (ho : s.heap.get? it = some o) (hc : o.cls = .type n) (hd : o.data = .fields vs)
    (hn : ["enumerate", "zip", "dict_itemiterator", "dict_reverseitemiterator", "odict_iterator", "itertools.zip_longest", "itertools.pairwise"].contains n = false) (hQ : Q () s) : wpAny M A (letOwnedTupleGo tg (.ref it) u) Q E s := by
  unfold letOwnedTupleGo
  cases tg <;> first
    | exact wpAny_pure hQ
    | (cases u <;> first
        | exact wpAny_pure hQ
        | (refine wpAny_bind (wpAny_load ho ?_)
           rw [hc, hd]
           show wpAny M A (if (["enumerate", "zip", "dict_itemiterator", "dict_reverseitemiterator", "odict_iterator", "itertools.zip_longest", "itertools.pairwise"].contains n && vs[0]? == some (rawInt _)) = true then _ else _) Q E s
           rw [if_neg (by intro h; rw [hn, Bool.false_and] at h; cases h)]
           exact wpAny_pure hQ))
def Itl (K : PySem.W.Frag) (a : Addr) : It :=
  ⟨fun i H => ∃ xs x, SqL K H a xs ∧ xs[i]? = some x, fun i H x H' => H' = H ∧ ∀ xs, SqL K H a xs → xs[i]? = some x, fun i H => ∃ xs, SqL K H a xs ∧ xs.length ≤ i⟩
def Itt (K : PySem.W.Frag) (a : Addr) : It :=
  ⟨fun i H => ∃ xs x, SqT K H a xs ∧ xs[i]? = some x, fun i H x H' => H' = H ∧ ∀ xs, SqT K H a xs → xs[i]? = some x, fun i H => ∃ xs, SqT K H a xs ∧ xs.length ≤ i⟩
def Itr (lo : Int) (n : Nat) : It := ⟨fun i _ => i < n, fun i H x H' => H' = H ∧ x = .int (lo + i), fun i _ => n ≤ i⟩
theorem turn_list {P : Program} {w : World} {K : PySem.W.Frag} {tg : Expr} (a it : Addr) : Turn P w K tg (Itl K a) [it] it (fun i h => h.IsListIter it a i) where
  mem := by simp
  obj := fun i h st b hb => by
    have e : b = it := by simpa using hb
    subst e
    obtain ⟨o, e, c, d⟩ := st
    exact ⟨o, e, fun v z => by rw [d] at z; cases z⟩
  keep := fun i h h' st k => st.at fun o e => k it (by simp) o e
  item := by
    intro X hP hw hK hc i pins s σ H E I hf st hg
    subst hP hw hK
    obtain ⟨xs, x, hq, hx⟩ := hg
    obtain ⟨its, rv, p, hz⟩ := I.list hq
    obtain ⟨u, hu, ru⟩ := rv.get hx
    obtain ⟨f0, f1, f2, f3, f4, f5⟩ := hf it (by simp)
    refine wpAny_pyNext_list_item st p.isList (x := u) (by simpa using hu) fun h' st' sb => ?_
    have I1 : Inv X pins σ H { s with heap := h' } := I.turned (t' := s.toks) (fun b o hb e => (sb.2 b hb).trans e) f0 f1 f3 f4 f5
    obtain ⟨o, e, c, d⟩ := id st'
    exact ⟨u, rfl, go_of (s := { s with heap := h' }) e c d (by decide) ⟨x, H, I1, ru, ⟨rfl, fun ys hy => by rw [I.list_inj hy hq]; exact hx⟩, st', fun b hb => (hf b hb).1⟩⟩
  done := by
    intro X hP hw hK hc i pins s σ H E I hf st hg
    subst hP hw hK
    obtain ⟨xs, hq, hx⟩ := hg
    obtain ⟨its, rv, p, hz⟩ := I.list hq
    obtain ⟨f0, f1, f2, f3, f4, f5⟩ := hf it (by simp)
    have hl := rv.length
    exact wpAny_pyNext_list_end (I.ok.hd hc) st p.isList (by simp; omega) fun h' eb => ⟨rfl, I.turned (t' := s.toks) (fun b o hb e => eb b o hb e) f0 f1 f3 f4 f5⟩
  self := fun _ _ _ _ _ st h => wpAny_pyIter_listiter st h
theorem turn_tuple {P : Program} {w : World} {K : PySem.W.Frag} {tg : Expr} (a it : Addr) : Turn P w K tg (Itt K a) [it] it (fun i h => h.IsTupleIter it a i) where
  mem := by simp
  obj := fun i h st b hb => by
    have e : b = it := by simpa using hb
    subst e
    obtain ⟨o, e, c, d⟩ := st
    exact ⟨o, e, fun v z => by rw [d] at z; cases z⟩
  keep := fun i h h' st k => st.at fun o e => k it (by simp) o e
  item := by
    intro X hP hw hK hc i pins s σ H E I hf st hg
    subst hP hw hK
    obtain ⟨xs, x, hq, hx⟩ := hg
    obtain ⟨its, rv, p, hz⟩ := I.tuple hq
    obtain ⟨u, hu, ru⟩ := rv.get hx
    obtain ⟨f0, f1, f2, f3, f4, f5⟩ := hf it (by simp)
    refine wpAny_pyNext_tuple_item st (show s.heap.IsTuple a its.toArray from p) (x := u) (by simpa using hu) fun h' st' sb => ?_
    have I1 : Inv X pins σ H { s with heap := h' } := I.turned (t' := s.toks) (fun b o hb e => (sb.2 b hb).trans e) f0 f1 f3 f4 f5
    obtain ⟨o, e, c, d⟩ := id st'
    exact ⟨u, rfl, go_of (s := { s with heap := h' }) e c d (by decide) ⟨x, H, I1, ru, ⟨rfl, fun ys hy => by rw [I.tuple_inj hy hq]; exact hx⟩, st', fun b hb => (hf b hb).1⟩⟩
  done := by
    intro X hP hw hK hc i pins s σ H E I hf st hg
    subst hP hw hK
    obtain ⟨xs, hq, hx⟩ := hg
    obtain ⟨its, rv, p, hz⟩ := I.tuple hq
    obtain ⟨f0, f1, f2, f3, f4, f5⟩ := hf it (by simp)
    have hl := rv.length
    exact wpAny_pyNext_tuple_end (I.ok.hd hc) st (show s.heap.IsTuple a its.toArray from p) (by simp; omega) fun h' eb => ⟨rfl, I.turned (t' := s.toks) (fun b o hb e => eb b o hb e) f0 f1 f3 f4 f5⟩
  self := fun _ _ _ _ _ st h => wpAny_pyIter_tupleiter st h
theorem turn_range {P : Program} {w : World} {K : PySem.W.Frag} {tg : Expr} (it : Addr) (lo : Int) (n : Nat) : Turn P w K tg (Itr lo n) [it] it (fun i h => IsRangeIter h it (lo + (i : Nat) * 1) ((n : Int) - (i : Nat)) 1) where
  mem := by simp
  obj := fun i h st b hb => by
    have e : b = it := by simpa using hb
    subst e
    exact ⟨_, st, fun v z => by
      have z' : Data.fields _ = Data.cell v := z
      cases z'⟩
  keep := fun i h h' st k => k it (by simp) _ st
  item := by
    intro X hP hw hK hc i pins s σ H E I hf st hg
    subst hP hw hK
    obtain ⟨f0, f1, f2, f3, f4, f5⟩ := hf it (by simp)
    have W := Walks.range (prog := X.prog) (w := X.w) (I.ok.hd hc) it lo 1 n
    refine W.item i s _ _ hg st fun v h' tk hv st' kk => ?_
    obtain ⟨t, rfl⟩ := hv
    have I1 : Inv X pins σ H { s with heap := h', toks := tk } := I.turned (fun b o hb e => kk b o (by simpa using hb) e) f0 f1 f3 f4 f5
    refine ⟨_, rfl, go_of (s := { s with heap := h', toks := tk }) (n := "range_iterator") st' rfl rfl (by decide) ⟨.int (lo + i), H, I1, ⟨t, ?_⟩, ⟨rfl, rfl⟩, st', fun b hb => (hf b hb).1⟩⟩
    rw [Int.mul_one]
  done := by
    intro X hP hw hK hc i pins s σ H E I hf st hg
    subst hP hw hK
    obtain ⟨f0, f1, f2, f3, f4, f5⟩ := hf it (by simp)
    exact wpAny_pyNext_range_end (I.ok.hd hc) st (by have : n ≤ i := hg; omega) fun h' eb => ⟨rfl, I.turned (t' := s.toks) (fun b o hb e => eb b o hb e) f0 f1 f3 f4 f5⟩
  self := fun _ _ _ _ _ st h => wpAny_pyIter_rangeiter st h
end L2
namespace L2
open PySem PySem.Spec PyProof.Rows
section
variable {X : Cx} {tg : Expr}
def iList (K : PySem.W.Frag) (tl : TE) : TI := fun σ H R => tl σ H fun x H1 => ∃ a, x = .ref a ∧ (∃ xs, SqL K H1 a xs) ∧ R (Itl K a) H1
def iTup (K : PySem.W.Frag) (tl : TE) : TI := fun σ H R => tl σ H fun x H1 => ∃ a, x = .ref a ∧ (∃ xs, SqT K H1 a xs) ∧ R (Itt K a) H1
theorem pi_list {l : Expr} {tl : TE} (hl : PE X l tl) : PI X tg l (iList X.K tl) := by
  intro pins s σ H R I h
  refine thn (hl pins s σ H _ I h) fun v s1 ⟨x, H1, I1, r1, q1⟩ => ?_
  obtain ⟨a, e, ⟨xs, hq⟩, q⟩ := q1
  subst e
  cases r1
  obtain ⟨its, rv, p, hz⟩ := I1.list hq
  refine wpAny_pyIter_list p.isList ?_
  refine ⟨s1.heap.objs.size, [s1.heap.objs.size], _, _, H1, rfl, I1.kept (t' := s1.toks) fun b o e => Heap.get?_push_of_some _ e, turn_list a _, ⟨_, Heap.get?_push_size _ rfl, rfl, rfl⟩, fun b hb => ?_, q⟩
  have e : b = s1.heap.objs.size := by simpa using hb
  subst e
  exact I1.fpOk (Nat.le_refl _) (I1.hok.fresh (Nat.le_refl _))
theorem pi_tup {l : Expr} {tl : TE} (hl : PE X l tl) : PI X tg l (iTup X.K tl) := by
  intro pins s σ H R I h
  refine thn (hl pins s σ H _ I h) fun v s1 ⟨x, H1, I1, r1, q1⟩ => ?_
  obtain ⟨a, e, ⟨xs, hq⟩, q⟩ := q1
  subst e
  cases r1
  obtain ⟨its, rv, p, hz⟩ := I1.tuple hq
  refine wpAny_pyIter_tuple (show s1.heap.IsTuple a its.toArray from p) ?_
  refine ⟨s1.heap.objs.size, [s1.heap.objs.size], _, _, H1, rfl, I1.kept (t' := s1.toks) fun b o e => Heap.get?_push_of_some _ e, turn_tuple a _, ⟨_, Heap.get?_push_size _ rfl, rfl, rfl⟩, fun b hb => ?_, q⟩
  have e : b = s1.heap.objs.size := by simpa using hb
  subst e
  exact I1.fpOk (Nat.le_refl _) (I1.hok.fresh (Nat.le_refl _))
theorem range_it {pins : List (Addr × Obj)} {σ : St} {H : Hp} {s : Shared} {R : It → Hp → Prop} {E : Value → Shared → Prop} {lo hi : Int} {t u v : Tok} {tk : Nat} (I : Inv X pins σ H s) (h1 : -(2 ^ 62) ≤ lo) (h2 : lo < 2 ^ 62) (h3 : -(2 ^ 62) ≤ hi) (h4 : hi < 2 ^ 62)
    (q : R (Itr lo (hi - lo).toNat) H) : wpAny (model X.prog X.w) X.A (pyIter (.ref s.heap.objs.size)) (PIE X pins σ tg R) E { s with heap := s.heap.push { cls := .type "range", data := .fields #[.int lo t, .int hi u, .int 1 v] }, toks := tk } := by
  refine wpAny_pyIter_range (IsRange.new ..) (small_one h1 h2 h3 h4) ?_
  have I1 : Inv X pins σ H { s with heap := s.heap.push { cls := .type "range", data := .fields #[.int lo t, .int hi u, .int 1 v] }, toks := tk } := I.kept fun b o e => Heap.get?_push_of_some _ e
  refine ⟨(s.heap.push { cls := .type "range", data := .fields #[.int lo t, .int hi u, .int 1 v] }).objs.size, [(s.heap.push { cls := .type "range", data := .fields #[.int lo t, .int hi u, .int 1 v] }).objs.size], _, _, H, rfl,
    I1.kept (t' := tk) fun b o e => Heap.get?_push_of_some _ e, turn_range _ lo (hi - lo).toNat, ?_, fun b hb => ?_, q⟩
  · have e1 : lo + ((0 : Nat) : Int) * 1 = lo := by simp
    have e2 : (((hi - lo).toNat : Nat) : Int) - ((0 : Nat) : Int) = Builtin.Range.rangeSize lo hi 1 := by rw [rangeSize_one]; split <;> omega
    show IsRangeIter _ _ (lo + ((0 : Nat) : Int) * 1) ((((hi - lo).toNat : Nat) : Int) - ((0 : Nat) : Int)) 1
    rw [e1, e2]
    exact Heap.get?_push_size _ rfl
  · have e : b = (s.heap.push { cls := .type "range", data := .fields #[.int lo t, .int hi u, .int 1 v] }).objs.size := by simpa using hb
    subst e
    exact I1.fpOk (Nat.le_refl _) (I1.hok.fresh (Nat.le_refl _))
def iRng1 (ta : TA) : TI := fun σ H R => ta σ H fun vs H1 => ∃ j : Int, vs = [.int j] ∧ -(2 ^ 62) ≤ j ∧ j < 2 ^ 62 ∧ R (Itr 0 j.toNat) H1
def iRng2 (ta : TA) : TI := fun σ H R => ta σ H fun vs H1 => ∃ i j : Int, vs = [.int i, .int j] ∧ (-(2 ^ 62) ≤ i ∧ i < 2 ^ 62 ∧ -(2 ^ 62) ≤ j ∧ j < 2 ^ 62) ∧ R (Itr i (j - i).toNat) H1
theorem pi_range1 {a : Expr} {ta : TA} {p pos : Pos} (hg : Gl X "range") (hm : X.mg "range" = none) (ha : PA X [a] ta) (hs : starEach [a] X.env = [(false, eval a X.env)] := by rfl) : PI X tg (.Call (.Name "range" p) [a] [] pos) (iRng1 ta) := by
  intro pins s σ H R I h
  refine Call_ (ld_blt I hg hm boot_range (PyProof.Rows.callWith_type1 (thn (ha pos pins s σ H _ I h) fun us s1 ⟨vs, H1, I1, r1, q1⟩ => ?_) hs rfl))
  obtain ⟨j, e, q1, q2, q⟩ := q1
  subst e
  cases r1 with
  | cons r rr =>
    cases rr
    obtain ⟨t, rfl⟩ := r
    exact call_range_1 (range_it I1 (by omega) (by omega) q1 q2 (by simpa using q))
theorem pi_range2 {a b : Expr} {ta : TA} {p pos : Pos} (hg : Gl X "range") (hm : X.mg "range" = none) (ha : PA X [a, b] ta) (hs : starEach [a, b] X.env = [(false, eval a X.env), (false, eval b X.env)] := by rfl) (hs2 : starEach [b] X.env = [(false, eval b X.env)] := by rfl) :
    PI X tg (.Call (.Name "range" p) [a, b] [] pos) (iRng2 ta) := by
  intro pins s σ H R I h
  refine Call_ (ld_blt I hg hm boot_range (PyProof.Rows.callWith_type1 (thn (ha pos pins s σ H _ I h) fun us s1 ⟨vs, H1, I1, r1, q1⟩ => ?_) (by rw [hs, hs2]) (by rw [hs2]; rfl)))
  obtain ⟨i, j, e, ⟨q1, q2, q3, q4⟩, q⟩ := q1
  subst e
  cases r1 with
  | cons r rr =>
    cases rr with
    | cons r' rr =>
      cases rr
      obtain ⟨t, rfl⟩ := r
      obtain ⟨t', rfl⟩ := r'
      exact call_range_2 (range_it I1 q1 q2 q3 q4 q)
def tFor (wi : TI) (g : TG) (tb : TS) : TS := fun D σ H => wi σ H fun J H1 => ∃ W : Nat → Nat → St → Hp → Prop, (∃ m, W 0 m σ H1) ∧ ∀ i m σ H, W i m σ H →
  (J.stop i H ∧ D.nx σ H) ∨ (J.go i H ∧ ∃ N : St → Hp → Prop, (∀ σ' H', N σ' H' → ∃ m', m' < m ∧ W (i + 1) m' σ' H') ∧ ∀ x H', J.yld i H x H' → g x σ H' fun σ2 H2 => tb { D with nx := N, ct := N, bk := D.nx } σ2 H2)
def pinsAt (fp : List Addr) (h : Heap) : List (Addr × Obj) := fp.filterMap fun b => (h.get? b).map fun o => (b, o)
theorem mem_pinsAt {fp : List Addr} {h : Heap} {b : Addr} {o : Obj} (hb : b ∈ fp) (e : h.get? b = some o) : (b, o) ∈ pinsAt fp h := List.mem_filterMap.mpr ⟨b, hb, by rw [e]; rfl⟩
theorem of_pinsAt {fp : List Addr} {h : Heap} {p : Addr × Obj} (hp : p ∈ pinsAt fp h) : p.1 ∈ fp ∧ h.get? p.1 = some p.2 := by
  obtain ⟨b, hb, e⟩ := List.mem_filterMap.mp hp
  cases q : h.get? b with
  | none => rw [q] at e; cases e
  | some o =>
    rw [q] at e
    have e' : (b, o) = p := Option.some.inj e
    subst e'
    exact ⟨hb, q⟩
theorem Inv.pinned {pins : List (Addr × Obj)} {σ : St} {H : Hp} {s : Shared} {fp : List Addr} (I : Inv X pins σ H s) (hf : ∀ b ∈ fp, FpOk X pins H b) (ho : ∀ b ∈ fp, ∃ o, s.heap.get? b = some o ∧ ∀ v, o.data ≠ .cell v) : Inv X (pins ++ pinsAt fp s.heap) σ H s :=
  I.pins_of fun p hp => (List.mem_append.mp hp).elim (fun z => I.pin p (List.mem_append_right _ z)) fun z => by
    obtain ⟨hb, e⟩ := of_pinsAt z
    obtain ⟨f0, f1, f2, _⟩ := hf p.1 hb
    obtain ⟨o, e', d⟩ := ho p.1 hb
    rw [e] at e'; cases e'
    exact ⟨e, f0, f1, f2, d⟩
theorem Inv.unpinned {pins pl : List (Addr × Obj)} {σ : St} {H : Hp} {s : Shared} (I : Inv X (pins ++ pl) σ H s) : Inv X pins σ H s := I.pins_of fun p hp => I.pin p (List.mem_append_right _ (List.mem_append_left _ hp))
theorem ps_for {iter : Expr} {body : List Stmt} {wi : TI} {g : TG} {tb : TS} {pos : Pos} (hp : PassesOwn (model X.prog X.w) X.A X.env X.xe) (hc : X.calm = true) (hi : PI X tg iter wi) (hg : PG X tg g) (hb : PSs X body tb)
    (hs : ∀ x, foldedSetIterable iter X.env x = pure x := by intro _; rfl) : PS X (.For tg iter body [] pos) (tFor wi g tb) := by
  intro pins s σ H D I h
  refine wpAny_For (thn (hi pins s σ H _ I h) fun v s1 h1 => thn h1 fun itv s2 h2 => ?_) hs
  obtain ⟨it, fp, tn, J, H2, e, I2, T, st2, f2, W, ⟨m0, w0⟩, turn⟩ := h2
  subst e
  -- what stays true of the iterator's objects through the loop
  have stat : ∀ {H' : Hp}, (∀ b ∈ fp, H' b = none) → ∀ b ∈ fp, FpOk X pins H' b := fun hn b hb => ⟨hn b hb, (f2 b hb).2⟩
  refine codeAny_forLoop_any (fun n s' => ∃ i σ' H', Inv X pins σ' H' s' ∧ tn i s'.heap ∧ (∀ b ∈ fp, H' b = none) ∧ W i n σ' H') ?_ m0 ⟨0, σ, H2, I2, st2, fun b hb => (f2 b hb).1, w0⟩
  rintro n s3 ⟨i, σ3, H3, I3, st3, fr3, w3⟩
  rcases turn i n σ3 H3 w3 with ⟨stop, qn⟩ | ⟨go, N, hN, step⟩
  · refine wpAny_passesOwn hp (thn (T.done X rfl rfl rfl hc i pins s3 σ3 H3 X.xe I3 (stat fr3) st3 stop) fun r s4 ⟨hr, I4⟩ => ?_)
    subst hr
    exact wpAny_execs_nil ⟨σ3, H3, I4, qn⟩
  · refine wpAny_passesOwn hp (thn (T.item X rfl rfl rfl hc i pins s3 σ3 H3 X.xe I3 (stat fr3) st3 go) fun r s4 ⟨u, hr, h4⟩ => ?_)
    subst hr
    refine wpAny_passesOwn hp (thn h4 fun _ s5 ⟨x, H5, I5, r5, y5, st5, fr5⟩ => ?_)
    have I5' := I5.pinned (stat fr5) (T.obj _ _ st5)
    refine wpAny_passesOwn hp (thn (hg _ s5 σ3 H5 x u _ I5' r5 (step x H5 y5)) fun _ s6 ⟨σ6, H6, I6, q6⟩ => ?_)
    refine wpAny_passesOwn hp (thn (hb _ s6 σ6 H6 _ I6 q6) fun f s7 q7 => ?_)
    have again : ∀ {σ7 : St} {H7 : Hp}, Inv X (pins ++ pinsAt fp s5.heap) σ7 H7 s7 → N σ7 H7 → ∃ m, m < n ∧ ∃ i σ' H', Inv X pins σ' H' s7 ∧ tn i s7.heap ∧ (∀ b ∈ fp, H' b = none) ∧ W i m σ' H' := fun {σ7 H7} I7 n7 => by
      obtain ⟨m', hm, w7⟩ := hN σ7 H7 n7
      refine ⟨m', hm, i + 1, σ7, H7, I7.unpinned, T.keep _ _ _ st5 fun b hb o e => (I7.pin (b, o) (List.mem_append_right _ (List.mem_append_right _ (mem_pinsAt hb e)))).1, fun b hb => ?_, w7⟩
      obtain ⟨o, e, d⟩ := T.obj _ _ st5 b hb
      exact (I7.pin (b, o) (List.mem_append_right _ (List.mem_append_right _ (mem_pinsAt hb e)))).2.1
    cases f with
    | next => obtain ⟨σ7, H7, I7, n7⟩ := q7; exact again I7 n7
    | cont => obtain ⟨σ7, H7, I7, n7⟩ := q7; exact again I7 n7
    | brk => obtain ⟨σ7, H7, I7, q7⟩ := q7; exact ⟨σ7, H7, I7.unpinned, q7⟩
    | ret v => obtain ⟨x7, σ7, H7, I7, r7, q7⟩ := q7; exact ⟨x7, σ7, H7, I7.unpinned, r7, q7⟩
end
theorem for_list {K : PySem.W.Frag} {a : Addr} {xs : List V} {g : TG} {tb : TS} {D : Ends} {σ : St} {H : Hp} (Pv : Nat → St → Hp → Prop) (h0 : Pv 0 σ H) (hl : ∀ i σ H, i ≤ xs.length → Pv i σ H → SqL K H a xs)
    (hs : ∀ i x σ H, xs[i]? = some x → Pv i σ H → g x σ H fun σ2 H2 => tb { D with nx := Pv (i + 1), ct := Pv (i + 1), bk := D.nx } σ2 H2) (hd : ∀ σ H, Pv xs.length σ H → D.nx σ H) :
    ∃ W : Nat → Nat → St → Hp → Prop, (∃ m, W 0 m σ H) ∧ ∀ i m σ H, W i m σ H →
      ((Itl K a).stop i H ∧ D.nx σ H) ∨ ((Itl K a).go i H ∧ ∃ N : St → Hp → Prop, (∀ σ' H', N σ' H' → ∃ m', m' < m ∧ W (i + 1) m' σ' H') ∧ ∀ x H', (Itl K a).yld i H x H' → g x σ H' fun σ2 H2 => tb { D with nx := N, ct := N, bk := D.nx } σ2 H2) := by
  refine ⟨fun i m σ H => m = xs.length - i ∧ i ≤ xs.length ∧ Pv i σ H, ⟨xs.length, by simp, Nat.zero_le _, h0⟩, ?_⟩
  rintro i m σ H ⟨rfl, hi, p⟩
  have q := hl i σ H hi p
  by_cases hlt : i < xs.length
  · refine .inr ⟨⟨xs, xs[i], q, by simp [hlt]⟩, Pv (i + 1), fun σ' H' p' => ⟨xs.length - (i + 1), by omega, rfl, hlt, p'⟩, fun x H' y => ?_⟩
    obtain ⟨e, y⟩ := y
    subst e
    exact hs i x σ _ (y xs q) p
  · have e : i = xs.length := by omega
    subst e
    exact .inl ⟨⟨xs, q, Nat.le_refl _⟩, hd σ H p⟩
theorem for_tup {K : PySem.W.Frag} {a : Addr} {xs : List V} {g : TG} {tb : TS} {D : Ends} {σ : St} {H : Hp} (Pv : Nat → St → Hp → Prop) (h0 : Pv 0 σ H) (hl : ∀ i σ H, i ≤ xs.length → Pv i σ H → SqT K H a xs)
    (hs : ∀ i x σ H, xs[i]? = some x → Pv i σ H → g x σ H fun σ2 H2 => tb { D with nx := Pv (i + 1), ct := Pv (i + 1), bk := D.nx } σ2 H2) (hd : ∀ σ H, Pv xs.length σ H → D.nx σ H) :
    ∃ W : Nat → Nat → St → Hp → Prop, (∃ m, W 0 m σ H) ∧ ∀ i m σ H, W i m σ H →
      ((Itt K a).stop i H ∧ D.nx σ H) ∨ ((Itt K a).go i H ∧ ∃ N : St → Hp → Prop, (∀ σ' H', N σ' H' → ∃ m', m' < m ∧ W (i + 1) m' σ' H') ∧ ∀ x H', (Itt K a).yld i H x H' → g x σ H' fun σ2 H2 => tb { D with nx := N, ct := N, bk := D.nx } σ2 H2) := by
  refine ⟨fun i m σ H => m = xs.length - i ∧ i ≤ xs.length ∧ Pv i σ H, ⟨xs.length, by simp, Nat.zero_le _, h0⟩, ?_⟩
  rintro i m σ H ⟨rfl, hi, p⟩
  have q := hl i σ H hi p
  by_cases hlt : i < xs.length
  · refine .inr ⟨⟨xs, xs[i], q, by simp [hlt]⟩, Pv (i + 1), fun σ' H' p' => ⟨xs.length - (i + 1), by omega, rfl, hlt, p'⟩, fun x H' y => ?_⟩
    obtain ⟨e, y⟩ := y
    subst e
    exact hs i x σ _ (y xs q) p
  · have e : i = xs.length := by omega
    subst e
    exact .inl ⟨⟨xs, q, Nat.le_refl _⟩, hd σ H p⟩
theorem for_range {lo : Int} {n : Nat} {g : TG} {tb : TS} {D : Ends} {σ : St} {H : Hp} (Pv : Nat → St → Hp → Prop) (h0 : Pv 0 σ H)
    (hs : ∀ i σ H, i < n → Pv i σ H → g (.int (lo + i)) σ H fun σ2 H2 => tb { D with nx := Pv (i + 1), ct := Pv (i + 1), bk := D.nx } σ2 H2) (hd : ∀ σ H, Pv n σ H → D.nx σ H) :
    ∃ W : Nat → Nat → St → Hp → Prop, (∃ m, W 0 m σ H) ∧ ∀ i m σ H, W i m σ H →
      ((Itr lo n).stop i H ∧ D.nx σ H) ∨ ((Itr lo n).go i H ∧ ∃ N : St → Hp → Prop, (∀ σ' H', N σ' H' → ∃ m', m' < m ∧ W (i + 1) m' σ' H') ∧ ∀ x H', (Itr lo n).yld i H x H' → g x σ H' fun σ2 H2 => tb { D with nx := N, ct := N, bk := D.nx } σ2 H2) := by
  refine ⟨fun i m σ H => m = n - i ∧ i ≤ n ∧ Pv i σ H, ⟨n, by simp, Nat.zero_le _, h0⟩, ?_⟩
  rintro i m σ H ⟨rfl, hi, p⟩
  by_cases hlt : i < n
  · refine .inr ⟨hlt, Pv (i + 1), fun σ' H' p' => ⟨n - (i + 1), by omega, rfl, hlt, p'⟩, fun x H' y => ?_⟩
    obtain ⟨e, y⟩ := y
    subst e y
    exact hs i σ _ hlt p
  · have e : i = n := by omega
    subst e
    exact .inl ⟨Nat.le_refl _, hd σ H p⟩
theorem while_by {c : TT} {tb : TS} {D : Ends} {σ : St} {H : Hp} (Pv : St → Hp → Prop) (μ : St → Hp → Nat) (h0 : Pv σ H)
    (hs : ∀ σ H, Pv σ H → c σ H fun b H1 => if b = true then tb { D with nx := fun σ' H' => Pv σ' H' ∧ μ σ' H' < μ σ H, ct := fun σ' H' => Pv σ' H' ∧ μ σ' H' < μ σ H, bk := D.nx } σ H1 else D.nx σ H1)
    (mono : ∀ σ H Q Q', (∀ b H1, Q b H1 → Q' b H1) → c σ H Q → c σ H Q') : tWhile c tb D σ H := by
  refine ⟨fun m σ H => m = μ σ H ∧ Pv σ H, ⟨_, rfl, h0⟩, ?_⟩
  rintro m σ H ⟨rfl, p⟩
  refine mono σ H _ _ (fun b H1 q => ?_) (hs σ H p)
  cases b with
  | true => exact ⟨_, fun σ' H' ⟨p', l⟩ => ⟨_, l, rfl, p'⟩, q⟩
  | false => exact q
end L2
namespace L2
open PySem PySem.Spec PyProof.Rows
abbrev R2 := V → V → Hp → VK → Prop
def OpR (X : Cx) (f : Value → Value → Sem Value) (r : R2) : Prop :=
  ∀ (pins : List (Addr × Obj)) (s : Shared) (σ : St) (H : Hp) (x y : V) (v u : Value) (Q : VK), Inv X pins σ H s → RelV x v → RelV y u → r x y H Q →
    wpAny (model X.prog X.w) X.A (f v u) (EP X pins σ Q) X.xe s
def UnR (X : Cx) (f : Value → Sem Value) (r : V → Hp → VK → Prop) : Prop :=
  ∀ (pins : List (Addr × Obj)) (s : Shared) (σ : St) (H : Hp) (x : V) (v : Value) (Q : VK), Inv X pins σ H s → RelV x v → r x H Q →
    wpAny (model X.prog X.w) X.A (f v) (EP X pins σ Q) X.xe s
def CallR (X : Cx) (f : Value) (r : List V → Hp → VK → Prop) : Prop :=
  ∀ (pins : List (Addr × Obj)) (s : Shared) (σ : St) (H : Hp) (xs : List V) (us : List Value) (Q : VK), Inv X pins σ H s → Vals xs us → r xs H Q →
    wpAny (model X.prog X.w) X.A (call f us) (EP X pins σ Q) X.xe s
def TruR (X : Cx) (r : V → Hp → (Bool → Hp → Prop) → Prop) : Prop :=
  ∀ (pins : List (Addr × Obj)) (s : Shared) (σ : St) (H : Hp) (x : V) (v : Value) (Q : Bool → Hp → Prop), Inv X pins σ H s → RelV x v → r x H Q →
    wpAny (model X.prog X.w) X.A (truthy v) (TP X pins σ Q) X.xe s
def tOp (r : R2) (ta tb : TE) : TE := fun σ H Q => ta σ H fun x H1 => tb σ H1 fun y H2 => r x y H2 Q
def tUn (r : V → Hp → VK → Prop) (ta : TE) : TE := fun σ H Q => ta σ H fun x H1 => r x H1 Q
def rI (C : Int → Int → Prop) (g : Int → Int → V) : R2 := fun x y H Q => ∃ i j, x = .int i ∧ y = .int j ∧ C i j ∧ Q (g i j) H
def rI0 (g : Int → Int → V) : R2 := fun x y H Q => ∃ i j, x = .int i ∧ y = .int j ∧ Q (g i j) H
def rU (g : Int → V) : V → Hp → VK → Prop := fun x H Q => ∃ i, x = .int i ∧ Q (g i) H
section
variable {X : Cx} {a b c : Expr} {ta tb tc : TE} {pos : Pos}
theorem binT (ha : PE X a ta) (hb : PE X b tb) {pins : List (Addr × Obj)} {s : Shared} {σ : St} {H : Hp} {R : V → V → Hp → Prop} (I : Inv X pins σ H s)
    (h : ta σ H fun x H1 => tb σ H1 fun y H2 => R x y H2) {Q : Value → Shared → Prop} {f : Value → Value → Sem Value}
    (hf : ∀ v u s2 x y H2, Inv X pins σ H2 s2 → RelV x v → RelV y u → R x y H2 → wpAny (model X.prog X.w) X.A (f v u) Q X.xe s2) :
    wpAny (model X.prog X.w) X.A (eval a X.env) (fun v s₁ => wpAny (model X.prog X.w) X.A (eval b X.env) (fun u s₂ => wpAny (model X.prog X.w) X.A (f v u) Q X.xe s₂) X.xe s₁) X.xe s := by
  refine thn (ha pins s σ H _ I h) fun v s1 ⟨x, H1, I1, r1, q1⟩ => ?_
  refine thn (hb pins s1 σ H1 _ I1 q1) fun u s2 ⟨y, H2, I2, r2, q2⟩ => ?_
  exact hf v u s2 x y H2 I2 r1 r2 q2
theorem pe_op {op : Operator} {r : R2} (ho : OpR X (binaryOp op) r) (ha : PE X a ta) (hb : PE X b tb) : PE X (.BinOp a op b pos) (tOp r ta tb) := by
  intro pins s σ H Q I h
  exact wpAny_BinOp (binT ha hb I h fun v u s2 x y H2 I2 rx ry q => ho pins s2 σ H2 x y v u Q I2 rx ry q)
theorem pe_un {op : UnaryOp} {r : V → Hp → VK → Prop} (ho : UnR X (unaryOp op) r) (ha : PE X a ta) : PE X (.UnaryOp op a pos) (tUn r ta) := by
  intro pins s σ H Q I h
  exact UnaryOp_ (thn (ha pins s σ H _ I h) fun v s1 ⟨x, H1, I1, r1, q1⟩ => ho pins s1 σ H1 x v Q I1 r1 q1)
theorem opI {f : Value → Value → Sem Value} {C : Int → Int → Prop} {g : Int → Int → Int}
    (rule : ∀ (i j : Int) (t u : Tok) (s : Shared) (Q : Value → Shared → Prop) (E : Value → Shared → Prop), C i j → Q (.int (g i j) s.toks) { s with toks := s.toks + 1 } → wpAny (model X.prog X.w) X.A (f (.int i t) (.int j u)) Q E s) :
    OpR X f (rI C fun i j => .int (g i j)) := by
  intro pins s σ H x y v u Q I rx ry h
  obtain ⟨i, j, rfl, rfl, hc, q⟩ := h
  obtain ⟨t, rfl⟩ := rx
  obtain ⟨t', rfl⟩ := ry
  exact rule i j t t' s _ _ hc ⟨.int (g i j), H, I.tok _, ⟨_, rfl⟩, q⟩
theorem opI0 {f : Value → Value → Sem Value} {g : Int → Int → Int}
    (rule : ∀ (i j : Int) (t u : Tok) (s : Shared) (Q : Value → Shared → Prop) (E : Value → Shared → Prop), Q (.int (g i j) s.toks) { s with toks := s.toks + 1 } → wpAny (model X.prog X.w) X.A (f (.int i t) (.int j u)) Q E s) :
    OpR X f (rI0 fun i j => .int (g i j)) := by
  intro pins s σ H x y v u Q I rx ry h
  obtain ⟨i, j, rfl, rfl, q⟩ := h
  obtain ⟨t, rfl⟩ := rx
  obtain ⟨t', rfl⟩ := ry
  exact rule i j t t' s _ _ ⟨.int (g i j), H, I.tok _, ⟨_, rfl⟩, q⟩
theorem opB0 {f : Value → Value → Sem Value} {g : Int → Int → Bool}
    (rule : ∀ (i j : Int) (t u : Tok) (s : Shared) (Q : Value → Shared → Prop) (E : Value → Shared → Prop), Q (.bool (g i j)) s → wpAny (model X.prog X.w) X.A (f (.int i t) (.int j u)) Q E s) :
    OpR X f (rI0 fun i j => .bl (g i j)) := by
  intro pins s σ H x y v u Q I rx ry h
  obtain ⟨i, j, rfl, rfl, q⟩ := h
  obtain ⟨t, rfl⟩ := rx
  obtain ⟨t', rfl⟩ := ry
  exact rule i j t t' s _ _ ⟨.bl (g i j), H, I, rfl, q⟩
def CDiv (i j : Int) : Prop := 0 < j ∧ j < 1073741824
def CDivN (i j : Int) : Prop := j ≠ 0 ∧ j.natAbs < 1073741824
def CPow (i j : Int) : Prop := 0 ≤ j ∧ j ≤ 1000000 ∧ i.natAbs < 2 ^ 64
def CMul (i j : Int) : Prop := (-(2 ^ 64) < i ∧ i < 2 ^ 64) ∨ (-(2 ^ 64) < j ∧ j < 2 ^ 64)
theorem CMul.ok {i j : Int} (h : CMul i j) : IntMulOk i j := by
  rcases h with ⟨h1, h2⟩ | ⟨h1, h2⟩
  · exact .of_left (intBits_le_64 h1 h2)
  · exact .of_right (intBits_le_64 h1 h2)
theorem two_pow_nn (k : Nat) : (0 : Int) ≤ 2 ^ k := by
  rw [two_pow_cast]
  exact Int.natCast_nonneg _
theorem op_add : OpR X (binaryOp .Add) (rI0 fun i j => .int (i + j)) := opI0 fun _ _ _ _ _ _ _ q => add_int q
theorem op_sub : OpR X (binaryOp .Sub) (rI0 fun i j => .int (i - j)) := opI0 fun _ _ _ _ _ _ _ q => sub_int q
theorem op_mul : OpR X (binaryOp .Mult) (rI CMul fun i j => .int (i * j)) := opI fun _ _ _ _ _ _ _ hc q => mul_int q hc.ok
theorem op_fdiv : OpR X (binaryOp .FloorDiv) (rI CDiv fun i j => .int (i / j)) := opI fun i j _ _ _ _ _ hc q => by
  have h1 : (0 : Int) < j := hc.1
  have h2 : j < 1073741824 := hc.2
  exact floordiv_int (by omega) (by rw [Int.fdiv_eq_ediv_of_nonneg i (by omega)]; exact q) (.inl (PyProof.noPylong_small (by omega)))
theorem op_mod : OpR X (binaryOp .Mod) (rI (fun _ j => 0 < j) fun i j => .int (i % j)) := opI fun i j _ _ _ _ _ hc q => by
  have h1 : (0 : Int) < j := hc
  exact mod_int' (by omega) (by rw [Int.fmod_eq_emod_of_nonneg i (by omega)]; exact q)
theorem op_shr : OpR X (binaryOp .RShift) (rI (fun _ j => 0 ≤ j) fun i j => .int (i / 2 ^ j.toNat)) := opI fun i j _ _ _ _ _ hc q =>
  rshift_int hc (by rw [Int.fdiv_eq_ediv_of_nonneg i (two_pow_nn _)]; exact q)
theorem op_and : OpR X (binaryOp .BitAnd) (rI0 fun i j => .int (Builtin.bitAnd i j)) := opI0 fun _ _ _ _ _ _ _ q => and_int q
theorem iop_mul : OpR X (inplaceOp .Mult) (rI CMul fun i j => .int (i * j)) := opI fun _ _ _ _ _ _ _ hc q => imul_int q hc.ok
theorem unI {f : Value → Sem Value} {g : Int → Int}
    (rule : ∀ (i : Int) (t : Tok) (s : Shared) (Q : Value → Shared → Prop) (E : Value → Shared → Prop), Q (.int (g i) s.toks) { s with toks := s.toks + 1 } → wpAny (model X.prog X.w) X.A (f (.int i t)) Q E s) :
    UnR X f (rU fun i => .int (g i)) := by
  intro pins s σ H x v Q I rx h
  obtain ⟨i, rfl, q⟩ := h
  obtain ⟨t, rfl⟩ := rx
  exact rule i t s _ _ ⟨.int (g i), H, I.tok _, ⟨_, rfl⟩, q⟩
theorem un_neg : UnR X (unaryOp .USub) (rU fun i => .int (-i)) := unI fun _ _ _ _ _ q => neg_int q
end
def scal : V → V → Bool
  | .non, .non => true | .non, .int _ => true | .int _, .non => true | .non, .bl _ => true | .bl _, .non => true | .non, .str _ => true | .str _, .non => true
  | .int _, .int _ => true | .bl _, .bl _ => true | .str _, .str _ => true | .byt _, .byt _ => true
  | .int _, .str _ => true | .str _, .int _ => true | .bl _, .str _ => true | .str _, .bl _ => true
  | _, _ => false
def rEq : R2 := fun x y H Q => scal x y = true ∧ Q (.bl (decide (x = y))) H
def rNe : R2 := fun x y H Q => scal x y = true ∧ Q (.bl (!decide (x = y))) H
theorem dec_int {i j : Int} : decide (V.int i = V.int j) = (i == j) := by
  rw [Bool.eq_iff_iff]
  simp
theorem dec_bl {i j : Bool} : decide (V.bl i = V.bl j) = (i == j) := by
  rw [Bool.eq_iff_iff]
  simp
theorem dec_str {i j : Str} : decide (V.str i = V.str j) = (i == j) := by
  rw [Bool.eq_iff_iff]
  simp
theorem dec_byt {i j : Array UInt8} : decide (V.byt i = V.byt j) = (i.toList == j.toList) := by
  rw [Bool.eq_iff_iff]
  cases i
  cases j
  simp
section
variable {X : Cx} {a b c : Expr} {ta tb tc : TE} {pos : Pos}
theorem fin_bl {pins : List (Addr × Obj)} {σ : St} {H : Hp} {s : Shared} {Q : VK} {k k' : Bool} (I : Inv X pins σ H s) (q : Q (.bl k) H) (e : k = k') : EP X pins σ Q (.bool k') s := by
  subst e
  exact ⟨.bl k, H, I, rfl, q⟩
theorem op_eq : OpR X (compareOp .Eq) rEq := by
  intro pins s σ H x y v u Q I rx ry h
  obtain ⟨hs, q⟩ := h
  cases x with
  | non =>
    cases rx
    cases y with
    | non => cases ry; exact PySem.EqNone.eq_none_none (fin_bl I q (by simp))
    | bl j => cases ry; exact PySem.EqNone.eq_none_bool (fin_bl I q (by simp))
    | int j => obtain ⟨t', rfl⟩ := ry; exact PySem.EqNone.eq_none_int (fin_bl I q (by simp))
    | str j => obtain ⟨t', rfl⟩ := ry; exact PySem.EqNone.eq_none_str (fin_bl I q (by simp))
    | _ => exact absurd (show false = true from hs) Bool.false_ne_true
  | bl i =>
    cases rx
    cases y with
    | non => cases ry; exact PySem.EqNone.eq_bool_none (fin_bl I q (by simp))
    | bl j => cases ry; exact eq_bool (fin_bl I q dec_bl)
    | str j => obtain ⟨t', rfl⟩ := ry; exact PySem.EqMixed.eq_bool_str (fin_bl I q (by simp))
    | _ => exact absurd (show false = true from hs) Bool.false_ne_true
  | int i =>
    obtain ⟨t, rfl⟩ := rx
    cases y with
    | non => cases ry; exact PySem.EqNone.eq_int_none (fin_bl I q (by simp))
    | int j => obtain ⟨t', rfl⟩ := ry; exact eq_int (fin_bl I q dec_int)
    | str j => obtain ⟨t', rfl⟩ := ry; exact PySem.EqMixed.eq_int_str (fin_bl I q (by simp))
    | _ => exact absurd (show false = true from hs) Bool.false_ne_true
  | str i =>
    obtain ⟨t, rfl⟩ := rx
    cases y with
    | non => cases ry; exact PySem.EqNone.eq_str_none (fin_bl I q (by simp))
    | bl j => cases ry; exact PySem.EqMixed.eq_str_bool (fin_bl I q (by simp))
    | int j => obtain ⟨t', rfl⟩ := ry; exact PySem.EqMixed.eq_str_int (fin_bl I q (by simp))
    | str j => obtain ⟨t', rfl⟩ := ry; exact eq_str (fin_bl I q dec_str)
    | _ => exact absurd (show false = true from hs) Bool.false_ne_true
  | byt i =>
    obtain ⟨t, rfl⟩ := rx
    cases y with
    | byt j => obtain ⟨t', rfl⟩ := ry; exact PySem.W.eq_bytes (fin_bl I q dec_byt)
    | _ => exact absurd (show false = true from hs) Bool.false_ne_true
  | _ => cases y <;> exact absurd (show false = true from hs) Bool.false_ne_true
theorem op_ne : OpR X (compareOp .NotEq) rNe := by
  intro pins s σ H x y v u Q I rx ry h
  obtain ⟨hs, q⟩ := h
  cases x with
  | non =>
    cases rx
    cases y with
    | non => cases ry; exact PySem.EqNone.ne_none_none (fin_bl I q (by simp))
    | bl j => cases ry; exact PySem.EqNone.ne_none_bool (fin_bl I q (by simp))
    | int j => obtain ⟨t', rfl⟩ := ry; exact PySem.EqNone.ne_none_int (fin_bl I q (by simp))
    | str j => obtain ⟨t', rfl⟩ := ry; exact PySem.EqNone.ne_none_str (fin_bl I q (by simp))
    | _ => exact absurd (show false = true from hs) Bool.false_ne_true
  | bl i =>
    cases rx
    cases y with
    | non => cases ry; exact PySem.EqNone.ne_bool_none (fin_bl I q (by simp))
    | bl j => cases ry; exact ne_bool (fin_bl I q (congrArg not dec_bl))
    | str j => obtain ⟨t', rfl⟩ := ry; exact PySem.EqMixed.ne_bool_str (fin_bl I q (by simp))
    | _ => exact absurd (show false = true from hs) Bool.false_ne_true
  | int i =>
    obtain ⟨t, rfl⟩ := rx
    cases y with
    | non => cases ry; exact PySem.EqNone.ne_int_none (fin_bl I q (by simp))
    | int j => obtain ⟨t', rfl⟩ := ry; exact ne_int (fin_bl I q (congrArg not dec_int))
    | str j => obtain ⟨t', rfl⟩ := ry; exact PySem.EqMixed.ne_int_str (fin_bl I q (by simp))
    | _ => exact absurd (show false = true from hs) Bool.false_ne_true
  | str i =>
    obtain ⟨t, rfl⟩ := rx
    cases y with
    | non => cases ry; exact PySem.EqNone.ne_str_none (fin_bl I q (by simp))
    | bl j => cases ry; exact PySem.EqMixed.ne_str_bool (fin_bl I q (by simp))
    | int j => obtain ⟨t', rfl⟩ := ry; exact PySem.EqMixed.ne_str_int (fin_bl I q (by simp))
    | str j => obtain ⟨t', rfl⟩ := ry; exact ne_str (fin_bl I q (congrArg not dec_str))
    | _ => exact absurd (show false = true from hs) Bool.false_ne_true
  | byt i =>
    obtain ⟨t, rfl⟩ := rx
    cases y with
    | byt j => obtain ⟨t', rfl⟩ := ry; exact PySem.W.ne_bytes (fin_bl I q (congrArg not dec_byt))
    | _ => exact absurd (show false = true from hs) Bool.false_ne_true
  | _ => cases y <;> exact absurd (show false = true from hs) Bool.false_ne_true
theorem op_lt : OpR X (compareOp .Lt) (rI0 fun i j => .bl (decide (i < j))) := opB0 fun _ _ _ _ _ _ _ q => lt_int q
theorem op_le : OpR X (compareOp .LtE) (rI0 fun i j => .bl (decide (i ≤ j))) := opB0 fun _ _ _ _ _ _ _ q => le_int q
theorem op_gt : OpR X (compareOp .Gt) (rI0 fun i j => .bl (decide (j < i))) := opB0 fun _ _ _ _ _ _ _ q => gt_int q
theorem op_ge : OpR X (compareOp .GtE) (rI0 fun i j => .bl (decide (j ≤ i))) := opB0 fun _ _ _ _ _ _ _ q => ge_int q
theorem op_isN : OpR X (compareOp .Is) (fun x y H Q => y = .non ∧ Q (.bl (decide (x = .non))) H) := by
  intro pins s σ H x y v u Q I rx ry h
  obtain ⟨rfl, q⟩ := h
  cases ry
  refine is_none_gen (fin_bl I q ?_)
  cases x <;> first
    | (cases rx; rfl)
    | (obtain ⟨t, rfl⟩ := rx; rfl)
theorem op_notN : OpR X (compareOp .IsNot) (fun x y H Q => y = .non ∧ Q (.bl (!decide (x = .non))) H) := by
  intro pins s σ H x y v u Q I rx ry h
  obtain ⟨rfl, q⟩ := h
  cases ry
  refine isnot_none_gen (fin_bl I q ?_)
  cases x <;> first
    | (cases rx; rfl)
    | (obtain ⟨t, rfl⟩ := rx; rfl)
def isObj : HO → Bool
  | .lst _ => true
  | .ins _ _ _ => true
  | _ => false
theorem nomark (b : Expr) {op : CmpOp} (h : op ≠ .In := by decide) (h2 : op ≠ .NotIn := by decide) : behindInMarks op b = false := by
  have e1 : (op == CmpOp.In) = false := by cases op <;> first | rfl | exact absurd rfl h
  have e2 : (op == CmpOp.NotIn) = false := by cases op <;> first | rfl | exact absurd rfl h2
  cases b <;> simp [behindInMarks, e1, e2]
theorem pe_cmpR {op : CmpOp} {r : R2} (ho : OpR X (compareOp op) r) (ha : PE X a ta) (hb : PE X b tb) (hm : behindInMarks op b = false) : PE X (.Compare a [op] [b] pos) (tOp r ta tb) := by
  intro pins s σ H Q I h
  exact wpAny_Compare1 (binT ha hb I h fun v u s2 x y H2 I2 rx ry q => ho pins s2 σ H2 x y v u Q I2 rx ry q) hm
def tTest (t : TE) : TT := fun σ H Q => t σ H fun x H' => ∃ k, x = .bl k ∧ Q k H'
theorem pt_cmpR {op : CmpOp} {r : R2} (ho : OpR X (compareOp op) r) (ha : PE X a ta) (hb : PE X b tb) (hm : behindInMarks op b = false) : PT X (.Compare a [op] [b] pos) (tTest (tOp r ta tb)) := by
  intro pins s σ H Q I h
  refine wpAny_isTrue_Compare1 (thn (ha pins s σ H _ I h) fun v s1 ⟨x, H1, I1, r1, q1⟩ => thn (hb pins s1 σ H1 _ I1 q1) fun u s2 ⟨y, H2, I2, r2, q2⟩ =>
    thn (ho pins s2 σ H2 x y v u _ I2 r1 r2 q2) fun c s3 ⟨z, H3, I3, r3, k, e, q3⟩ => ?_) hm
  subst e
  cases r3
  exact wpAny_truthy_bool ⟨H3, I3, q3⟩
def tChain (r r' : R2) (ta tb tc : TE) : TE := fun σ H Q => ta σ H fun x H1 => tb σ H1 fun y H2 => r x y H2 fun z H3 => ∃ k, z = .bl k ∧
  (if k = true then tc σ H3 fun w' H4 => r' y w' H4 Q else Q (.bl false) H3)
theorem pe_chain {op op' : CmpOp} {r r' : R2} (ho : OpR X (compareOp op) r) (ho' : OpR X (compareOp op') r') (ha : PE X a ta) (hb : PE X b tb) (hc : PE X c tc)
    (hm : lastMarks [op, op'] [b, c] = false := by with_unfolding_all rfl) : PE X (.Compare a [op, op'] [b, c] pos) (tChain r r' ta tb tc) := by
  intro pins s σ H Q I h
  refine Compare_chain (thn (ha pins s σ H _ I h) fun v s1 ⟨x, H1, I1, r1, q1⟩ => chain_link (thn (hb pins s1 σ H1 _ I1 q1) fun u s2 ⟨y, H2, I2, r2, q2⟩ =>
    thn (ho pins s2 σ H2 x y v u _ I2 r1 r2 q2) fun d s3 ⟨z, H3, I3, r3, k, e, q3⟩ => ?_)) hm
  subst e
  cases r3
  refine wpAny_truthy_bool ?_
  cases k with
  | false => exact ite_ff ⟨.bl false, H3, I3, rfl, q3⟩
  | true => exact ite_tt (chain_last (thn (hc pins s3 σ H3 _ I3 q3) fun w' s4 ⟨z', H4, I4, r4, q4⟩ => ho' pins s4 σ H4 y z' u w' Q I4 r2 r4 q4))
theorem pt_chain {op op' : CmpOp} {r r' : R2} (ho : OpR X (compareOp op) r) (ho' : OpR X (compareOp op') r') (ha : PE X a ta) (hb : PE X b tb) (hc : PE X c tc)
    (hm : lastMarks [op, op'] [b, c] = false := by with_unfolding_all rfl) : PT X (.Compare a [op, op'] [b, c] pos) (tTest (tChain r r' ta tb tc)) := by
  intro pins s σ H Q I h
  refine isTrue_chain (thn (ha pins s σ H _ I h) fun v s1 ⟨x, H1, I1, r1, q1⟩ => test_link (thn (hb pins s1 σ H1 _ I1 q1) fun u s2 ⟨y, H2, I2, r2, q2⟩ =>
    thn (ho pins s2 σ H2 x y v u _ I2 r1 r2 q2) fun d s3 ⟨z, H3, I3, r3, k, e, q3⟩ => ?_)) hm
  subst e
  cases r3
  refine wpAny_truthy_bool ?_
  cases k with
  | false =>
    obtain ⟨k', e', q'⟩ := q3
    cases e'
    exact ite_ff ⟨H3, I3, q'⟩
  | true =>
    refine ite_tt (test_last (thn (hc pins s3 σ H3 _ I3 q3) fun w' s4 ⟨z', H4, I4, r4, q4⟩ => thn (ho' pins s4 σ H4 y z' u w' _ I4 r2 r4 q4) fun d' s5 ⟨z2, H5, I5, r5, k2, e2, q5⟩ => ?_))
    subst e2
    cases r5
    exact wpAny_truthy_bool ⟨H5, I5, q5⟩
def TruV (K : PySem.W.Frag) (x : V) (H : Hp) (k : Bool) : Prop :=
  match x with
  | .non => k = false
  | .bl b => k = b
  | .int i => k = (i != 0)
  | .str y => y.length ≤ sizeLine ∧ k = ((y.length : Int) != 0)
  | .byt y => y.size ≤ sizeLine ∧ k = ((y.size : Int) != 0)
  | .ref p => (∃ xs, SqL K H p xs ∧ k = !xs.isEmpty) ∨ (∃ xs, SqT K H p xs ∧ k = !xs.isEmpty) ∨ ∃ kvs, H p = some (.dK kvs) ∧ k = !kvs.isEmpty
  | _ => False
theorem line63 : (sizeLine : Nat) < 2 ^ 63 := by rw [sizeLine_eq]; decide
theorem op_add_str : OpR X (binaryOp .Add) (fun x y H Q => ∃ i j, x = .str i ∧ y = .str j ∧ i.length + j.length ≤ sizeLine ∧ Q (.str (i ++ j)) H) := by
  intro pins s σ H x y v u Q I rx ry h
  obtain ⟨i, j, rfl, rfl, hz, q⟩ := h
  obtain ⟨t, rfl⟩ := rx
  obtain ⟨t', rfl⟩ := ry
  exact add_str (fun t' tk => ⟨.str (i ++ j), H, I.tok _, ⟨_, rfl⟩, q⟩) hz
def PlainIxT (b : Expr) : Prop := ∀ o i, subscripted b false o i = operate [o, i] (getItem o i)
theorem vals1 {x : V} {us : List Value} (r : Vals [x] us) : ∃ u, us = [u] ∧ RelV x u := by
  cases r with
  | cons r1 r2 => cases r2; exact ⟨_, rfl, r1⟩
theorem call_ord : CallR X (.builtin "ord") (fun xs H Q => ∃ x, xs = [.str x] ∧ x.length = 1 ∧ Q (.int (x.cps.getD 0 0 : Nat)) H) := by
  intro pins s σ H xs us Q I r h
  obtain ⟨x, rfl, hz, q⟩ := h
  obtain ⟨u, rfl, t, rfl⟩ := vals1 r
  exact ord_of_one hz ⟨.int _, H, I.tok _, ⟨_, rfl⟩, q⟩
def LenV (K : PySem.W.Frag) (x : V) (H : Hp) (n : Nat) : Prop :=
  match x with
  | .str y => y.length ≤ sizeLine ∧ n = y.length
  | .byt y => y.size ≤ sizeLine ∧ n = y.size
  | .ref p => (∃ xs, SqL K H p xs ∧ n = xs.length) ∨ ∃ xs, SqT K H p xs ∧ n = xs.length
  | _ => False
end
end L2
namespace L2
open PySem PySem.Spec PyProof.Rows
structure ObjM (h : Heap) (x dx C : Addr) (mA : Str → Option Value) : Prop where
  obj : h.get? x = some (PySem.W.instObj C dx)
  ns : h.Ns1 dx mA
  ne : dx ≠ x
theorem lookIn_ns {h : Heap} {dx : Addr} {mA : Str → Option Value} (n : h.Ns1 dx mA) : ∃ od, h.get? dx = some od ∧ ∀ name, PySem.W.lookIn name od = some (mA name) := by
  obtain ⟨o, es, ep, ho, hd, hk, _, hm⟩ := n
  refine ⟨o, ho, fun name => ?_⟩
  have e := hm name
  unfold nsFind findBy at e
  rw [← Array.find?_toList] at e
  unfold PySem.W.lookIn
  rw [hd]
  dsimp only
  split
  · rename_i y q
    rw [q] at e
    exact congrArg some e
  · rename_i q
    rw [q] at e
    have a : es.toList.any (·.refKey) = false := by
      rw [List.any_eq_false]
      intro y hy
      obtain ⟨z, t, hkey⟩ := hk y (Array.mem_toList_iff.mp hy)
      simp [DictEntry.refKey, hkey]
    have a' : ¬ es.toList.any (·.refKey) = true := by rw [a]; exact Bool.false_ne_true
    rw [if_neg a']
    exact congrArg some e
theorem ObjM.look {h : Heap} {x dx C : Addr} {mA : Str → Option Value} (I : ObjM h x dx C mA) : ∃ od, PySem.W.InstAt h x (PySem.W.instObj C dx) C (some od) ∧ ∀ name, PySem.W.lookIn name od = some (mA name) :=
  let ⟨od, ho, hl⟩ := lookIn_ns I.ns
  ⟨od, ⟨I.obj, rfl, rfl, ho⟩, hl⟩
section
variable {prog : Program} {w : World} {A : Around} {E : Value → Shared → Prop} {s : Shared} {K : PySem.W.Frag} {x dx C f : Addr} {mA : Str → Option Value} {name : Str} {v : Value}
theorem get_map {expr : Bool} {Q : Value → Shared → Prop} (X : K.In s.heap) (I : ObjM s.heap x dx C mA) (hg : PySem.W.plainGet K C name = true) (hh : PySem.W.hasDictIn K C = true)
    (ha : PySem.W.findIn K (.ref C) name = some none) (hv : mA name = some v) (hv' : PySem.W.handedIn v = true) (h : Q v { s with toks := s.toks + 1 }) :
    wpAny (model prog w) A (getAttr (.ref x) name expr) Q E s := by
  obtain ⟨od, J, hl⟩ := I.look
  exact PySem.W.get_value X J (PySem.W.plainGet_of hg).1 (PySem.W.findObj_own hh ha rfl (by rw [hl, hv])) hv' h
theorem set_map {ns : List Str} {Q : Unit → Shared → Prop} (X : K.In s.heap) (I : ObjM s.heap x dx C mA)
    (hs : PySem.W.findIn K (.ref C) "__setattr__" = some (some (.builtin "object.__setattr__"))) (hp : PySem.W.plainOver K C = true) (ht : PySem.W.takerIn K C name = some none) (hh : PySem.W.hasDictIn K C = true)
    (hw : PySem.Within mA ns) (hsz : ns.length ≤ sizeLine)
    (h : ∀ h', ObjM h' x dx C (fun y => if y = name then some v else mA y) → Heap.SameBut dx s.heap h' → Q () { s with heap := h', toks := s.toks + 2 }) :
    wpAny (model prog w) A (setAttr (.ref x) name v) Q E s := by
  obtain ⟨od, J, hl⟩ := I.look
  refine PySem.W.set_plain X J hs (PySem.W.osa_open (s := { s with toks := s.toks + 1 }) (r := none) X J hp ht fun b => ?_)
  obtain ⟨cd, hc, hd'⟩ := PySem.W.any_some hh
  have hx : s.heap.get? x = some ⟨.ref C, some dx, .plain, #[]⟩ := I.obj
  refine wpAny_bind (wpAny_pure (wpAny_bind (wpAny_bind (wpAny_loadPart hx (wpAny_bind (PySem.W.Looks.here (s := { s with toks := s.toks + 1 }) (PySem.W.looks_clsIn X hc) ?_))))))
  rw [hd']
  refine wpAny_pure (a := some dx) (wpAny_bind (wpAny_pure (wpAny_bind ?_)))
  refine wpAny_nsSet1 (s := { s with toks := s.toks + 1 }) I.ns fun h' hn2 hs2 => ?_
  obtain ⟨oD, esD, epD, hoD, hdD, hcD⟩ := hn2.count (PySem.Within.cons name v hw)
  refine wpAny_bind (wpAny_lookBehind hoD (by rw [hdD]; exact pastItsLine_dict (Nat.le_trans hcD (by rw [List.length_cons]; omega))) ?_)
  exact wpAny_pure (h _ ⟨(hs2.2 _ (Ne.symm I.ne)).trans I.obj, hn2, I.ne⟩ hs2)
theorem make_map {R : Result → Shared → Prop} {vs : List Value} {kw : List (Str × Value)} (X : K.In s.heap) (hm : PySem.W.makesIn K C = true)
    (hi : PySem.W.findIn K (.ref C) "__init__" = some (some (.ref f))) (hf : PySem.W.typeIn K (.ref f) = some (.type "function"))
    (h : codeAny (model prog w) (A.under (.builtin "type.__call__" ⟨.ref C :: vs, kw⟩)) (.call (.ref f) ⟨.ref (s.heap.objs.size + 1) :: vs, kw⟩) (PySem.W.InitBack (s.heap.objs.size + 1) R)
      { s with heap := (s.heap.push PySem.W.emptyDict).push (PySem.W.instObj C s.heap.objs.size) }) :
    codeAny (model prog w) A (.call (.ref C) ⟨vs, kw⟩) R s := by
  obtain ⟨hh, g, d, t, os⟩ := s
  exact PySem.W.make_core (PySem.W.makes_of X hm) (PySem.W.looks_findIn X hi) (fun self => PySem.W.bind_fn X self hf) (.inl rfl) h
end
def putF (f : Str) (v : V) : List (Str × V) → List (Str × V)
  | [] => [(f, v)]
  | (g, x) :: r => if g = f then (g, v) :: r else (g, x) :: putF f v r
theorem lookup_putF (f g : Str) (v : V) : ∀ fs : List (Str × V), (putF f v fs).lookup g = if g = f then some v else fs.lookup g
  | [] => by
    show List.lookup g [(f, v)] = _
    by_cases h : g = f
    · have hb : (g == f) = true := beq_iff_eq.mpr h
      simp only [List.lookup, hb, if_pos h]
    · have hb : (g == f) = false := beq_eq_false_iff_ne.mpr h
      simp only [List.lookup, hb, if_neg h]
  | (k, x) :: r => by
    have ih := lookup_putF f g v r
    rw [show putF f v ((k, x) :: r) = (if k = f then (k, v) :: r else (k, x) :: putF f v r) from rfl]
    by_cases hk : k = f
    · rw [if_pos hk]
      by_cases h : g = k
      · have hb : (g == k) = true := beq_iff_eq.mpr h
        simp only [List.lookup, hb, if_pos (h.trans hk)]
      · have hb : (g == k) = false := beq_eq_false_iff_ne.mpr h
        simp only [List.lookup, hb, if_neg (fun e : g = f => h (e.trans hk.symm))]
    · rw [if_neg hk]
      by_cases h : g = k
      · have hb : (g == k) = true := beq_iff_eq.mpr h
        simp only [List.lookup, hb, if_neg (fun e : g = f => hk (h.symm.trans e))]
      · have hb : (g == k) = false := beq_eq_false_iff_ne.mpr h
        simp only [List.lookup, hb]
        exact ih
theorem keys_putF (f : Str) (v : V) : ∀ fs : List (Str × V), f ∈ (putF f v fs).map (·.1) ∧ ∀ g, g ∈ fs.map (·.1) → g ∈ (putF f v fs).map (·.1)
  | [] => ⟨by simp [putF], fun g h => by simp at h⟩
  | (k, x) :: r => by
    obtain ⟨i1, i2⟩ := keys_putF f v r
    rw [show putF f v ((k, x) :: r) = (if k = f then (k, v) :: r else (k, x) :: putF f v r) from rfl]
    by_cases hk : k = f
    · rw [if_pos hk]
      subst hk
      exact ⟨by simp, fun g h => by simpa using h⟩
    · rw [if_neg hk]
      refine ⟨?_, fun g h => ?_⟩
      · rw [List.map_cons]
        exact List.mem_cons_of_mem _ i1
      · rw [List.map_cons] at h ⊢
        rcases List.mem_cons.mp h with e | e
        · exact List.mem_cons.mpr (.inl e)
        · exact List.mem_cons_of_mem _ (i2 g e)
theorem length_putF (f : Str) (v : V) : ∀ fs : List (Str × V), (putF f v fs).length ≤ fs.length + 1
  | [] => by simp [putF]
  | (k, x) :: r => by
    have ih := length_putF f v r
    rw [show putF f v ((k, x) :: r) = (if k = f then (k, v) :: r else (k, x) :: putF f v r) from rfl]
    by_cases hk : k = f
    · rw [if_pos hk, List.length_cons, List.length_cons]; omega
    · rw [if_neg hk, List.length_cons, List.length_cons]; omega
theorem RelO.some_of {v : V} {o : Option Value} (r : RelO (some v) o) : ∃ u, o = some u ∧ RelV v u := by
  cases o with
  | none => exact (show False from r).elim
  | some u => exact ⟨u, rfl, r⟩
theorem handed_of {v : V} {u : Value} (r : RelV v u) : PySem.W.handedIn u = true := by
  cases v with
  | non => cases (show u = Value.none from r); rfl
  | bl b => cases (show u = Value.bool b from r); rfl
  | int i => obtain ⟨t, e⟩ := (show ∃ t, u = Value.int i t from r); cases e; rfl
  | str x => obtain ⟨t, e⟩ := (show ∃ t, u = Value.str x t from r); cases e; rfl
  | byt b => obtain ⟨t, e⟩ := (show ∃ t, u = Value.bytes b t from r); cases e; rfl
  | flt b => obtain ⟨t, e⟩ := (show ∃ t, u = Value.float b t from r); cases e; rfl
  | ref a => cases (show u = Value.ref a from r); rfl
  | ty n => cases (show u = Value.type n from r); rfl
section
variable {P : Program} {w : World} {H H' : Hp} {h h' : Heap} {a C dx : Addr} {fs fs' : List (Str × V)}
theorem ins_get (hok : HOk P w H h) (e : H a = some (.ins C dx fs)) : ∃ mA, ObjM h a dx C mA ∧ (∀ f, RelO (fs.lookup f) (mA f)) ∧ PySem.Within mA (fs.map (·.1)) ∧ fs.length ≤ 1000 ∧ H dx = some (.own a) := by
  obtain ⟨d, z, ne, ob, mA, n, r, q⟩ := (show ObjOk P w H h a (.ins C dx fs) from hok a _ e)
  exact ⟨mA, ⟨ob, n, ne⟩, r, q, z, d⟩
end
structure Cls (K : PySem.W.Frag) (C : Addr) : Prop where
  pg : PySem.W.plainGet K C Str.empty = true
  hd : PySem.W.hasDictIn K C = true
  po : PySem.W.plainOver K C = true
  sa : PySem.W.findIn K (.ref C) "__setattr__" = some (some (.builtin "object.__setattr__"))
theorem Cls.get {K : PySem.W.Frag} {C : Addr} (c : Cls K C) (f : Str) : PySem.W.plainGet K C f = true := c.pg
def NoAttr (K : PySem.W.Frag) (C : Addr) (f : Str) : Prop := PySem.W.findIn K (.ref C) f = some none
theorem NoAttr.taker {K : PySem.W.Frag} {C : Addr} {f : Str} (n : NoAttr K C f) : PySem.W.takerIn K C f = some none := by
  unfold PySem.W.takerIn
  rw [show PySem.W.findIn K (.ref C) f = some none from n]
  rfl
structure Con (K : PySem.W.Frag) (C : Addr) (f : Str) (v : V) (u : Value) : Prop where
  at_ : PySem.W.findIn K (.ref C) f = some (some u)
  rel : RelV v u
  get : PySem.W.specialIn K u "__get__" = some none
  cp : PySem.W.copiedNames.contains f = false
structure Meth (K : PySem.W.Frag) (C : Addr) (m : Str) (f : Addr) : Prop where
  at_ : PySem.W.findIn K (.ref C) m = some (some (.ref f))
  fn : PySem.W.isFn K (.ref f) = true
  kp : PySem.W.keepIn K (.ref f) = true
section
variable {X : Cx} {pins : List (Addr × Obj)} {σ : St} {H : Hp} {s : Shared} {a C dx : Addr} {fs : List (Str × V)} {f : Str} {v : V} {A : Around} {E : Value → Shared → Prop}
theorem getattr_ok {b : Bool} {Q : Value → Shared → Prop} (I : Inv X pins σ H s) (e : H a = some (.ins C dx fs)) (c : Cls X.K C) (n : NoAttr X.K C f) (l : fs.lookup f = some v)
    (h : ∀ u s', Inv X pins σ H s' → RelV v u → Q u s') : wpAny (model X.prog X.w) A (getAttr (.ref a) f b) Q E s := by
  obtain ⟨mA, O, r, _, _, _⟩ := ins_get I.hok e
  obtain ⟨u, hu, ru⟩ := RelO.some_of (v := v) (o := mA f) (by rw [← l]; exact r f)
  exact get_map I.kIn O (c.get f) c.hd n hu (handed_of ru) (h u _ (I.tok _) ru)
theorem setattr_ok {y : V} {u : Value} {Q : Unit → Shared → Prop} (I : Inv X pins σ H s) (e : H a = some (.ins C dx fs)) (c : Cls X.K C) (n : NoAttr X.K C f) (hl : fs.length < 1000) (ry : RelV y u)
    (h : ∀ s', Inv X pins σ (upd H a (.ins C dx (putF f y fs))) s' → Q () s') : wpAny (model X.prog X.w) A (setAttr (.ref a) f u) Q E s := by
  obtain ⟨mA, O, r, wi, _, ho⟩ := ins_get I.hok e
  have hz : (fs.map (·.1)).length ≤ sizeLine := by rw [List.length_map, sizeLine_eq]; omega
  refine set_map I.kIn O c.sa c.po n.taker c.hd wi hz fun h' O' sb => h _ ?_
  have hd : ∃ o, h'.get? dx = some o := let ⟨o, _, _, e', _⟩ := O'.ns; ⟨o, e'⟩
  refine I.write (x := a) (e := dx) (by rw [e]; exact True.intro) (.inr ho) (fun b q hb z => (sb.2 b hb).trans z) hd ?_
  refine ⟨by rw [upd_ne O.ne]; exact ho, ?_, O.ne, O'.obj, _, O'.ns, fun g => ?_, fun g hg => ?_⟩
  · have := length_putF f y fs; omega
  · show RelO ((putF f y fs).lookup g) (if g = f then some u else mA g)
    rw [lookup_putF]
    by_cases q : g = f
    · rw [if_pos q, if_pos q]; exact ry
    · rw [if_neg q, if_neg q]; exact r g
  · by_cases q : g = f
    · rw [q]; exact (keys_putF f y fs).1
    · refine (keys_putF f y fs).2 g (wi g fun z => hg ?_)
      show (if g = f then some u else mA g) = none
      rw [if_neg q]; exact z
theorem Inv.made (I : Inv X pins σ H s) : Inv X pins σ (upd (upd H s.heap.objs.size (.own (s.heap.objs.size + 1))) (s.heap.objs.size + 1) (.ins C s.heap.objs.size []))
    { s with heap := (s.heap.push PySem.W.emptyDict).push (PySem.W.instObj C s.heap.objs.size) } := by
  have e1 : (s.heap.push PySem.W.emptyDict).get? s.heap.objs.size = some PySem.W.emptyDict := Heap.get?_push_size s.heap rfl
  have e2 : ((s.heap.push PySem.W.emptyDict).push (PySem.W.instObj C s.heap.objs.size)).get? (s.heap.objs.size + 1) = some (PySem.W.instObj C s.heap.objs.size) := by
    have := Heap.get?_push_size (s.heap.push PySem.W.emptyDict) (o := PySem.W.instObj C s.heap.objs.size) rfl
    rwa [Heap.size_push] at this
  have e3 : (s.heap.push PySem.W.emptyDict).Ns s.heap.objs.size (fun _ => none) := ⟨PySem.W.emptyDict, #[], _, e1, rfl, (fun e he => absurd he (by simp)), fun _ => rfl⟩
  have I1 := I.laid (a := s.heap.objs.size) (o := .own (s.heap.objs.size + 1)) (h' := s.heap.push PySem.W.emptyDict) (t' := s.toks) (fun b u q => Heap.get?_push_of_some _ q) (Nat.le_refl _) ⟨_, e1⟩
  refine I1.laid (a := s.heap.objs.size + 1) (o := .ins C s.heap.objs.size []) (t' := s.toks) (fun b u q => Heap.get?_push_of_some _ q) (Nat.le_of_eq (Heap.size_push _ _)) ?_
  have ne : s.heap.objs.size ≠ s.heap.objs.size + 1 := Nat.ne_of_lt (Nat.lt_succ_self _)
  refine ⟨by rw [upd_ne ne, upd_same], Nat.zero_le _, ne, e2, fun _ => none, (Heap.Ns1.of_empty e3).at fun o q => Heap.get?_push_of_some _ q, fun _ => True.intro, fun y hy => absurd rfl hy⟩
theorem attr_of {prog : Program} {w : World} {env : Env} {e : Expr} {f : Str} {pos : Pos} {s : Shared} {Q : Value → Shared → Prop} (hb : attributeBase e f env (eval e env) = eval e env)
    (h : wpAny (model prog w) A (eval e env) (fun o s₁ => wpAny (model prog w) A (getAttr o f true) Q E s₁) E s) : wpAny (model prog w) A (eval (.Attribute e f pos) env) Q E s :=
  Attribute_any_ h (by rw [arm_eval_Attribute, hb])
end
def tFld (K : PySem.W.Frag) (ta : TE) (f : Str) : TE := fun σ H Q => ta σ H fun x H1 => ∃ a C dx fs v, x = .ref a ∧ H1 a = some (.ins C dx fs) ∧ Cls K C ∧ NoAttr K C f ∧ fs.lookup f = some v ∧ Q v H1
def tCon (K : PySem.W.Frag) (ta : TE) (f : Str) : TE := fun σ H Q => ta σ H fun x H1 => ∃ a C dx fs v u, x = .ref a ∧ H1 a = some (.ins C dx fs) ∧ Cls K C ∧ Con K C f v u ∧ fs.lookup f = none ∧ Q v H1
def sFld (K : PySem.W.Frag) (ta tv : TE) (f : Str) : TS := fun D σ H => tv σ H fun y H1 => ta σ H1 fun x H2 => ∃ a C dx fs, x = .ref a ∧ H2 a = some (.ins C dx fs) ∧ Cls K C ∧ NoAttr K C f ∧ fs.length < 1000 ∧
  D.nx σ (upd H2 a (.ins C dx (putF f y fs)))
def InOp (X : Cx) (op : Operator) (rd : V → V → Hp → VK → Prop) : Prop :=
  ∀ (pins : List (Addr × Obj)) (s : Shared) (σ : St) (H : Hp) (x y : V) (u v : Value) (Q : VK), Inv X pins σ H s → RelV x u → RelV y v → rd x y H Q → wpAny (model X.prog X.w) X.A (inplaceOp op u v) (EP X pins σ Q) X.xe s
def sFldAug (K : PySem.W.Frag) (ta tv : TE) (rd : V → V → Hp → VK → Prop) (f : Str) : TS := fun D σ H => ta σ H fun x H1 => ∃ a C dx fs v, x = .ref a ∧ H1 a = some (.ins C dx fs) ∧ Cls K C ∧ NoAttr K C f ∧ fs.lookup f = some v ∧
  tv σ H1 fun y H2 => rd v y H2 fun z H3 => ∃ dx' fs', H3 a = some (.ins C dx' fs') ∧ fs'.length < 1000 ∧ D.nx σ (upd H3 a (.ins C dx' (putF f z fs')))
section
variable {X : Cx} {o e value : Expr} {f : Str} {pos pos' tpos : Pos} {ta tv : TE}
theorem pe_fld (he : PE X e ta) (hb : attributeBase e f X.env (eval e X.env) = eval e X.env) : PE X (.Attribute e f pos) (tFld X.K ta f) := by
  intro pins s σ H Q I h
  refine attr_of hb (thn (he pins s σ H _ I h) fun u s1 ⟨x, H1, I1, rx, a, C, dx, fs, v, ex, ea, c, n, l, q⟩ => ?_)
  subst ex
  obtain rfl : u = Value.ref a := rx
  exact getattr_ok I1 ea c n l fun u' s2 I2 ru => ⟨v, H1, I2, ru, q⟩
theorem ps_fld (ha : PE X o ta) (hv : PE X value tv) (hs : swapsWith value (some (.Attribute o f pos')) pos.line X.env = pure false) : PS X (.Assign [.Attribute o f pos'] value pos) (sFld X.K ta tv f) := by
  intro pins s σ H D I h
  refine plainObj_wpAny_Assign_Attribute (thn (hv pins s σ H _ I h) fun u s1 ⟨y, H1, I1, ry, q⟩ => thn (ha pins s1 σ H1 _ I1 q) fun ov s2 ⟨x, H2, I2, rx, a, C, dx, fs, ex, ea, c, n, l, q2⟩ => ?_) hs
  subst ex
  obtain rfl : ov = Value.ref a := rx
  exact setattr_ok I2 ea c n l ry fun s3 I3 => ⟨σ, _, I3, q2⟩
def rAdd : V → V → Hp → VK → Prop := fun x y H Q => ∃ i j, x = .int i ∧ y = .int j ∧ Q (.int (i + j)) H
def rSub : V → V → Hp → VK → Prop := fun x y H Q => ∃ i j, x = .int i ∧ y = .int j ∧ Q (.int (i - j)) H
end
section
variable {X : Cx} {pins : List (Addr × Obj)} {σ : St} {H : Hp} {s : Shared} {A : Around} {E : Value → Shared → Prop} {Q : Value → Shared → Prop} {c : Value} {b : Bool}
inductive TyOf (K : PySem.W.Frag) (H : Hp) : V → Value → Prop where
  | non : TyOf K H .non (.type "NoneType")
  | bl (x : Bool) : TyOf K H (.bl x) (.type "bool")
  | int (i : Int) : TyOf K H (.int i) (.type "int")
  | str (x : Str) : TyOf K H (.str x) (.type "str")
  | flt (x : UInt64) : TyOf K H (.flt x) (.type "float")
  | lst {a : Addr} {xs : List V} (e : H a = some (.lst xs)) : TyOf K H (.ref a) (.type "list")
  | frz {a : Addr} {o : Obj} {xs : List V} (e : H a = some (.frz o (.lst xs))) : TyOf K H (.ref a) (.type "list")
  | tup {a : Addr} {xs : List V} (e : H a = some (.tup xs)) : TyOf K H (.ref a) (.type "tuple")
  | dK {a : Addr} {kvs : List (Key × V)} (e : H a = some (.dK kvs)) : TyOf K H (.ref a) (.type "dict")
  | dT {a : Addr} {kvs : List (List Key × V)} (e : H a = some (.dT kvs)) : TyOf K H (.ref a) (.type "dict")
  | ins {a C dx : Addr} {fs : List (Str × V)} (e : H a = some (.ins C dx fs)) (cl : Cls K C) (ha : PySem.W.findIn K (.ref C) "__class__" = some (some (.builtin "object.__class__")))
      (hn : PySem.W.specialIn K (.builtin "object.__class__") "__get__" = some (some (.builtin "getset_descriptor.__get__"))) (htk : PySem.W.takesIn K (.builtin "object.__class__") = some true)
      (hm : PySem.W.mroIn K C (.type "object") = some true) : TyOf K H (.ref a) (.ref C)
end
end L2
namespace L2
open PySem PySem.Spec PyProof.Rows
structure Room (k : Nat) (A : Around) : Prop where
  hd : A.handled = none
  dp : A.depth + 3 * k + 5 < recursionLimit
  un : A.units + 16 * k + 200 < cLine
theorem Room.mono {j k : Nat} {A : Around} (r : Room k A) (h : j ≤ k) : Room j A := ⟨r.hd, by have := r.dp; omega, by have := r.un; omega⟩
theorem Room.deeper {k : Nat} {A : Around} (r : Room (k + 1) A) (env : Env) : Room k (A.deeper env) :=
  ⟨r.hd, by have := r.dp; show A.depth + 1 + 3 * k + 5 < _; omega, by have := r.un; show A.units + 3 + 16 * k + 200 < _; omega⟩
theorem make_depth {A : Around} {C : Addr} {us : List Value} {kw : List (Str × Value)} : (A.under (.builtin "type.__call__" ⟨.ref C :: us, kw⟩)).depth = A.depth + 1 := by
  first | rfl | simp [Around.under, Code.weight, Code.isCreation, Code.isGuard, Code.isCaller, Code.frames, Code.isFrame, guardIds]
theorem make_units {A : Around} {C : Addr} {us : List Value} {kw : List (Str × Value)} : (A.under (.builtin "type.__call__" ⟨.ref C :: us, kw⟩)).units = A.units + 1 := by
  first | rfl | simp [Around.under, Code.cUnits, Code.frames, Code.isFrame]
theorem Room.make {k : Nat} {A : Around} (r : Room (k + 1) A) (C : Addr) (us : List Value) (kw : List (Str × Value)) : Room k (A.under (.builtin "type.__call__" ⟨.ref C :: us, kw⟩)) :=
  ⟨r.hd, by have := r.dp; rw [make_depth]; omega, by have := r.un; rw [make_units]; omega⟩
theorem Room.depth {k : Nat} {A : Around} (r : Room k A) : A.depth < recursionLimit := by have := r.dp; omega
theorem Room.units {k : Nat} {A : Around} (r : Room k A) : A.units + 64 < cLine := by have := r.un; omega
def tNil : TA := fun _ H Q => Q [] H
def tCons (ta : TE) (tr : TA) : TA := fun σ H Q => ta σ H fun x H1 => tr σ H1 fun xs H2 => Q (x :: xs) H2
section
variable {X : Cx} {e : Expr} {es : List Expr} {te : TE} {t : TA} {pos : Pos}
theorem pa_nil : PA X [] tNil := fun _ _ _ _ H Q I h => Calls.spliced_nil ⟨[], H, I, .nil, h⟩
theorem pa_cons (ha : PE X e te) (hr : PA X es t) (hs : starEach (e :: es) X.env = (false, eval e X.env) :: starEach es X.env := by rfl) : PA X (e :: es) (tCons te t) := by
  intro pos pins s σ H Q I h
  rw [hs]
  show wpAny _ _ (spliced ((false, eval e X.env) :: backTo pos (starEach es X.env))) _ _ s
  refine Calls.spliced_cons (thn (ha pins s σ H _ I h) fun u s1 ⟨x, H1, I1, r1, q1⟩ => ?_)
  exact thn (hr pos pins s1 σ H1 _ I1 q1) fun us s2 ⟨xs, H2, I2, r2, q2⟩ => ⟨x :: xs, H2, I2, .cons r1 r2, q2⟩
def tTup (t : TA) : TE := fun σ H Q => t σ H fun xs H1 => xs.length ≤ sizeLine ∧ ∀ p, H1 p = none → Q (.ref p) (upd H1 p (.tup xs))
def tLst (t : TA) : TE := fun σ H Q => t σ H fun xs H1 => xs.length ≤ sizeLine ∧ ∀ p, H1 p = none → Q (.ref p) (upd H1 p (.lst xs))
theorem pe_tup {x1} (h : PA X es t) : PE X (.Tuple es x1 pos) (tTup t) := by
  intro pins s σ H Q I hq
  refine wpAny_Tuple_spliced (thn (h pos pins s σ H _ I hq) fun us s1 ⟨xs, H1, I1, r, z, q⟩ => ⟨by rw [← r.length]; exact z, ?_⟩)
  have hf : H1 s1.heap.objs.size = none := I1.hok.fresh (Nat.le_refl _)
  refine ⟨.ref s1.heap.objs.size, upd H1 s1.heap.objs.size (.tup xs), I1.laid (t' := s1.toks) (fun b u e => Heap.get?_push_of_some _ e) (Nat.le_refl _) ?_, rfl, q _ hf⟩
  exact ⟨z, us, r, ⟨_, Heap.get?_push_size _ rfl, rfl, _, rfl⟩⟩
theorem pe_lst (h : PA X es t) : PE X (.List es pos) (tLst t) := by
  intro pins s σ H Q I hq
  refine wpAny_List_spliced (thn (h pos pins s σ H _ I hq) fun us s1 ⟨xs, H1, I1, r, z, q⟩ => ⟨by rw [← r.length]; exact z, ?_⟩)
  have hf : H1 s1.heap.objs.size = none := I1.hok.fresh (Nat.le_refl _)
  refine ⟨.ref s1.heap.objs.size, upd H1 s1.heap.objs.size (.lst xs), I1.laid (t' := s1.toks) (fun b u e => Heap.get?_push_of_some _ e) (Nat.le_refl _) ?_, rfl, q _ hf⟩
  exact ⟨z, us, 0, r, Heap.get?_push_size _ rfl⟩
end
abbrev Sp := List V → Hp → VK → XK → Prop
abbrev CXT := List Env → Hp → Shared → XK → Value → Shared → Prop
structure Env0 (P : Program) (w : World) (K : PySem.W.Frag) (mg : Str → Option Value) (base : Heap) (A : Around) (outer : List Env) (s : Shared) (H : Hp) : Prop where
  frames : A.frames = some outer
  mod : Mod K mg base
  bs : ∀ b o, base.get? b = some o → s.heap.get? b = some o ∧ H b = none
  bsz : base.objs.size ≤ s.heap.objs.size
  funs : s.heap.FunFrames base outer
  frf : ∀ b ∈ frs outer, H b = none
  hok : HOk P w H s.heap
  bare : AllBare s.gens
def CE (outer : List Env) (P : Program) (w : World) (H : Hp) (s : Shared) (Q : VK) (u : Value) (s' : Shared) : Prop :=
  ∃ v H', s'.os = s.os ∧ AllBare s'.gens ∧ Un (frs outer) [] H H' s.heap s'.heap ∧ HOk P w H' s'.heap ∧ RelV v u ∧ Q v H'
def CR (CX : CXT) (outer : List Env) (P : Program) (w : World) (H : Hp) (s : Shared) (Q : VK) (E : XK) (r : Result) (s' : Shared) : Prop :=
  match r with
  | .ok (.ret u) => CE outer P w H s Q u s'
  | .ok _ => False
  | .error e => CX outer H s E e s'
structure FnOk (P : Program) (w : World) (K : PySem.W.Frag) (mg : Str → Option Value) (base : Heap) (CX : CXT) (k : Nat) (f : Addr) (fd : FuncData) (ps : List Str) (sp : Sp) : Prop where
  len : ∀ vs H Q E, sp vs H Q E → vs.length = ps.length
  run : ∀ (A : Around) (outer : List Env) (s : Shared) (H : Hp) (args : Args) (us : List Value) (vs : List V) (Q : VK) (E : XK), Room k A → Env0 P w K mg base A outer s H → BindsTo s fd args (ps.zip us) → Vals vs us → sp vs H Q E →
    codeAny (model P w) A (.call (.ref f) args) (CR CX outer P w H s Q E) s
theorem Env0.make {P : Program} {w : World} {K : PySem.W.Frag} {mg : Str → Option Value} {base : Heap} {A : Around} {outer : List Env} {s : Shared} {H : Hp} (e : Env0 P w K mg base A outer s H) (C : Addr) (us : List Value) (kw : List (Str × Value)) :
    Env0 P w K mg base (A.under (.builtin "type.__call__" ⟨.ref C :: us, kw⟩)) outer s H := ⟨by first | exact e.frames | (simpa [Around.under, Code.envs, Code.isFrame, pushEnvs] using e.frames), e.mod, e.bs, e.bsz, e.funs, e.frf, e.hok, e.bare⟩
section
variable {X : Cx} {pins : List (Addr × Obj)} {σ : St} {H : Hp} {s s' : Shared}
theorem Inv.env0 (I : Inv X pins σ H s) : Env0 X.prog X.w X.K X.mg X.base X.A X.stack s H :=
  ⟨I.ok.frames, I.ok.mod, I.bs, Nat.le_trans I.ok.bsz I.sz, I.stack, I.stkFree, I.hok, I.bare⟩
theorem Inv.after {Q : VK} {u : Value} (I : Inv X pins σ H s) (h : CE X.stack X.prog X.w H s Q u s') : EP X pins σ Q u s' := by
  obtain ⟨v, H', os, bare, un, hok, r, q⟩ := h
  obtain ⟨hh, g, d, t, os'⟩ := s'
  obtain rfl : os' = s.os := os
  exact ⟨v, H', I.call (h' := hh) (g' := g) (d' := d) (t' := t) (ch := []) un hok bare (fun b z => absurd z (by simp)), r, q⟩
end
def tCall (sp : Sp) (dvs : List V) (E : XK) (t : TA) : TE := fun σ H Q => t σ H fun vs H1 => sp (vs ++ dvs) H1 Q E
def tMeth (C : Addr) (m : Str) (sp : Sp) (dvs : List V) (E : XK) (ta : TE) (t : TA) : TE := fun σ H Q => ta σ H fun x H1 => ∃ a dx fs, x = .ref a ∧ H1 a = some (.ins C dx fs) ∧ fs.lookup m = none ∧
  t σ H1 fun vs H2 => sp (x :: (vs ++ dvs)) H2 Q E
def tMake (C : Addr) (sp : Sp) (dvs : List V) (E : XK) (t : TA) : TE := fun σ H Q => t σ H fun vs H1 => ∀ x dx, H1 x = none → H1 dx = none → dx ≠ x →
  sp (.ref x :: (vs ++ dvs)) (upd (upd H1 dx (.own x)) x (.ins C dx [])) (fun v H2 => v = .non ∧ Q (.ref x) H2) E
def Binds (K : PySem.W.Frag) (fd : FuncData) (ps : List Str) (ds : List Value) : Prop :=
  ∀ (s : Shared) (us : List Value), K.In s.heap → (us ++ ds).length = ps.length → BindsTo s fd ⟨us, []⟩ (ps.zip (us ++ ds))
theorem Binds.all {K : PySem.W.Frag} {fd : FuncData} {ps : List Str} (h : ∀ us : List Value, us.length = ps.length → bindArgs fd ⟨us, []⟩ = pure (ps.zip us)) : Binds K fd ps [] := fun s us _ hl => by
  rw [List.append_nil] at hl ⊢
  exact .of_eq (h us hl)
def Passes (CX : CXT) (X : Cx) (E : XK) : Prop := ∀ (pins : List (Addr × Obj)) (σ : St) (H : Hp) (s : Shared) (e : Value) (s' : Shared), Inv X pins σ H s → CX X.stack H s E e s' → X.xe e s'
section
variable {X : Cx} {CX : CXT} {k : Nat} {f C : Addr} {fd : FuncData} {ps : List Str} {sp : Sp} {dvs : List V} {ds : List Value} {E : XK} {x m : Str} {p pos apos : Pos} {e o : Expr} {es : List Expr} {ta : TE} {t : TA}
theorem run_fn {pins : List (Addr × Obj)} {σ : St} {H : Hp} {s : Shared} {Q : VK} {us : List Value} {vs : List V} (F : FnOk X.prog X.w X.K X.mg X.base CX k f fd ps sp) (hr : Room k X.A) (hb : Binds X.K fd ps ds) (hd : Vals dvs ds) (hx : Passes CX X E)
    (I : Inv X pins σ H s) (r : Vals vs us) (h : sp (vs ++ dvs) H Q E) : wpAny (model X.prog X.w) X.A (call (.ref f) us) (EP X pins σ Q) X.xe s := by
  have r2 : Vals (vs ++ dvs) (us ++ ds) := r.append hd
  have hl : (us ++ ds).length = ps.length := by rw [← r2.length]; exact F.len _ _ _ _ h
  refine wpAny_call (codeAny_mono (F.run X.A X.stack s H ⟨us, []⟩ (us ++ ds) (vs ++ dvs) Q E hr I.env0 (hb s us I.kIn hl) r2 h) fun r s' hq => ?_)
  cases r with
  | error e => exact hx pins σ H s e s' I hq
  | ok fl =>
    cases fl with
    | ret u => exact I.after hq
    | next => exact False.elim hq
    | brk => exact False.elim hq
    | cont => exact False.elim hq
theorem pe_call (F : FnOk X.prog X.w X.K X.mg X.base CX k f fd ps sp) (hr : Room k X.A) (hg : Gl X x) (hm : X.mg x = some (.ref f)) (hk : PySem.W.keepIn X.K (.ref f) = true) (hb : Binds X.K fd ps ds) (hd : Vals dvs ds) (hx : Passes CX X E)
    (ha : PA X (e :: es) t) (hdb : (x == ("__debug__" : Str)) = false := by decide) (he : starEach (e :: es) X.env = (false, eval e X.env) :: starEach es X.env := by rfl) (hpl : (backTo pos (starEach es X.env)).any (·.1) = false := by rfl) :
    PE X (.Call (.Name x p) (e :: es) [] pos) (tCall sp dvs E t) := by
  intro pins s σ H Q I h
  refine wpAny_Call_Name_kw (ld_glob I hg hm ?_ hdb)
  refine PySem.W.callWith_K (h₀ := X.base) I.ok.mod.kin hk (thn (ha pos pins s σ H _ I h) fun us s1 ⟨vs, H1, I1, r, q⟩ => ⟨I1.kIn, ?_⟩) he hpl
  exact run_fn F hr hb hd hx I1 r q
structure Mk (K : PySem.W.Frag) (C f : Addr) : Prop where
  makes : PySem.W.makesIn K C = true
  init : PySem.W.findIn K (.ref C) "__init__" = some (some (.ref f))
  fn : PySem.W.isFn K (.ref f) = true
  kp : PySem.W.keepIn K (.ref C) = true
theorem run_make {pins : List (Addr × Obj)} {σ : St} {H : Hp} {s : Shared} {Q : VK} {us : List Value} {vs : List V} (M : Mk X.K C f) (F : FnOk X.prog X.w X.K X.mg X.base CX k f fd ps sp) (hr : Room (k + 1) X.A) (hb : Binds X.K fd ps ds) (hd : Vals dvs ds)
    (hx : Passes CX X E) (I : Inv X pins σ H s) (r : Vals vs us)
    (h : ∀ x dx, H x = none → H dx = none → dx ≠ x → sp (.ref x :: (vs ++ dvs)) (upd (upd H dx (.own x)) x (.ins C dx [])) (fun v H2 => v = .non ∧ Q (.ref x) H2) E) :
    wpAny (model X.prog X.w) X.A (call (.ref C) us) (EP X pins σ Q) X.xe s := by
  have hq := h (s.heap.objs.size + 1) s.heap.objs.size (I.hok.fresh (Nat.le_succ _)) (I.hok.fresh (Nat.le_refl _)) (Nat.ne_of_lt (Nat.lt_succ_self _))
  have I2 := Inv.made (C := C) I
  have r2 : Vals (V.ref (s.heap.objs.size + 1) :: (vs ++ dvs)) (Value.ref (s.heap.objs.size + 1) :: (us ++ ds)) := .cons rfl (r.append hd)
  have hl : (Value.ref (s.heap.objs.size + 1) :: us ++ ds).length = ps.length := by
    have e := r2.length
    rw [F.len _ _ _ _ hq] at e
    exact e.symm
  refine wpAny_call (make_map (f := f) I.kIn M.makes M.init (beq_iff_eq.mp M.fn) (codeAny_mono (F.run _ X.stack _ _ ⟨Value.ref (s.heap.objs.size + 1) :: us, []⟩ (Value.ref (s.heap.objs.size + 1) :: (us ++ ds)) _ _ E (hr.make C us [])
    (I2.env0.make C us []) (hb _ (Value.ref (s.heap.objs.size + 1) :: us) I2.kIn hl) r2 hq) fun r s' hq' => ?_))
  cases r with
  | error e => exact hx pins σ _ _ e s' I2 hq'
  | ok fl =>
    cases fl with
    | ret u =>
      obtain ⟨v, H', I3, rv, ev, q3⟩ := I2.after hq'
      subst ev
      exact ⟨rv, ⟨V.ref (s.heap.objs.size + 1), H', I3, rfl, q3⟩⟩
    | next => exact False.elim hq'
    | brk => exact False.elim hq'
    | cont => exact False.elim hq'
theorem pe_make (M : Mk X.K C f) (F : FnOk X.prog X.w X.K X.mg X.base CX k f fd ps sp) (hr : Room (k + 1) X.A) (hg : Gl X x) (hm : X.mg x = some (.ref C)) (hb : Binds X.K fd ps ds) (hd : Vals dvs ds) (hx : Passes CX X E)
    (ha : PA X (e :: es) t) (hdb : (x == ("__debug__" : Str)) = false := by decide) (he : starEach (e :: es) X.env = (false, eval e X.env) :: starEach es X.env := by rfl) (hpl : (backTo pos (starEach es X.env)).any (·.1) = false := by rfl) :
    PE X (.Call (.Name x p) (e :: es) [] pos) (tMake C sp dvs E t) := by
  intro pins s σ H Q I h
  refine wpAny_Call_Name_kw (ld_glob I hg hm ?_ hdb)
  refine PySem.W.callWith_K (h₀ := X.base) I.ok.mod.kin M.kp (thn (ha pos pins s σ H _ I h) fun us s1 ⟨vs, H1, I1, r, q⟩ => ⟨I1.kIn, ?_⟩) he hpl
  exact run_make M F hr hb hd hx I1 r q
end
def PK (X : Cx) (kws : List Keyword) (t : TA) : Prop :=
  ∀ (pos : Pos) (pins : List (Addr × Obj)) (s : Shared) (σ : St) (H : Hp) (Q : List V → Hp → Prop), Inv X pins σ H s → t σ H Q → wpAny (model X.prog X.w) X.A (evalAll ((backToKw pos (keywordEach kws X.env)).map (·.2))) (AP X pins σ Q) X.xe s
section
variable {X : Cx} {CX : CXT} {k : Nat} {f C : Addr} {fd : FuncData} {ps ks : List Str} {sp : Sp} {E : XK} {x m : Str} {p pos apos kpos : Pos} {e o : Expr} {es : List Expr} {kws : List Keyword} {te ta : TE} {t tk : TA} {nm : Option Str}
structure KBinds (K : PySem.W.Frag) (fd : FuncData) (ps ks : List Str) (g : List Value → List Value → List Value) (gV : List V → List V → List V) : Prop where
  to : ∀ (s : Shared) (us ws : List Value), K.In s.heap → (g us ws).length = ps.length → BindsTo s fd ⟨us, ks.zip ws⟩ (ps.zip (g us ws))
  rel : ∀ {vs : List V} {us : List Value} {zs : List V} {ws : List Value}, Vals vs us → Vals zs ws → Vals (gV vs zs) (g us ws)
def tCallK (sp : Sp) (gV : List V → List V → List V) (E : XK) (t tk : TA) : TE := fun σ H Q => t σ H fun vs H1 => tk σ H1 fun zs H2 => sp (gV vs zs) H2 Q E
variable {g : List Value → List Value → List Value} {gV : List V → List V → List V}
end
structure FnScope (N P : List Str) (sc : Scope) : Prop where
  kind : sc.kind = .function
  co : sc.isCoroutine = false
  gen : sc.isGenerator = false
  nd : N.Nodup
  pre : N.take P.length = P
  par : ∀ x ∈ P, sc.names.lookup x = some .local ∨ sc.names.lookup x = some .cell
  nofree : ∀ y ∈ sc.names, y.2 ≠ .free
theorem bindL_out {kindOf : Str → Option NameKind} {x : Str} : ∀ {binds : List (Str × Value)} {m : Str → Option Value}, (∀ v, (x, v) ∉ binds) → bindL kindOf binds m x = m x
  | [], _, _ => rfl
  | (n, v) :: r, m, h => by
    unfold bindL
    rw [bindL_out fun w hw => h w (List.mem_cons_of_mem _ hw)]
    split
    · have : x ≠ n := by rintro rfl; exact h v List.mem_cons_self
      simp [this]
    · rfl
theorem bindC_out {kindOf : Str → Option NameKind} {x : Str} : ∀ {binds : List (Str × Value)} {m : Str → Option Value}, (∀ v, (x, v) ∉ binds) → bindC kindOf binds m x = m x
  | [], _, _ => rfl
  | (n, v) :: r, m, h => by
    unfold bindC
    rw [bindC_out fun w hw => h w (List.mem_cons_of_mem _ hw)]
    split
    · rfl
    · have : x ≠ n := by rintro rfl; exact h v List.mem_cons_self
      simp [this]
theorem bindL_get {kindOf : Str → Option NameKind} {x : Str} {v : Value} : ∀ {P : List Str} {vs : List Value} {i : Nat} {m : Str → Option Value}, P.Nodup → P[i]? = some x → vs[i]? = some v → kindOf x = some .local →
    bindL kindOf (P.zip vs) m x = some v
  | [], _, _, _, _, h, _, _ => by simp at h
  | _ :: _, [], _, _, _, _, h, _ => by simp at h
  | p :: P, w :: vs, 0, m, nd, h1, h2, hk => by
    simp at h1 h2; subst h1; subst h2
    show bindL kindOf ((p, w) :: P.zip vs) m p = _
    unfold bindL
    rw [bindL_out fun v hv => (List.nodup_cons.mp nd).1 (List.of_mem_zip hv).1, if_pos hk]
    simp
  | p :: P, w :: vs, i + 1, m, nd, h1, h2, hk => by
    show bindL kindOf ((p, w) :: P.zip vs) m x = _
    unfold bindL
    exact bindL_get (i := i) (List.nodup_cons.mp nd).2 (by simpa using h1) (by simpa using h2) hk
theorem bindC_get {kindOf : Str → Option NameKind} {x : Str} {v : Value} : ∀ {P : List Str} {vs : List Value} {i : Nat} {m : Str → Option Value}, P.Nodup → P[i]? = some x → vs[i]? = some v → kindOf x ≠ some .local →
    bindC kindOf (P.zip vs) m x = some v
  | [], _, _, _, _, h, _, _ => by simp at h
  | _ :: _, [], _, _, _, _, h, _ => by simp at h
  | p :: P, w :: vs, 0, m, nd, h1, h2, hk => by
    simp at h1 h2; subst h1; subst h2
    show bindC kindOf ((p, w) :: P.zip vs) m p = _
    unfold bindC
    rw [bindC_out fun v hv => (List.nodup_cons.mp nd).1 (List.of_mem_zip hv).1, if_neg hk]
    simp
  | p :: P, w :: vs, i + 1, m, nd, h1, h2, hk => by
    show bindC kindOf ((p, w) :: P.zip vs) m x = _
    unfold bindC
    exact bindC_get (i := i) (List.nodup_cons.mp nd).2 (by simpa using h1) (by simpa using h2) hk
def start (N : List Str) (vs : List V) : St := vs.map some ++ List.replicate (N.length - vs.length) none
def cxOf (CX : CXT) (P : Program) (w : World) (K : PySem.W.Frag) (mg : Str → Option Value) (base : Heap) (N : List Str) (qual : Str) (scope : Scope) (f : Addr) (cd : Value) (A : Around) (outer : List Env) (s : Shared) (H : Hp) (E : XK) : Cx where
  prog := P
  w := w
  K := K
  mg := mg
  base := base
  A := A.deeper (envOfC qual scope s.heap.objs.size f cd)
  N := N
  s_0 := s
  H_0 := H
  env := envOfC qual scope s.heap.objs.size f cd
  outer := outer
  stack := envOfC qual scope s.heap.objs.size f cd :: outer
  ex := []
  calm := true
  fn := fun _ => true
  pn := []
  xe := fun e s' => wpAny (model P w) (A.deeper (envOfC qual scope s.heap.objs.size f cd)) (leaving (envOfC qual scope s.heap.objs.size f cd) e) (fun _ s'' => CX outer H s E e s'') (fun e' s'' => CX outer H s E e' s'') s'
theorem cell_has {sc : Scope} {n : Nat} {x : Str} (h : sc.names.lookup x = some .cell) : ∃ c, (cellsFrom n sc.names []).lookup x = some c := by
  have q := PySem.W.cellsFrom_some sc.names n [] (.inl h)
  exact Option.isSome_iff_exists.mp q
theorem inv_start {CX : CXT} {P : Program} {w : World} {K : PySem.W.Frag} {mg : Str → Option Value} {base : Heap} {N ps : List Str} {qual : Str} {scope : Scope} {f : Addr} {cd : Value} {A : Around} {outer : List Env} {s s1 : Shared} {H : Hp} {E : XK} {us : List Value} {vs : List V}
    (S : FnScope N ps scope) (hd : A.handled = none) (e0 : Env0 P w K mg base A outer s H) (hl : vs.length = ps.length) (r : Vals vs us)
    (x : InCallC s s.heap.objs.size (bindL (envOfC qual scope s.heap.objs.size f cd).kindOf (ps.zip us) fun _ => none) (cellsFrom (s.heap.objs.size + 1) scope.names []) (bindC (envOfC qual scope s.heap.objs.size f cd).kindOf (ps.zip us) fun _ => none) s1) :
    Inv (cxOf CX P w K mg base N qual scope f cd A outer s H E) [] (start N vs) H s1 := by
  have hpl : ps.length ≤ N.length := by have := congrArg List.length S.pre; rw [List.length_take] at this; omega
  obtain ⟨h1, tk, rfl, hk⟩ := x.done
  have noA : ∀ b : Addr, b ∉ (cxOf CX P w K mg base N qual scope f cd A outer s H E).ex := fun b z => absurd (show b ∈ ([] : List Addr) from z) (by simp)
  refine ⟨⟨e0.mod, S.kind, rfl, rfl, Nat.le_refl _, fun y z c h1 h2 => ?_, fun y hy => ?_, fun y c _ h => ?_, fun _ => hd, Around.frames_deeper e0.frames, .inr ⟨rfl, rfl⟩, fun b z => absurd z (noA b), e0.bs, e0.bsz, fun b _ _ => noA b, fun b z => absurd z (noA b), e0.funs, e0.frf⟩,
    rfl, e0.bare, Un.kept hk, ⟨_, x.toInCall.ns, fun i y v h1 h2 h3 => ?_⟩, fun y c h => ⟨_, x.cell y c h⟩, e0.hok.fresh (Nat.le_refl _), fun y c h => ?_, fun p hp => absurd (show p ∈ ([] : List (Addr × Obj)) from hp) (by simp), e0.hok.kept hk, ?_⟩
  · exact name_of_addr x.apart (PySem.mem_of_lookup h1) (PySem.mem_of_lookup h2)
  · have hy : scope.names.lookup y = some .cell ∨ scope.names.lookup y = some .free := hy
    rcases hy with hy | hy
    · exact cell_has hy
    · exact absurd rfl (S.nofree _ (PySem.mem_of_lookup hy))
  · exact Nat.le_of_lt (x.above y c (PySem.mem_of_lookup h))
  · have hi : i < vs.length := by
      unfold start at h2
      by_cases hi : i < vs.length
      · exact hi
      · rw [List.getElem?_append_right (by simpa using hi)] at h2
        rw [List.getElem?_replicate] at h2
        split at h2 <;> cases h2
    have ha : vs[i]? = some v := by
      unfold start at h2
      rw [List.getElem?_append_left (by simpa using hi), List.getElem?_map] at h2
      cases e : vs[i]? with
      | none => rw [e] at h2; cases h2
      | some a => rw [e] at h2; cases h2; rfl
    obtain ⟨u, hu, rv⟩ := r.get ha
    have hp : ps[i]? = some y := by
      rw [← S.pre, List.getElem?_take_of_lt (by omega)]; exact h1
    have ndP : ps.Nodup := by rw [← S.pre]; exact S.nd.sublist (List.take_sublist _ _)
    refine ⟨u, rv, ?_⟩
    rcases S.par y (List.mem_of_getElem? hp) with k | k
    · exact .inl ⟨k, bindL_get ndP hp hu k⟩
    · obtain ⟨c, e⟩ := cell_has (n := s.heap.objs.size + 1) k
      refine .inr ⟨.inl k, c, e, ?_⟩
      have q := x.cell y c e
      rw [bindC_get ndP hp hu (by show scope.names.lookup y ≠ _; rw [k]; decide)] at q
      exact q
  · exact e0.hok.fresh (Nat.le_of_lt (x.above y c (PySem.mem_of_lookup h)))
  · unfold start
    show _ = N.length
    rw [List.length_append, List.length_map, List.length_replicate]
    omega
theorem fn_of {CX : CXT} {P : Program} {w : World} {K : PySem.W.Frag} {mg : Str → Option Value} {base : Heap} {k : Nat} {f : Addr} {name qual : Str} {params : Arguments} {body : List Stmt} {scope : Scope} {dV kV doc pm cdv ct oc : Value} {an od : Option Addr}
    {osl : Array (Option Value)} {N ps : List Str} {sp : Sp} (lk : K.lookup f = some ⟨oc, od, .func (PySem.W.fnOf name qual params body scope dV kV doc pm an cdv ct), osl⟩) (hcd : PySem.W.codeIn K cdv qual = true) (S : FnScope N ps scope)
    (len : ∀ vs H Q E, sp vs H Q E → vs.length = ps.length)
    (hbody : ∀ (A : Around) (outer : List Env) (s : Shared) (H : Hp) (vs : List V) (Q : VK) (E : XK), Room k (A.deeper (envOfC qual scope s.heap.objs.size f cdv)) → sp vs H Q E →
      ∃ t, PSs (cxOf CX P w K mg base N qual scope f cdv A outer s H E) body t ∧ t { nx := fun _ H' => Q .non H', rt := Q } (start N vs) H) :
    FnOk P w K mg base CX (k + 1) f (PySem.W.fnOf name qual params body scope dV kV doc pm an cdv ct) ps sp := by
  refine ⟨len, fun A outer s H args us vs Q E hr e0 hb r hsp => ?_⟩
  have hl := len _ _ _ _ hsp
  have KX : K.In s.heap := e0.mod.kin.keeps fun b o e => (e0.bs b o e).1
  have lim : s.heap.NoLimit := e0.mod.nolimit.keeps fun b o e => (e0.bs b o e).1
  have hkind : ∀ y ∈ ps.zip us, scope.names.lookup y.1 = some .local ∨ (scope.names.lookup y.1 = some .cell ∧ ((cellsFrom (s.heap.objs.size + 1) scope.names []).lookup y.1).isSome = true) := fun ⟨n, v⟩ hy => by
    rcases S.par n (List.of_mem_zip hy).1 with q | q
    · exact .inl q
    · exact .inr ⟨q, PySem.W.cellsFrom_some _ _ _ (.inl q)⟩
  refine codeAny_call_function hr.depth (KX _ _ lk) rfl S.co S.gen rfl (PySem.W.codeRec_of KX hcd) (hb _ _ _ _ ?_)
  refine wpAny_newFunctionEnv_cells S.kind hkind fun env he s1 x => ?_
  subst he
  refine ⟨lim.keeps x.toInCall.keep, codeAny_func ?_⟩
  obtain ⟨t, ht, hq⟩ := hbody A outer s H vs Q E (hr.deeper _) hsp
  have I : Inv (cxOf CX P w K mg base N qual scope f cdv A outer s H E) [] (start N vs) H s1 := inv_start S hr.hd e0 hl r x
  refine wpAny_mono (ht [] s1 (start N vs) H _ I hq) (fun fl s' hs => ?_) fun e s' hs => hs
  have fin : ∀ {σ' : St} {H' : Hp} {v : V} {u : Value}, Inv (cxOf CX P w K mg base N qual scope f cdv A outer s H E) [] σ' H' s' → RelV v u → Q v H' → CE outer P w H s Q u s' :=
    fun {σ' H' v u} J rv q => ⟨v, H', J.os, J.bare, J.base, J.hok, rv, q⟩
  cases fl with
  | ret u =>
    obtain ⟨v, σ', H', J, rv, q⟩ := hs
    exact fin J rv q
  | next =>
    obtain ⟨σ', H', J, q⟩ := hs
    exact fin (v := V.non) (u := Value.none) J rfl q
  | brk =>
    obtain ⟨_, _, _, q⟩ := hs
    exact False.elim q
  | cont =>
    obtain ⟨_, _, _, q⟩ := hs
    exact False.elim q
end L2
namespace L2
open PySem PySem.Spec PyProof.Rows
section
variable {X : Cx} {x : Str} {p pos : Pos} {e : Expr} {es : List Expr} {t : TA} {id T : String} {r : List V → Hp → VK → Prop}
def tCB (r : List V → Hp → VK → Prop) (t : TA) : TE := fun σ H Q => t σ H fun vs H1 => r vs H1 Q
theorem pe_callB (hc : CallR X (.builtin id) r) (hg : Gl X x) (hm : X.mg x = none) (hv : bootBuiltins x = some (.builtin id)) (ha : PA X (e :: es) t) (hn : x ≠ "__name__" := by decide) (hdb : (x == ("__debug__" : Str)) = false := by decide)
    (he : starEach (e :: es) X.env = (false, eval e X.env) :: starEach es X.env := by rfl) (hpl : (backTo pos (starEach es X.env)).any (·.1) = false := by rfl) : PE X (.Call (.Name x p) (e :: es) [] pos) (tCB r t) := by
  intro pins s σ H Q I h
  refine wpAny_Call_Name_kw (ld_blt I hg hm hv ?_ hn hdb)
  exact PyProof.Rows.callWith_builtin1 (thn (ha pos pins s σ H _ I h) fun us s1 ⟨vs, H1, I1, r1, q1⟩ => hc pins s1 σ H1 vs us Q I1 r1 q1) he hpl
end
end L2
namespace HT
open PySem PyProof.Rows
def lexLt : List Int → List Int → Bool
  | [], [] => false
  | [], _ :: _ => true
  | _ :: _, [] => false
  | x :: xs, y :: ys => if x = y then lexLt xs ys else decide (x < y)
section
open PySem.SeqAt
open PySem.AutoSeq1 (wpAny_loadPart')
open PySem.MeetsSeq PySem.MeetsSeq2 PySem.MeetsSeq3
end
section
variable {prog : Program} {w : World} {A : Around} {E : Value → Shared → Prop} {s : Shared}
def sIx (n d : Nat) : Option Int → Nat
  | none => d
  | some v => if v < 0 then (v + (n : Int)).toNat else min v.toNat n
theorem sIx_nat (n d k : Nat) : sIx n d (some (k : Int)) = min k n := by
  show (if (k : Int) < 0 then ((k : Int) + (n : Int)).toNat else min (k : Int).toNat n) = min k n
  rw [if_neg (by omega), Int.toNat_natCast]
end
end HT
namespace L2
open PySem PySem.Spec PyProof.Rows
abbrev TO := St → Hp → (Option Int → Hp → Prop) → Prop
def PO (X : Cx) (e : Option Expr) (t : TO) : Prop :=
  ∀ (pins : List (Addr × Obj)) (s : Shared) (σ : St) (H : Hp) (Q : Option Int → Hp → Prop), Inv X pins σ H s → t σ H Q →
    wpAny (model X.prog X.w) X.A (evalPart e X.env) (fun u s' => ∃ o H', Inv X pins σ H' s' ∧ IsPart u o ∧ Q o H') X.xe s
def tNoPart : TO := fun _ H Q => Q none H
def tPart (t : TE) : TO := fun σ H Q => t σ H fun x H1 => ∃ i, x = .int i ∧ Q (some i) H1
section
variable {X : Cx} {e : Expr} {te : TE} {lo hi : Option Expr} {tl th : TO} {pos p2 : Pos}
theorem po_none : PO X none tNoPart := by
  intro pins s σ H Q I h
  rw [evalPart_none]
  exact wpAny_pure ⟨none, H, I, .none, h⟩
theorem po_some (h : PE X e te) : PO X (some e) (tPart te) := by
  intro pins s σ H Q I hw
  rw [evalPart_some]
  refine thn (h pins s σ H _ I hw) fun u s1 ⟨x, H1, I1, r1, q1⟩ => ?_
  obtain ⟨i, rfl, q⟩ := q1
  obtain ⟨t, rfl⟩ := r1
  exact ⟨some i, H1, I1, .int i t, q⟩
def SlR (X : Cx) (r : V → Option Int → Option Int → Hp → VK → Prop) : Prop :=
  ∀ (pins : List (Addr × Obj)) (s : Shared) (σ : St) (H : Hp) (x : V) (v vl vu : Value) (lo hi : Option Int) (sl : Addr) (Q : VK), Inv X pins σ H s → RelV x v → s.heap.IsSliceOf sl vl vu .none → IsPart vl lo → IsPart vu hi → r x lo hi H Q →
    ∃ T id, typeLookup (.type T) "__getitem__" = pure (some (.builtin id)) ∧ s.TypeIs v T ∧ wpAny (model X.prog X.w) X.A (getItem v (.ref sl)) (EP X pins σ Q) X.xe s
def tSl (r : V → Option Int → Option Int → Hp → VK → Prop) (te : TE) (tl th : TO) : TE := fun σ H Q => te σ H fun x H1 => tl σ H1 fun l H2 => th σ H2 fun u H3 => r x l u H3 Q
theorem pe_slice {r : V → Option Int → Option Int → Hp → VK → Prop} (hr : SlR X r) (he : PE X e te) (hl : PO X lo tl) (hu : PO X hi th) : PE X (.Subscript e (.Slice lo hi none p2) pos) (tSl r te tl th) := by
  intro pins s σ H Q I h
  refine Subscript_ (thn (he pins s σ H _ I h) fun v s1 ⟨x, H1, I1, r1, q1⟩ => ?_)
  refine wpAny_Slice (thn (hl pins s1 σ H1 _ I1 q1) fun vl s2 ⟨l, H2, I2, pl, q2⟩ => thn (hu pins s2 σ H2 _ I2 q2) fun vu s3 ⟨u, H3, I3, pu, q3⟩ => ?_)
  rw [evalPart_none]
  refine wpAny_pure ?_
  have I4 : Inv X pins σ H3 { s3 with heap := s3.heap.push { cls := .type "slice", data := .fields #[vl, vu, .none] } } := I3.kept (t' := s3.toks) fun b ob q => Heap.get?_push_of_some _ q
  obtain ⟨T, id, hT, ht, hg⟩ := hr pins { s3 with heap := s3.heap.push { cls := .type "slice", data := .fields #[vl, vu, .none] } } σ H3 x v vl vu l u s3.heap.objs.size Q I4 r1 (Heap.IsSliceOf.new ..) pl pu q3
  show wpAny (model X.prog X.w) X.A (subscriptTail e (.Slice lo hi none p2) v (.ref s3.heap.objs.size)) (EP X pins σ Q) X.xe { s3 with heap := s3.heap.push { cls := .type "slice", data := .fields #[vl, vu, .none] } }
  exact tail_any (ops := [.ref s3.heap.objs.size, v]) ht hT hg (by with_unfolding_all rfl)
def cutV (xs : List V) (lo hi : Option Int) : List V := (xs.drop (HT.sIx xs.length 0 lo)).take (HT.sIx xs.length xs.length hi - HT.sIx xs.length 0 lo)
theorem cutV_length (xs : List V) (lo hi : Option Int) : (cutV xs lo hi).length ≤ xs.length := by
  unfold cutV
  rw [List.length_take, List.length_drop]
  omega
def rSlT (K : PySem.W.Frag) : V → Option Int → Option Int → Hp → VK → Prop := fun x lo hi H Q => ∃ a xs, x = .ref a ∧ SqT K H a xs ∧
  ¬ (HT.sIx xs.length 0 lo = 0 ∧ HT.sIx xs.length xs.length hi = xs.length) ∧ ∀ p, H p = none → Q (.ref p) (upd H p (.tup (cutV xs lo hi)))
def rLtT (K : PySem.W.Frag) : R2 := fun x y H Q => ∃ a b ns ms, x = .ref a ∧ y = .ref b ∧ SqT K H a (ns.map V.int) ∧ SqT K H b (ms.map V.int) ∧ Q (.bl (HT.lexLt ns ms)) H
def rCatT (K : PySem.W.Frag) : R2 := fun x y H Q => ∃ a b xs ys, x = .ref a ∧ y = .ref b ∧ SqT K H a xs ∧ SqT K H b ys ∧ xs ≠ [] ∧ xs.length + ys.length ≤ sizeLine ∧
  (ys = [] → Q (.ref a) H) ∧ (ys ≠ [] → ∀ p, H p = none → Q (.ref p) (upd H p (.tup (xs ++ ys))))
end
end L2
namespace L2
open PySem PySem.Spec PyProof.Rows
def ixN (n : Nat) (i : Int) : Option Nat := if 0 ≤ i then (if i < n then some i.toNat else none) else if -(n : Int) ≤ i then some (i + n).toNat else none
def atI {α : Type} (xs : List α) (i : Int) : Option α := (ixN xs.length i).bind fun j => xs[j]?
theorem ixN_seq {n : Nat} {i : Int} {j : Nat} (h : ixN n i = some j) : seqIndex? i n = some j ∧ j < n ∧ -(n : Int) ≤ i ∧ i < n := by
  unfold ixN at h
  by_cases h0 : 0 ≤ i
  · rw [if_pos h0] at h
    by_cases h1 : i < n
    · rw [if_pos h1] at h
      have e : i.toNat = j := Option.some.inj h
      exact ⟨by rw [seqIndex_of h0 h1, e], by omega, by omega, h1⟩
    · rw [if_neg h1] at h; cases h
  · rw [if_neg h0] at h
    by_cases h1 : -(n : Int) ≤ i
    · rw [if_pos h1] at h
      have e : (i + n).toNat = j := Option.some.inj h
      exact ⟨by rw [seqIndex_neg (by omega) h1, e], by omega, h1, by omega⟩
    · rw [if_neg h1] at h; cases h
theorem atI_get {α : Type} {xs : List α} {i : Int} {v : α} (h : atI xs i = some v) : ∃ j, seqIndex? i xs.length = some j ∧ xs[j]? = some v ∧ j < xs.length ∧ -(xs.length : Int) ≤ i ∧ i < xs.length := by
  unfold atI at h
  cases e : ixN xs.length i with
  | none => rw [e] at h; cases h
  | some j =>
    rw [e] at h
    obtain ⟨h1, h2, h3, h4⟩ := ixN_seq e
    exact ⟨j, h1, h, h2, h3, h4⟩
theorem atI_nat {α : Type} {xs : List α} {j : Nat} {v : α} (h : xs[j]? = some v) : atI xs (j : Int) = some v := by
  have hj : j < xs.length := (List.getElem?_eq_some_iff.mp h).1
  have e : ixN xs.length (j : Int) = some j := by
    unfold ixN
    rw [if_pos (by omega), if_pos (by omega)]; simp
  unfold atI; rw [e]; exact h
theorem atI_last {α : Type} (xs : List α) (v : α) : atI (xs ++ [v]) (-1) = some v := by
  have hl : (xs ++ [v]).length = xs.length + 1 := by simp
  have e : ixN (xs ++ [v]).length (-1) = some xs.length := by
    unfold ixN
    rw [hl, if_neg (by decide), if_pos (by omega)]
    congr 1
    omega
  unfold atI
  rw [e]
  show (xs ++ [v])[xs.length]? = some v
  simp
def PlainIx (b : Expr) : Prop := ∀ o i, subscripted b false o i = operate [o, i] (getItem o i)
def IxR (X : Cx) (r : R2) : Prop :=
  ∀ (value slice : Expr) (pins : List (Addr × Obj)) (s : Shared) (σ : St) (H : Hp) (x y : V) (v u : Value) (Q : VK), Inv X pins σ H s → RelV x v → RelV y u → r x y H Q →
    subscripted slice false v u = operate [v, u] (getItem v u) → wpAny (model X.prog X.w) X.A (subscriptTail value slice v u) (EP X pins σ Q) X.xe s
def MtR (X : Cx) (id : String) (r : V → List V → Hp → VK → Prop) : Prop :=
  ∀ (pins : List (Addr × Obj)) (s : Shared) (σ : St) (H : Hp) (x : V) (xs : List V) (v : Value) (us : List Value) (Q : VK), Inv X pins σ H s → RelV x v → Vals xs us → r x xs H Q →
    wpAny (model X.prog X.w) X.A (call (.builtin id) (v :: us)) (EP X pins σ Q) X.xe s
section
variable {X : Cx} {a b : Expr} {ta tb : TE} {pos : Pos}
theorem pe_ix {r : R2} (hr : IxR X r) (ha : PE X a ta) (hb : PE X b tb) (hs : PlainIx b) : PE X (.Subscript a b pos) (tOp r ta tb) := by
  intro pins s σ H Q I h
  exact Subscript_ (binT ha hb I h fun v u s2 x y H2 I2 rx ry q => hr a b pins s2 σ H2 x y v u Q I2 rx ry q (hs _ _))
def rIxL (K : PySem.W.Frag) : R2 := fun x y H Q => ∃ p xs i v, x = .ref p ∧ y = .int i ∧ SqL K H p xs ∧ atI xs i = some v ∧ Q v H
def rIxT (K : PySem.W.Frag) : R2 := fun x y H Q => ∃ p xs i v, x = .ref p ∧ y = .int i ∧ SqT K H p xs ∧ atI xs i = some v ∧ Q v H
def rIxS : R2 := fun x y H Q => ∃ z i c, x = .str z ∧ y = .int i ∧ z.length ≤ sizeLine ∧ atI z.cps.toList i = some c ∧ Q (.str ⟨#[c]⟩) H
theorem ix_list : IxR X (rIxL X.K) := by
  intro value slice pins s σ H x y v u Q I rx ry h hs
  obtain ⟨p, xs, i, z, rfl, rfl, hq, he, q⟩ := h
  cases rx
  obtain ⟨t, rfl⟩ := ry
  obtain ⟨its, r, pl, hz⟩ := I.list hq
  obtain ⟨j, h1, h2, h3, h4, h5⟩ := atI_get he
  obtain ⟨w, ew, rw'⟩ := r.get h2
  have hl := r.length
  have hn := line63
  have fin : EP X pins σ Q w s := ⟨z, H, I, rw', q⟩
  by_cases h0 : 0 ≤ i
  · have hj : i.toNat = j := by
      rw [seqIndex_of h0 h5] at h1
      exact Option.some.inj h1
    exact item_listR pl.isList h0 (by omega) (by rw [hj]; simpa using ew) fin hs
  · have hj : (i + (its.toArray.size : Int)).toNat = j := by
      rw [seqIndex_neg (by omega) h4] at h1
      rw [List.size_toArray, ← hl]
      exact Option.some.inj h1
    exact subscriptTail_builtinR (x := w) pl.isList.typeIs slot_list_getitem.lookup
      (wpAny_getItem_list_neg (Q := fun r s' => r = w ∧ EP X pins σ Q r s') pl.isList (by omega) (by rw [List.size_toArray] <;> omega) (by omega) (by rw [hj]; simpa using ew) ⟨rfl, fin⟩) hs
theorem ix_tup : IxR X (rIxT X.K) := by
  intro value slice pins s σ H x y v u Q I rx ry h hs
  obtain ⟨p, xs, i, z, rfl, rfl, hq, he, q⟩ := h
  cases rx
  obtain ⟨t, rfl⟩ := ry
  obtain ⟨its, r, pl, hz⟩ := I.tuple hq
  obtain ⟨j, h1, h2, h3, h4, h5⟩ := atI_get he
  obtain ⟨w, ew, rw'⟩ := r.get h2
  have hl := r.length
  have hn := line63
  have fin : EP X pins σ Q w s := ⟨z, H, I, rw', q⟩
  exact subscriptTail_builtinR (x := w) pl.typeIs slot_tuple_getitem.lookup
    (getItem_tuple (j := j) (Q := fun r s' => r = w ∧ EP X pins σ Q r s') pl (by omega) (by omega) (by rw [List.size_toArray, ← hl]; exact h1) (by simpa using ew) ⟨rfl, fin⟩) hs
def rIx (K : PySem.W.Frag) : R2 := fun x y H Q => rIxL K x y H Q ∨ rIxT K x y H Q ∨ rIxS x y H Q
def rSetL : V → V → V → Hp → (Hp → Prop) → Prop := fun o i v H Q => ∃ p xs k j, o = .ref p ∧ i = .int k ∧ H p = some (.lst xs) ∧ ixN xs.length k = some j ∧ Q (upd H p (.lst (xs.set j v)))
theorem slice_bounds (lo hi : Option Int) (n : Nat) : (sliceBounds lo hi none n).1 = ((HT.sIx n 0 lo : Nat) : Int) ∧ (sliceBounds lo hi none n).2.1 = ((HT.sIx n n hi : Nat) : Int) ∧ (sliceBounds lo hi none n).2.2 = 1 := by
  refine ⟨?_, ?_, rfl⟩
  · cases lo with
    | none => simp [sliceBounds, HT.sIx]
    | some i =>
      simp only [sliceBounds, HT.sIx, Option.getD_none, show (1 : Int) > 0 by decide, if_true]
      by_cases h : i < 0
      · simp only [h, if_true] <;> omega
      · simp only [h, if_false] <;> omega
  · cases hi with
    | none => simp [sliceBounds, HT.sIx]
    | some i =>
      simp only [sliceBounds, HT.sIx, Option.getD_none, show (1 : Int) > 0 by decide, if_true]
      by_cases h : i < 0
      · simp only [h, if_true] <;> omega
      · simp only [h, if_false] <;> omega
theorem slicePick_cut (its : List Value) (lo hi : Option Int) : slicePick its.toArray lo hi none = ((its.drop (HT.sIx its.length 0 lo)).take (HT.sIx its.length its.length hi - HT.sIx its.length 0 lo)).toArray := by
  obtain ⟨h1, h2, h3⟩ := slice_bounds lo hi its.toArray.size
  unfold slicePick
  rw [h1, h2, h3]
  simp only [sliceRange_one, pick_run, List.size_toArray] <;> rfl
def rSlL (K : PySem.W.Frag) : V → Option Int → Option Int → Hp → VK → Prop := fun x lo hi H Q => ∃ a xs, x = .ref a ∧ SqL K H a xs ∧ ∀ p, H p = none → Q (.ref p) (upd H p (.lst (cutV xs lo hi)))
theorem sl_list : SlR X (rSlL X.K) := by
  intro pins s σ H x v vl vu lo hi sl Q I rx hs pl pu h
  obtain ⟨a, xs, rfl, hx, q⟩ := h
  cases rx
  obtain ⟨its, r, ht, hz⟩ := I.list hx
  have hlen := r.length
  refine ⟨"list", _, slot_list_getitem.lookup, ht.isList.typeIs, ?_⟩
  refine wpAny_getItem_list_slice ht.isList hs pl pu .none (by simp) ?_ (by rw [List.size_toArray] <;> omega)
  rw [slicePick_cut, ← hlen]
  refine ⟨.ref s.heap.objs.size, _, I.laid (t' := s.toks) (o := .lst (cutV xs lo hi)) (fun b ob q => Heap.get?_push_of_some _ q) (Nat.le_refl _) ?_, rfl, q _ (I.hok.fresh (Nat.le_refl _))⟩
  exact ⟨Nat.le_trans (cutV_length xs lo hi) hz, _, 0, (r.drop (HT.sIx xs.length 0 lo)).take (HT.sIx xs.length xs.length hi - HT.sIx xs.length 0 lo), Heap.get?_push_size _ rfl⟩
def flatV : V → Bool
  | .non => true
  | .bl _ => true
  | .int _ => true
  | .str _ => true
  | _ => false
def eqV : V → V → Bool
  | .non, .non => true
  | .bl a, .bl b => a == b
  | .bl a, .int b => (if a then 1 else 0) == b
  | .int a, .bl b => a == (if b then 1 else 0)
  | .int a, .int b => a == b
  | .str a, .str b => a == b
  | _, _ => false
theorem eqAt_V {A : Around} {s : Shared} {y x : V} {u v : Value} (ry : RelV y u) (rx : RelV x v) (fy : flatV y = true) (fx : flatV x = true) : SeqAt.EqAt A s u v (eqV y x) := by
  cases y with
  | non =>
    cases ry
    cases x with
    | non => cases rx; exact SeqAt.EqAt.same _
    | bl b => cases rx; exact SeqAt.EqAt.none_bool b
    | int b => obtain ⟨t, rfl⟩ := rx; exact SeqAt.EqAt.none_int b t
    | str b => obtain ⟨t, rfl⟩ := rx; exact SeqAt.EqAt.none_str b t
    | _ => exact absurd (show false = true from fx) Bool.false_ne_true
  | bl a =>
    cases ry
    cases x with
    | non => cases rx; exact SeqAt.EqAt.bool_none a
    | bl b => cases rx; exact SeqAt.EqAt.bool_bool a b
    | int b => obtain ⟨t, rfl⟩ := rx; exact SeqAt.EqAt.bool_int a b t
    | str b => obtain ⟨t, rfl⟩ := rx; exact SeqAt.EqAt.bool_str a b t
    | _ => exact absurd (show false = true from fx) Bool.false_ne_true
  | int a =>
    obtain ⟨t', rfl⟩ := ry
    cases x with
    | non => cases rx; exact SeqAt.EqAt.int_none a t'
    | bl b => cases rx; exact SeqAt.EqAt.int_bool a t' b
    | int b => obtain ⟨t, rfl⟩ := rx; exact SeqAt.EqAt.int_int a t' b t
    | str b => obtain ⟨t, rfl⟩ := rx; exact SeqAt.EqAt.int_str a t' b t
    | _ => exact absurd (show false = true from fx) Bool.false_ne_true
  | str a =>
    obtain ⟨t', rfl⟩ := ry
    cases x with
    | non => cases rx; exact SeqAt.EqAt.str_none a t'
    | bl b => cases rx; exact SeqAt.EqAt.str_bool a t' b
    | int b => obtain ⟨t, rfl⟩ := rx; exact SeqAt.EqAt.str_int a t' b t
    | str b => obtain ⟨t, rfl⟩ := rx; exact SeqAt.EqAt.str_str a t' b t
    | _ => exact absurd (show false = true from fx) Bool.false_ne_true
  | _ => exact absurd (show false = true from fy) Bool.false_ne_true
def eqU (x : V) (u : Value) : Bool := match u with
  | .none => eqV .non x
  | .bool b => eqV (.bl b) x
  | .int i _ => eqV (.int i) x
  | .str z _ => eqV (.str z) x
  | _ => false
theorem eqU_of {x y : V} {u : Value} (r : RelV y u) (f : flatV y = true) : eqU x u = eqV y x := by
  cases y with
  | non => cases r; rfl
  | bl b => cases r; rfl
  | int i => obtain ⟨t, rfl⟩ := r; rfl
  | str z => obtain ⟨t, rfl⟩ := r; rfl
  | _ => exact absurd (show false = true from f) Bool.false_ne_true
theorem any_eqU {x : V} : ∀ {xs : List V} {us : List Value}, Vals xs us → xs.all flatV = true → us.any (eqU x) = xs.any fun y => eqV y x
  | _, _, .nil, _ => rfl
  | y :: xs, u :: us, .cons r t, f => by
    rw [List.all_cons, Bool.and_eq_true] at f
    rw [List.any_cons, List.any_cons, eqU_of r f.1, any_eqU t f.2]
theorem mem_eqAt {A : Around} {s : Shared} {x : V} {v : Value} (rx : RelV x v) (fx : flatV x = true) : ∀ {xs : List V} {us : List Value}, Vals xs us → xs.all flatV = true → ∀ u ∈ us, SeqAt.EqAt A s u v (eqU x u)
  | _, _, .nil, _ => fun u hu => by cases hu
  | y :: xs, u :: us, .cons r t, f => fun u' hu => by
    rw [List.all_cons, Bool.and_eq_true] at f
    rcases List.mem_cons.mp hu with rfl | hu
    · rw [eqU_of r f.1]; exact eqAt_V r rx f.1 fx
    · exact mem_eqAt rx fx t f.2 u' hu
def inV (x : V) (xs : List V) : Bool := xs.any fun y => eqV y x
def rIn (K : PySem.W.Frag) (neg : Bool) : R2 := fun x y H Q => ∃ p xs, y = .ref p ∧ (SqL K H p xs ∨ SqT K H p xs) ∧ flatV x = true ∧ xs.all flatV = true ∧ Q (.bl (if neg then !inV x xs else inV x xs)) H
theorem op_in_seq : OpR X (compareOp .In) (rIn X.K false) := by
  intro pins s σ H x y v u Q I rx ry h
  obtain ⟨p, xs, rfl, hq, fx, fs, q⟩ := h
  cases ry
  rcases hq with hq | hq
  · obtain ⟨its, r, pl, hz⟩ := I.list hq
    refine SeqAt.in_listAt (eqU x) pl.isList (fun w hw => mem_eqAt rx fx r fs w (by simpa using hw)) ⟨.bl _, H, I, rfl, ?_⟩
    rw [show its.toArray.any (eqU x) = its.any (eqU x) by simp, any_eqU r fs]
    exact q
  · obtain ⟨its, r, pl, hz⟩ := I.tuple hq
    refine SeqAt.in_tupleAt (eqU x) pl (fun w hw => mem_eqAt rx fx r fs w (by simpa using hw)) ⟨.bl _, H, I, rfl, ?_⟩
    rw [show its.toArray.any (eqU x) = its.any (eqU x) by simp, any_eqU r fs]
    exact q
theorem call_len_seq : CallR X (.builtin "len") (fun xs H Q => ∃ p ys, xs = [.ref p] ∧ (SqL X.K H p ys ∨ SqT X.K H p ys) ∧ Q (.int ys.length) H) := by
  intro pins s σ H xs us Q I r h
  obtain ⟨p, ys, rfl, hq, q⟩ := h
  obtain ⟨u, rfl, rx⟩ := vals1 r
  cases rx
  have hn := line63
  rcases hq with hq | hq
  · obtain ⟨its, r', pl, hz⟩ := I.list hq
    have hlen := r'.length
    exact Calls.call_len_list pl.isList (by simp only [List.size_toArray] <;> omega) ⟨.int ys.length, H, I.tok _, ⟨s.toks + 1, by rw [List.size_toArray, hlen]⟩, q⟩
  · obtain ⟨its, r', pl, hz⟩ := I.tuple hq
    have hlen := r'.length
    exact len_tuple pl (by simp only [List.size_toArray] <;> omega) ⟨.int ys.length, H, I.tok _, ⟨s.toks + 1, by rw [List.size_toArray, hlen]⟩, q⟩
def tyV (K : PySem.W.Frag) (T : String) (x : V) (H : Hp) : Prop := match x with
  | .str _ => T = "str"
  | .int _ => T = "int"
  | .ref p => (T = "list" ∧ ∃ xs, SqL K H p xs) ∨ (T = "tuple" ∧ ∃ o, K.lookup p = some o ∧ o.cls = .type "tuple" ∧ o.dict = none) ∨
      (T = "dict" ∧ ((∃ kvs, H p = some (.dK kvs)) ∨ ∃ kvs, H p = some (.dT kvs))) ∨ (T = "set" ∧ ∃ S n, H p = some (.set S n))
  | _ => False
theorem tyV_is {pins : List (Addr × Obj)} {σ : St} {H : Hp} {s : Shared} {T : String} {x : V} {v : Value} (I : Inv X pins σ H s) (r : RelV x v) (ty : tyV X.K T x H) :
    s.TypeIs v T ∧ ∀ a, v = .ref a → ∃ ob, s.heap.get? a = some ob ∧ ob.dict = none := by
  cases x with
  | str z =>
    obtain ⟨t, rfl⟩ := r
    cases (show T = "str" from ty)
    exact ⟨typeIs_str s z t, fun _ e => nomatch e⟩
  | int i =>
    obtain ⟨t, rfl⟩ := r
    cases (show T = "int" from ty)
    exact ⟨typeIs_int s i t, fun _ e => nomatch e⟩
  | ref p =>
    cases r
    rcases ty with ⟨rfl, xs, hq⟩ | ⟨rfl, o, hk, hc, hd⟩ | ⟨rfl, hk⟩ | ⟨rfl, S, n, hk⟩
    · obtain ⟨its, _, pl, _⟩ := I.list hq
      refine ⟨pl.isList.typeIs, fun a e => ?_⟩
      cases e
      obtain ⟨o, n, e, c, hd, _⟩ := pl
      exact ⟨o, e, hd⟩
    · refine ⟨⟨o, I.kIn p o hk, hc⟩, fun a e => ?_⟩
      cases e
      exact ⟨o, I.kIn _ o hk, hd⟩
    · have z : ∃ o, s.heap.get? p = some o ∧ o.ExactDict := by
        rcases hk with ⟨kvs, hk⟩ | ⟨kvs, hk⟩
        · obtain ⟨_, _, _, _, o, _, _, e, ex, _⟩ := I.hok p _ hk
          exact ⟨o, e, ex⟩
        · obtain ⟨_, _, _, _, o, _, _, e, ex, _⟩ := I.hok p _ hk
          exact ⟨o, e, ex⟩
      obtain ⟨o, e, ex⟩ := z
      refine ⟨⟨o, e, ex.1⟩, fun a e2 => ?_⟩
      cases e2
      exact ⟨o, e, ex.2.1⟩
    · obtain ⟨o, _, _, _, e, ex, _⟩ := I.hok p _ hk
      refine ⟨⟨o, e, ex.1⟩, fun a e2 => ?_⟩
      cases e2
      exact ⟨o, e, ex.2.1⟩
  | _ => exact False.elim ty
def tBM0 (K : PySem.W.Frag) (T : String) (r : V → List V → Hp → VK → Prop) (to : TE) : TE := fun σ H Q => to σ H fun x H1 => tyV K T x H1 ∧ r x [] H1 Q
def tBM (K : PySem.W.Frag) (T : String) (r : V → List V → Hp → VK → Prop) (to : TE) (t : TA) : TE := fun σ H Q => to σ H fun x H1 => tyV K T x H1 ∧ t σ H1 fun xs H2 => r x xs H2 Q
variable {o e : Expr} {es : List Expr} {to : TE} {t : TA} {name : Str} {apos cpos : Pos} {T id : String} {r : V → List V → Hp → VK → Prop}
theorem pe_bm (pa : PlainAttrs T) (slot : Slot T name id) (hty : typeOf (.builtin id) = pure (.type "method_descriptor")) (hm : MtR X id r) (ho : PE X o to) (ha : PA X (e :: es) t)
    (hbase : attributeBase o name X.env (eval o X.env) = eval o X.env := by rfl)
    (hfew : ((backTo cpos (starEach (e :: es) X.env)).all (fun x => !x.1) && (backToKw cpos (keywordEach [] X.env)).all (fun x => x.1.isSome)
      && decide ((e :: es).length + ([] : List Keyword).length + (if ([] : List Keyword).isEmpty then 0 else 1) < 30)) = true := by rfl)
    (hline : (apos.endLine == cpos.line) = true := by rfl) (hs : starEach (e :: es) X.env = (false, eval e X.env) :: starEach es X.env := by rfl) (hplain : (backTo cpos (starEach es X.env)).any (·.1) = false := by rfl) :
    PE X (.Call (.Attribute o name apos) (e :: es) [] cpos) (tBM X.K T r to t) := by
  intro pins s σ H Q I h
  refine wpAny_Call_method_late hbase hfew hline rfl (thn (ho pins s σ H _ I h) fun v s1 ⟨x, H1, I1, r1, ty, q1⟩ => ?_)
  obtain ⟨h1, h2⟩ := tyV_is I1 r1 ty
  refine ⟨T, id, pa, slot, hty, h1, h2, ?_⟩
  have hA := ha cpos pins s1 σ H1 _ I1 q1
  rw [hs] at hA ⊢
  refine Calls.callWith_builtin (by show (false || (backTo cpos (starEach es X.env)).any (·.1)) = false; rw [hplain] <;> rfl) (Calls.evalArgs_plain ?_)
  exact thn hA fun us s2 ⟨vs, H2, I2, r2, q2⟩ => hm pins s2 σ H2 x vs v us Q I2 r1 r2 q2
end
end L2
namespace L2
open PySem PySem.Spec PyProof.Rows
def MtM (X : Cx) (id : String) (r : V → List V → Hp → VK → Prop) : Prop :=
  ∀ (pins : List (Addr × Obj)) (s : Shared) (σ : St) (H : Hp) (x : V) (xs : List V) (v : Value) (us : List Value) (Q : VK), Inv X pins σ H s → RelV x v → Vals xs us → r x xs H Q →
    wpAny (model X.prog X.w) X.A (call (.builtin id) (v :: us)) (EP X pins σ Q) X.xe s
theorem Vals.one : ∀ {x : V} {us : List Value}, Vals [x] us → ∃ u, us = [u] ∧ RelV x u
  | _, _, .cons r .nil => ⟨_, rfl, r⟩
section
variable {X : Cx} {pins : List (Addr × Obj)} {σ : St} {H : Hp} {s : Shared} {l b : Addr} {xs ys zs : List V}
theorem Inv.lset {its its' : List Value} {n : Nat} {f : Array Value → Array Value} {t' : Nat} (I : Inv X pins σ H s) (hH : H l = some (.lst xs))
    (e : s.heap.get? l = some { cls := .type "list", data := .seq its.toArray n }) (hf : f its.toArray = its'.toArray) (hv : Vals ys its') (hz : ys.length ≤ sizeLine) :
    Inv X pins σ (upd H l (.lst ys)) { s with heap := s.heap.update l (Obj.mapSeq f), toks := t' } := by
  have q := PySem.IsL.update e f
  rw [hf] at q
  refine I.write (x := l) (e := l) (by rw [hH]; exact trivial) (.inl rfl) (fun b' u hb hu => (Heap.get?_update_other s.heap (Obj.mapSeq f) (Ne.symm hb)).trans hu) ⟨_, q⟩ ?_
  exact ⟨hz, its', _, hv, q⟩
theorem Inv.lnew {its : List Value} {t' : Nat} (I : Inv X pins σ H s) (hv : Vals ys its) (hz : ys.length ≤ sizeLine) :
    Inv X pins σ (upd H s.heap.objs.size (.lst ys)) { s with heap := s.heap.push { cls := .type "list", data := .seq its.toArray }, toks := t' } :=
  I.laid (fun _ _ q => Heap.get?_push_of_some _ q) (Nat.le_refl _) ⟨hz, its, 0, hv, Heap.get?_push_size _ rfl⟩
theorem Inv.fresh (I : Inv X pins σ H s) : H s.heap.objs.size = none := I.hok.fresh (Nat.le_refl _)
theorem Inv.lstM (I : Inv X pins σ H s) (hH : H l = some (.lst xs)) : xs.length ≤ sizeLine ∧ ∃ (its : List Value) (n : Nat), Vals xs its ∧ xs.length = its.length ∧ s.heap.get? l = some { cls := .type "list", data := .seq its.toArray n } := by
  obtain ⟨z, its, n, r, e⟩ := I.hok l _ hH
  exact ⟨z, its, n, r, r.length, e⟩
end
section
variable {X : Cx}
def rAppend : V → List V → Hp → VK → Prop := fun x vs H Q => ∃ l xs y, x = .ref l ∧ vs = [y] ∧ H l = some (.lst xs) ∧ xs.length < sizeLine ∧ Q .non (upd H l (.lst (xs ++ [y])))
theorem mt_append : MtM X "list.append" rAppend := by
  intro pins s σ H x vs v us Q I rx rv h
  obtain ⟨l, xs, y, rfl, rfl, hH, hz, q⟩ := h
  cases rx
  obtain ⟨u, rfl, ru⟩ := rv.one
  obtain ⟨z, its, n, r, hl, e⟩ := I.lstM hH
  refine call_meets F.slot_list_append ⟨_, e, rfl⟩ F.entry_list_append (F.args_list_append_2 _ _) (PySem.list_append l its.toArray n u (by rw [List.size_toArray]; omega)) ⟨e, ?_⟩
  refine ⟨.non, _, I.lset (its' := its ++ [u]) hH e (by simp) (r.append (.cons ru .nil)) ?_, rfl, q⟩
  rw [List.length_append, List.length_singleton]
  omega
def rExtend : V → List V → Hp → VK → Prop := fun x vs H Q => ∃ l b xs zs, x = .ref l ∧ vs = [.ref b] ∧ H l = some (.lst xs) ∧ H b = some (.lst zs) ∧ xs.length + zs.length ≤ sizeLine ∧ Q .non (upd H l (.lst (xs ++ zs)))
def rPop : V → List V → Hp → VK → Prop := fun x vs H Q => ∃ l xs y, x = .ref l ∧ vs = [] ∧ H l = some (.lst xs) ∧ xs[xs.length - 1]? = some y ∧ Q y (upd H l (.lst xs.dropLast))
def rPopAt : V → List V → Hp → VK → Prop := fun x vs H Q => ∃ l xs i k y, x = .ref l ∧ vs = [.int i] ∧ H l = some (.lst xs) ∧ -(2 ^ 63) ≤ i ∧ i < 2 ^ 63 ∧ seqIndex? i xs.length = some k ∧ xs[k]? = some y ∧ Q y (upd H l (.lst (xs.eraseIdx k)))
def rReverse : V → List V → Hp → VK → Prop := fun x vs H Q => ∃ l xs, x = .ref l ∧ vs = [] ∧ H l = some (.lst xs) ∧ Q .non (upd H l (.lst xs.reverse))
def rClear : V → List V → Hp → VK → Prop := fun x vs H Q => ∃ l xs, x = .ref l ∧ vs = [] ∧ H l = some (.lst xs) ∧ Q .non (upd H l (.lst []))
def rCat : R2 := fun x y H Q => ∃ l b xs zs, x = .ref l ∧ y = .ref b ∧ H l = some (.lst xs) ∧ H b = some (.lst zs) ∧ xs.length + zs.length ≤ sizeLine ∧ ∀ p, H p = none → Q (.ref p) (upd H p (.lst (xs ++ zs)))
def rRep : R2 := fun x y H Q => ∃ l k xs, x = .ref l ∧ y = .int k ∧ H l = some (.lst xs) ∧ -(2 ^ 63) ≤ k ∧ k < 2 ^ 63 ∧ xs.length * k.toNat ≤ sizeLine ∧
  ∀ p, H p = none → Q (.ref p) (upd H p (.lst (List.replicate k.toNat xs).flatten))
end
section
variable {prog : Program} {w : World} {A : Around} {E : Value → Shared → Prop} {s : Shared}
end
section
variable {X : Cx}
end
end L2
namespace L2
open PySem PySem.Spec PyProof.Rows
theorem Vals.bls : ∀ {bs : List Bool} {us : List Value}, Vals (bs.map V.bl) us → us = bs.map Value.bool
  | [], us, h => by
    rw [List.map_nil] at h
    cases h
    rfl
  | b :: bs, us, h => by
    rw [List.map_cons] at h
    cases h with
    | cons r t =>
      cases r
      rw [Vals.bls t, List.map_cons]
theorem Vals.ref1 {a : Addr} {us : List Value} (r : Vals [V.ref a] us) : us = [Value.ref a] := by
  cases r with
  | cons r t =>
    cases t
    cases r
    rfl
section
variable {prog : Program} {w : World} {A : Around} {E : Value → Shared → Prop} {s : Shared} {l : Addr} {its : List Value} {ns : List Int} {Q : Value → Shared → Prop}
end
section
variable {X : Cx}
def rSum (K : PySem.W.Frag) : List V → Hp → VK → Prop := fun vs H Q => ∃ (a : Addr) (ns : List Int), vs = [V.ref a] ∧ SqL K H a (ns.map V.int) ∧ Q (.int ns.sum) H
def rMax (K : PySem.W.Frag) : List V → Hp → VK → Prop := fun vs H Q => ∃ (a : Addr) (ns : List Int), vs = [V.ref a] ∧ SqL K H a (ns.map V.int) ∧ 0 < ns.length ∧ ∀ m, m ∈ ns → (∀ y, y ∈ ns → y ≤ m) → Q (.int m) H
def rMin (K : PySem.W.Frag) : List V → Hp → VK → Prop := fun vs H Q => ∃ (a : Addr) (ns : List Int), vs = [V.ref a] ∧ SqL K H a (ns.map V.int) ∧ 0 < ns.length ∧ ∀ m, m ∈ ns → (∀ y, y ∈ ns → m ≤ y) → Q (.int m) H
def rSorted (K : PySem.W.Frag) : List V → Hp → VK → Prop := fun vs H Q => ∃ (a : Addr) (ns : List Int), vs = [V.ref a] ∧ SqL K H a (ns.map V.int) ∧ ns.length < 64 ∧
  ∀ (ns' : List Int) (p : Addr), ns'.Perm ns → ns'.Pairwise (· ≤ ·) → H p = none → Q (.ref p) (upd H p (.lst (ns'.map V.int)))
def rSortedS (K : PySem.W.Frag) : List V → Hp → VK → Prop := fun vs H Q => ∃ (a : Addr) (xs : List Str), vs = [V.ref a] ∧ SqL K H a (xs.map V.str) ∧ xs.length < 64 ∧
  ∀ (ys : List Str) (p : Addr), ys.Perm xs → sortedS ys = true → H p = none → Q (.ref p) (upd H p (.lst (ys.map V.str)))
def rSort : V → List V → Hp → VK → Prop := fun x xs H Q => ∃ (a : Addr) (ns : List Int), x = V.ref a ∧ xs = [] ∧ H a = some (.lst (ns.map V.int)) ∧ ns.length < 64 ∧
  ∀ ns' : List Int, ns'.Perm ns → ns'.Pairwise (· ≤ ·) → Q .non (upd H a (.lst (ns'.map V.int)))
end
section
variable {X : Cx}
def rIndex (K : PySem.W.Frag) : V → List V → Hp → VK → Prop := fun x xs H Q => ∃ (a : Addr) (ys : List V) (y : V) (j : Nat) (z : V), x = V.ref a ∧ xs = [y] ∧ SqL K H a ys ∧ flatV y = true ∧ ys.all flatV = true ∧ ys[j]? = some z ∧ eqV z y = true ∧
  (∀ (m : Nat) (z' : V), m < j → ys[m]? = some z' → eqV z' y = false) ∧ Q (.int (j : Nat)) H
theorem flat_at {ys : List V} (f : ys.all flatV = true) {j : Nat} {z : V} (h : ys[j]? = some z) : flatV z = true := List.all_eq_true.mp f z (List.mem_of_getElem? h)
theorem mt_index : MtR X "list.index" (rIndex X.K) := by
  intro pins s σ H x xs v us Q I rx rxs h
  obtain ⟨a, ys, y, j, z, rfl, rfl, hs, fy, fys, hz, hzj, hno, q⟩ := h
  cases rx
  cases rxs with
  | cons ry rt =>
    rename_i uy ut
    cases rt
    obtain ⟨its, rv, ⟨⟨cls, dd, data, sl⟩, n, ho, hc, hdn, hd⟩, hlen⟩ := I.list hs
    simp only at hc hd
    subst hc hd
    obtain ⟨u, hu, ru⟩ := rv.get hz
    obtain ⟨hjl, hje⟩ := List.getElem?_eq_some_iff.mp hu
    have hvl := rv.length
    have hj : j < its.toArray.size := by simpa using hjl
    have hsl := sizeLine_eq
    refine call_meets PySem.F.slot_list_index ⟨_, ho, rfl⟩ PySem.F.entry_list_index (PySem.F.args_list_index_2 _ _)
      (SeqAt.list_indexAt a its.toArray n dd sl uy (eqU y) j hj (by omega) ?_ ?_) ⟨ho, fun u' hu' => mem_eqAt ry fy rv fys u' (by simpa using hu'), ?_⟩
    · have e1 : its.toArray[j] = u := by simpa using hje
      rw [e1, eqU_of ru (flat_at fys hz)]
      exact hzj
    · intro m hm hmj
      have hml : m < its.length := by simpa using hm
      have hmy : m < ys.length := by omega
      have hy' : ys[m]? = some ys[m] := List.getElem?_eq_getElem hmy
      obtain ⟨u2, hu2, ru2⟩ := rv.get hy'
      obtain ⟨_, hme⟩ := List.getElem?_eq_some_iff.mp hu2
      have e1 : its.toArray[m] = u2 := by simpa using hme
      rw [e1, eqU_of ru2 (flat_at fys hy')]
      exact hno m _ hmj hy'
    · exact ⟨.int (j : Nat), H, I.tok _, ⟨_, rfl⟩, q⟩
end
section
variable {X : Cx}
end
theorem iter_any {prog : Program} {w : World} {A : Around} {E : Value → Shared → Prop} {s : Shared} {l : Addr} {items : Array Value} {Q : Value → Shared → Prop} (hl : s.heap.IsList l items)
    (h : ∀ s₂ : Shared, s₂ = { s with heap := s.heap.push { cls := .type "list_iterator", data := .fields #[.ref l, .int 0 0] } } →
      (s₂.heap.IsListIter s.heap.objs.size l 0 ∧ s₂.heap.IsList l items) → l ≠ s.heap.objs.size → Q (.ref s.heap.objs.size) s₂) : wpAny (model prog w) A (pyIter (.ref l)) Q E s := by
  have hlt : l < s.heap.objs.size := by obtain ⟨_, e, _⟩ := hl; exact Heap.lt_size e
  exact wpAny_pyIter_list hl (h _ rfl ⟨⟨_, Heap.get?_push_size _ rfl, rfl, rfl⟩, hl.push _⟩ (Nat.ne_of_lt hlt))
theorem truth_bools {prog : Program} {w : World} {A : Around} {bs : List Bool} {its : List Value} (e : its = bs.map Value.bool) :
    TruthOf prog w A (fun i v => its.toArray[i]? = some v) (fun i => bs.getD i false) := fun i v s Q E hv hq => by
  have hv' : its[i]? = some v := by simpa using hv
  rw [e, List.getElem?_map] at hv'
  obtain ⟨b, hb, rfl⟩ := Option.map_eq_some_iff.mp hv'
  have hg : bs.getD i false = b := by rw [List.getD_eq_getElem?_getD, hb] <;> rfl
  have hq' : Q (bs.getD i false) s := hq
  rw [hg] at hq'
  exact wpAny_truthy_bool hq'
theorem all_range : ∀ bs : List Bool, (List.range bs.length).all (fun i => bs.getD i false) = bs.all id
  | [] => rfl
  | b :: bs => by
    rw [List.length_cons, List.range_succ_eq_map, List.all_cons, List.all_map, List.all_cons, ← all_range bs]
    all_goals rfl
section
variable {X : Cx}
def rAny (K : PySem.W.Frag) : List V → Hp → VK → Prop := fun vs H Q => ∃ (a : Addr) (bs : List Bool), vs = [V.ref a] ∧ SqL K H a (bs.map V.bl) ∧ Q (.bl (bs.any id)) H
def rAll (K : PySem.W.Frag) : List V → Hp → VK → Prop := fun vs H Q => ∃ (a : Addr) (bs : List Bool), vs = [V.ref a] ∧ SqL K H a (bs.map V.bl) ∧ Q (.bl (bs.all id)) H
theorem cr_all (hc : X.calm = true) : CallR X (.builtin "all") (rAll X.K) := by
  intro pins s σ H vs us Q I r h
  obtain ⟨a, bs, rfl, hs, q⟩ := h
  obtain ⟨its, rv, hl, _⟩ := I.list hs
  rw [Vals.ref1 r]
  have hb := rv.bls
  refine call_all_walk (iter_any hl.isList fun s₂ e2 st hne => ?_)
  subst e2
  refine ⟨_, _, _, _, _, _, _, rfl, Walks.list (A := X.A.in1) (I.ok.hd hc) _ a hne its.toArray, st, truth_bools hb, fun h' tk hk => ?_⟩
  refine ⟨.bl _, H, I.kept fun b o eo => hk b o (fun hmem => ?_) (Heap.get?_push_of_some _ eo), ?_, q⟩
  · rcases List.mem_cons.mp hmem with e1 | hmem
    · exact absurd (e1 ▸ Heap.lt_size eo) (Nat.lt_irrefl _)
    · cases hmem
  · show Value.bool _ = Value.bool _
    rw [← all_range, hb, List.size_toArray, List.length_map]
end
mutual
inductive Dp (K : PySem.W.Frag) (H : Hp) : V → PyData → Prop
  | non : Dp K H .non .none
  | bl (b : Bool) : Dp K H (.bl b) (.bool b)
  | int (i : Int) : Dp K H (.int i) (.int i)
  | str (x : Str) : Dp K H (.str x) (.str x)
  | lst {a : Addr} {xs : List V} {ds : List PyData} : SqL K H a xs → DpAll K H xs ds → Dp K H (.ref a) (.list ds)
  | tup {a : Addr} {xs : List V} {ds : List PyData} : SqT K H a xs → DpAll K H xs ds → Dp K H (.ref a) (.tuple ds)
inductive DpAll (K : PySem.W.Frag) (H : Hp) : List V → List PyData → Prop
  | nil : DpAll K H [] []
  | cons {v : V} {vs : List V} {d : PyData} {ds : List PyData} : Dp K H v d → DpAll K H vs ds → DpAll K H (v :: vs) (d :: ds)
end
section
variable {X : Cx} {pins : List (Addr × Obj)} {σ : St} {H : Hp} {s : Shared}
mutual
theorem Dp.reads (I : Inv X pins σ H s) : ∀ (d : PyData) (v : V) (u : Value), Dp X.K H v d → RelV v u → ∃ as, Reads s.heap u d as
  | .none, _, _, h, r => by
    cases h
    cases r
    exact ⟨_, Reads.none⟩
  | .bool b, _, _, h, r => by
    cases h
    cases r
    exact ⟨_, Reads.bool b⟩
  | .int i, _, _, h, r => by
    cases h
    obtain ⟨t, rfl⟩ := r
    exact ⟨_, Reads.int i t⟩
  | .str x, _, _, h, r => by
    cases h
    obtain ⟨t, rfl⟩ := r
    exact ⟨_, Reads.str x t⟩
  | .list ds, _, _, h, r => by
    cases h with
    | lst hs ha =>
      cases r
      obtain ⟨its, rv, ⟨o, n, ho, hc, _, hd⟩, _⟩ := I.list hs
      obtain ⟨as, hr⟩ := Dp.readsAll I ds _ its ha rv
      exact ⟨_, Reads.list ho hc hd hr⟩
  | .tuple ds, _, _, h, r => by
    cases h with
    | tup hs ha =>
      cases r
      obtain ⟨its, rv, ⟨o, ho, hc, n, hd⟩, _⟩ := I.tuple hs
      obtain ⟨as, hr⟩ := Dp.readsAll I ds _ its ha rv
      exact ⟨_, Reads.tuple ho hc hd hr⟩
  | .dict _, _, _, h, _ => by cases h
theorem Dp.readsAll (I : Inv X pins σ H s) : ∀ (ds : List PyData) (vs : List V) (us : List Value), DpAll X.K H vs ds → Vals vs us → ∃ as, ReadsAll s.heap us ds as
  | [], _, _, h, r => by
    cases h
    cases r
    exact ⟨_, ReadsAll.nil⟩
  | d :: ds, _, _, h, r => by
    cases h with
    | cons h1 h2 =>
      cases r with
      | cons r1 r2 =>
        obtain ⟨as, q1⟩ := Dp.reads I d _ _ h1 r1
        obtain ⟨bs, q2⟩ := Dp.readsAll I ds _ _ h2 r2
        exact ⟨_, ReadsAll.cons q1 q2⟩
end
end
section
variable {X : Cx}
def rEqD (K : PySem.W.Frag) : R2 := fun x y H Q => ∃ d e, Dp K H x d ∧ Dp K H y e ∧ SeqAt.shaped d = true ∧ SeqAt.shaped e = true ∧ Q (.bl (PyData.eqv d e)) H
def rNeD (K : PySem.W.Frag) : R2 := fun x y H Q => ∃ d e, Dp K H x d ∧ Dp K H y e ∧ SeqAt.shaped d = true ∧ SeqAt.shaped e = true ∧ Q (.bl (!PyData.eqv d e)) H
theorem op_eqD (hu : X.A.units + 64 < cLine) : OpR X (compareOp .Eq) (rEqD X.K) := by
  intro pins s σ H x y v u Q I rx ry h
  obtain ⟨d, e, hd, he, sd, se, q⟩ := h
  obtain ⟨as, r1⟩ := Dp.reads I d x v hd rx
  obtain ⟨bs, r2⟩ := Dp.reads I e y u he ry
  exact SeqAt.compareEq_shaped r1 r2 sd se hu ⟨.bl _, H, I, rfl, q⟩
theorem op_neD (hu : X.A.units + 64 < cLine) : OpR X (compareOp .NotEq) (rNeD X.K) := by
  intro pins s σ H x y v u Q I rx ry h
  obtain ⟨d, e, hd, he, sd, se, q⟩ := h
  obtain ⟨as, r1⟩ := Dp.reads I d x v hd rx
  obtain ⟨bs, r2⟩ := Dp.reads I e y u he ry
  exact SeqAt.compareNe_shaped r1 r2 sd se hu ⟨.bl _, H, I, rfl, q⟩
end
end L2
namespace L2
open PySem PySem.Spec PyProof.Rows
abbrev CellAt (h : Heap) (c : Addr) (v : Option Value) : Prop := h.IsCell c v
def relS (scope sc : Scope) : Scope :=
  { scope with names := scope.names.map fun (n, k) => if (k == .free && sc.kind == .function && sc.names.lookup n == some .cell) then (n, .cell) else (n, k) }
def cloFrom (cells : List (Str × Addr)) : List (Str × NameKind) → List (Str × Addr) → List (Str × Addr)
  | [], acc => acc
  | (n, k) :: r, acc => if k == .free then cloFrom cells r ((n, (cells.lookup n).getD 0) :: acc) else cloFrom cells r acc
theorem closure_loop (env : Env) (f : Str × NameKind → List (Str × Addr) → Sem (ForInStep (List (Str × Addr))))
    (hf : ∀ n k c, f (n, k) c = if k == .free then (do let a ← cellOf env n; pure (.yield ((n, a) :: c))) else pure (.yield c)) :
    ∀ (names : List (Str × NameKind)) (acc : List (Str × Addr)), (∀ y ∈ names, y.2 = .free → ∃ c, env.cells.lookup y.1 = some c) → forIn names acc f = pure (cloFrom env.cells names acc)
  | [], acc, _ => by rw [List.forIn_nil]; rfl
  | (n, k) :: r, acc, h => by
    rw [List.forIn_cons, hf]
    have ih := fun acc => closure_loop env f hf r acc fun y hy => h y (List.mem_cons_of_mem _ hy)
    unfold cloFrom
    by_cases hk : (k == NameKind.free) = true
    · rw [if_pos hk, if_pos hk]
      obtain ⟨c, hc⟩ := h (n, k) List.mem_cons_self (by simpa using hk)
      have e : cellOf env n = pure c := by unfold cellOf; rw [hc]
      rw [e]
      have e2 : (env.cells.lookup n).getD 0 = c := by rw [hc]; rfl
      rw [e2]
      exact ih _
    · rw [if_neg hk, if_neg hk]
      exact ih _
theorem closure_ok {scope : Scope} {env : Env} (h : ∀ y ∈ scope.names, y.2 = .free → ∃ c, env.cells.lookup y.1 = some c) : closureFor scope env = pure (cloFrom env.cells scope.names []) := by
  simp only [closureFor]
  rw [closure_loop env _ (fun n k c => rfl) scope.names [] h]
  rfl
theorem mem_lookup {α : Type} : ∀ {l : List (Str × α)} {n : Str} {c : α}, (n, c) ∈ l → ∃ c', l.lookup n = some c'
  | (k, v) :: r, n, c, h => by
    rw [List.lookup_cons]
    cases hb : n == k with
    | true => exact ⟨_, rfl⟩
    | false =>
      rcases List.mem_cons.mp h with e | h
      · cases e; simp at hb
      · exact mem_lookup h
theorem cloFrom_mem {cells : List (Str × Addr)} : ∀ {names : List (Str × NameKind)} {acc : List (Str × Addr)} {n : Str} {c : Addr}, (n, c) ∈ cloFrom cells names acc → (n, c) ∈ acc ∨ ((n, .free) ∈ names ∧ c = (cells.lookup n).getD 0)
  | [], _, _, _, h => .inl h
  | (m, k) :: r, acc, n, c, h => by
    unfold cloFrom at h
    split at h
    · rename_i hk
      have hk : k = .free := by simpa using hk
      rcases cloFrom_mem h with h | ⟨h1, h2⟩
      · rcases List.mem_cons.mp h with e | h
        · cases e; exact .inr ⟨hk ▸ List.mem_cons_self, rfl⟩
        · exact .inl h
      · exact .inr ⟨List.mem_cons_of_mem _ h1, h2⟩
    · rcases cloFrom_mem h with h | ⟨h1, h2⟩
      · exact .inl h
      · exact .inr ⟨List.mem_cons_of_mem _ h1, h2⟩
theorem cloFrom_acc {cells : List (Str × Addr)} : ∀ {names : List (Str × NameKind)} {acc : List (Str × Addr)} {p : Str × Addr}, p ∈ acc → p ∈ cloFrom cells names acc
  | [], _, _, h => h
  | (m, k) :: r, acc, p, h => by
    unfold cloFrom
    split
    · exact cloFrom_acc (List.mem_cons_of_mem _ h)
    · exact cloFrom_acc h
theorem cloFrom_has {cells : List (Str × Addr)} : ∀ {names : List (Str × NameKind)} {acc : List (Str × Addr)} {n : Str}, (n, .free) ∈ names → (n, (cells.lookup n).getD 0) ∈ cloFrom cells names acc
  | (m, k) :: r, acc, n, h => by
    unfold cloFrom
    rcases List.mem_cons.mp h with e | h
    · cases e
      exact cloFrom_acc List.mem_cons_self
    · split
      · exact cloFrom_has h
      · exact cloFrom_has h
theorem cells_mem : ∀ {names : List (Str × NameKind)} {h : Heap} {acc : List (Str × Addr)} {x : Str} {c : Addr}, (x, c) ∈ cellsFrom h.objs.size names acc →
    (x, c) ∈ acc ∨ ((x, .cell) ∈ names ∧ h.objs.size ≤ c ∧ CellAt (pushCells h names) c none)
  | [], _, _, _, _, h => .inl h
  | (n, k) :: r, h, acc, x, c, hm => by
    unfold cellsFrom at hm
    unfold pushCells
    split at hm
    · rename_i hk
      rw [if_pos hk]
      have hk : k = .cell := by simpa using hk
      rw [← Heap.size_push h { cls := .type "cell", data := .cell none }] at hm
      rcases cells_mem hm with hm | ⟨h1, h2, h3⟩
      · rcases List.mem_cons.mp hm with e | hm
        · cases e
          exact .inr ⟨hk ▸ List.mem_cons_self, Nat.le_refl _, _, pushCells_keeps r _ _ _ (Heap.get?_push_size _ rfl), rfl⟩
        · exact .inl hm
      · rw [Heap.size_push] at h2
        exact .inr ⟨List.mem_cons_of_mem _ h1, Nat.le_of_succ_le h2, h3⟩
    · rename_i hk
      rw [if_neg hk]
      rcases cells_mem hm with hm | ⟨h1, h2, h3⟩
      · exact .inl hm
      · exact .inr ⟨List.mem_cons_of_mem _ h1, h2, h3⟩
theorem cells_acc : ∀ {names : List (Str × NameKind)} {n : Nat} {acc : List (Str × Addr)} {p : Str × Addr}, p ∈ acc → p ∈ cellsFrom n names acc
  | [], _, _, _, h => h
  | (m, k) :: r, n, acc, p, h => by
    unfold cellsFrom
    split
    · exact cells_acc (List.mem_cons_of_mem _ h)
    · exact cells_acc h
theorem cells_has : ∀ {names : List (Str × NameKind)} {n : Nat} {acc : List (Str × Addr)} {x : Str}, (x, .cell) ∈ names → ∃ c, (x, c) ∈ cellsFrom n names acc
  | (m, k) :: r, n, acc, x, h => by
    unfold cellsFrom
    rcases List.mem_cons.mp h with e | h
    · cases e
      exact ⟨n, cells_acc List.mem_cons_self⟩
    · split
      · exact cells_has h
      · exact cells_has h
theorem cells_inj : ∀ {names : List (Str × NameKind)} {h : Heap} {acc : List (Str × Addr)} {x y : Str} {c : Addr}, (∀ p ∈ acc, p.2 < h.objs.size) → (∀ x y c, (x, c) ∈ acc → (y, c) ∈ acc → x = y) →
    (x, c) ∈ cellsFrom h.objs.size names acc → (y, c) ∈ cellsFrom h.objs.size names acc → x = y
  | [], _, _, _, _, _, _, hi, h1, h2 => hi _ _ _ h1 h2
  | (n, k) :: r, h, acc, x, y, c, hl, hi, h1, h2 => by
    unfold cellsFrom at h1 h2
    split at h1
    · rename_i hk
      rw [if_pos hk] at h2
      rw [← Heap.size_push h { cls := .type "cell", data := .cell none }] at h1 h2
      refine cells_inj (h := h.push _) (fun p hp => ?_) (fun x y c a b => ?_) h1 h2
      · rw [Heap.size_push]
        rcases List.mem_cons.mp hp with rfl | hp
        · exact Nat.lt_succ_self _
        · exact Nat.lt_succ_of_lt (hl p hp)
      · rcases List.mem_cons.mp a with e | a <;> rcases List.mem_cons.mp b with e' | b
        · cases e; cases e'; rfl
        · cases e; exact absurd (hl _ b) (Nat.lt_irrefl _)
        · cases e'; exact absurd (hl _ a) (Nat.lt_irrefl _)
        · exact hi _ _ _ a b
    · rename_i hk
      rw [if_neg hk] at h2
      exact cells_inj hl hi h1 h2
theorem newEnv_comp {M : Model} {A : Around} {E : Value → Shared → Prop} {s : Shared} {scope : Scope} {globals : Addr} {closure : List (Str × Addr)} {qual : Str} {func : Option Addr} {code : Value} {around : Env} {builtins : Addr} {Q : Env → Shared → Prop}
    (h : Q (newEnv scope s.heap.objs.size globals (cellsFrom (s.heap.objs.size + 1) scope.names closure) qual func code (some around) builtins)
      { s with heap := pushCells (s.heap.push { cls := .type "dict", data := .dict #[] }) scope.names }) :
    wpAny M A (newFunctionEnv scope globals closure [] qual func code (some around) builtins) Q E s := by
  simp only [newFunctionEnv, Option.isSome_some, if_true]
  refine wpAny_bind (wpAny_alloc ?_)
  refine wpAny_bind (wpAny_layCells _ (fun n k c => rfl) scope.names closure _ _ ?_)
  rw [show ({ s with heap := s.heap.push { cls := .type "dict", data := .dict #[] } } : Shared).heap.objs.size = s.heap.objs.size + 1 from Heap.size_push ..]
  rw [List.forIn_nil]
  exact wpAny_bind (wpAny_pure (wpAny_pure h))
theorem lookup_relS {sc : Scope} : ∀ {names : List (Str × NameKind)} {x : Str} {k : NameKind},
    (names.map fun (n, k) => if (k == NameKind.free && sc.kind == .function && sc.names.lookup n == some .cell) then (n, NameKind.cell) else (n, k)).lookup x = some k →
    ∃ k', names.lookup x = some k' ∧ (k = k' ∨ (k' = .free ∧ k = .cell))
  | [], _, _, h => by simp at h
  | (n, k₀) :: r, x, k, h => by
    have ih := @lookup_relS sc r x k
    have h' : List.lookup x ((if (k₀ == NameKind.free && sc.kind == .function && sc.names.lookup n == some .cell) = true then (n, NameKind.cell) else (n, k₀)) :: (r.map _)) = some k := h
    cases hx : x == n with
    | true =>
      simp only [List.lookup_cons, hx]
      by_cases hc : (k₀ == NameKind.free && sc.kind == .function && sc.names.lookup n == some .cell) = true
      · rw [if_pos hc] at h'
        simp only [List.lookup_cons, hx] at h'
        cases h'
        simp only [Bool.and_eq_true, beq_iff_eq] at hc
        exact ⟨k₀, rfl, .inr ⟨hc.1.1, rfl⟩⟩
      · rw [if_neg hc] at h'
        simp only [List.lookup_cons, hx] at h'
        cases h'
        exact ⟨_, rfl, .inl rfl⟩
    | false =>
      simp only [List.lookup_cons, hx]
      by_cases hc : (k₀ == NameKind.free && sc.kind == .function && sc.names.lookup n == some .cell) = true
      · rw [if_pos hc] at h'
        simp only [List.lookup_cons, hx] at h'
        exact ih h'
      · rw [if_neg hc] at h'
        simp only [List.lookup_cons, hx] at h'
        exact ih h'
structure BlkOk (N : List Str) (sc scope : Scope) (own : List (Str × Nat)) : Prop where
  kind : scope.kind = .function
  uniq : ∀ y ∈ scope.names, scope.names.lookup y.1 = some y.2
  ix : ∀ p ∈ own, N[p.2]? = some p.1
  free : ∀ y ∈ scope.names, y.2 = .free → sc.names.lookup y.1 = some .cell ∨ sc.names.lookup y.1 = some .free
  own : ∀ y ∈ scope.names, y.2 = .local ∨ y.2 = .cell → y.1 ∈ own.map (·.1) ∨ y.1 ∉ N
def wipe (σ : St) : List Nat → St
  | [] => σ
  | v :: vs => (wipe σ vs).set v none
theorem wipe_length (σ : St) : ∀ vs : List Nat, (wipe σ vs).length = σ.length
  | [] => rfl
  | v :: vs => by unfold wipe; rw [List.length_set, wipe_length σ vs]
theorem wipe_some {σ : St} {i : Nat} {x : V} : ∀ {vs : List Nat}, (wipe σ vs)[i]? = some (some x) → σ[i]? = some (some x) ∧ i ∉ vs
  | [], h => ⟨h, by simp⟩
  | v :: vs, h => by
    unfold wipe at h
    by_cases hi : v = i
    · subst hi
      by_cases hv : v < (wipe σ vs).length
      · rw [List.getElem?_set_self hv] at h; cases h
      · rw [List.getElem?_eq_none (by simpa using hv)] at h; cases h
    · rw [List.getElem?_set_ne hi] at h
      obtain ⟨h1, h2⟩ := wipe_some h
      exact ⟨h1, by simp only [List.mem_cons, not_or]; exact ⟨fun e => hi e.symm, h2⟩⟩
abbrev Cx.blk (X : Cx) (s : Shared) (H : Hp) (scope : Scope) (cenv : Env) (fp : List Addr) : Cx := { X with s_0 := s, H_0 := H, env := cenv, outer := X.stack, ex := fp, fn := fun x => scope.names.lookup x == some .cell, pn := [], xe := fun _ _ => False }
section
variable {X : Cx} {pins : List (Addr × Obj)} {σ : St} {H : Hp} {s : Shared}
theorem block_start {scope : Scope} {own : List (Str × Nat)} {fp : List Addr} (I : Inv X pins σ H s) (ok : BlkOk X.N X.env.scope scope own) (hN : X.N.Nodup) (hfp : ∀ b ∈ fp, FpOk X pins H b ∧ b < s.heap.objs.size) :
    Inv (X.blk s H scope (compEnvC scope (cellsFrom (s.heap.objs.size + 1) scope.names (cloFrom X.env.cells scope.names [])) s.heap.objs.size X.env) fp) [] (wipe σ (own.map (·.2))) H { s with heap := pushCells (s.heap.push { cls := .type "dict", data := .dict #[] }) scope.names } := by
  have hfree : ∀ y ∈ scope.names, y.2 = .free → ∃ c, X.env.cells.lookup y.1 = some c := fun y hy e => by
    rcases ok.free y hy e with k | k
    · exact I.ok.has _ (.inl k)
    · exact I.ok.has _ (.inr k)
  generalize hcenv : compEnvC scope (cellsFrom (s.heap.objs.size + 1) scope.names (cloFrom X.env.cells scope.names [])) s.heap.objs.size X.env = cenv
  have kp : ∀ b o, s.heap.get? b = some o → (pushCells (s.heap.push { cls := .type "dict", data := .dict #[] }) scope.names).get? b = some o := fun b o e => pushCells_keeps _ _ _ _ (Heap.get?_push_of_some _ e)
  have hL : cenv.locals = s.heap.objs.size := by rw [← hcenv]; rfl
  have hcl : cenv.cells = cellsFrom (s.heap.objs.size + 1) scope.names (cloFrom X.env.cells scope.names []) := by rw [← hcenv]; rfl
  have hsc : cenv.scope = relS scope X.env.scope := by rw [← hcenv]; rfl
  rw [← Heap.size_push s.heap { cls := .type "dict", data := .dict #[] }] at hcl
  have cm : ∀ {y c}, (y, c) ∈ cloFrom X.env.cells scope.names [] → X.env.cells.lookup y = some c ∧ c < s.heap.objs.size := fun {y c} hm => by
    rcases cloFrom_mem hm with hm | ⟨h1, rfl⟩
    · cases hm
    · obtain ⟨c, hc⟩ := hfree _ h1 rfl
      rw [hc]
      obtain ⟨w, z⟩ := I.cell _ _ hc
      exact ⟨rfl, z.lt⟩
  have mem : ∀ {y c}, cenv.cells.lookup y = some c → (X.env.cells.lookup y = some c ∧ c < s.heap.objs.size) ∨ (s.heap.objs.size + 1 ≤ c ∧ CellAt (pushCells (s.heap.push { cls := .type "dict", data := .dict #[] }) scope.names) c none) := fun {y c} e => by
    rw [hcl] at e
    rcases cells_mem (PySem.mem_of_lookup e) with hm | ⟨_, h2, h3⟩
    · exact .inl (cm hm)
    · rw [Heap.size_push] at h2; exact .inr ⟨h2, h3⟩
  have look : ∀ {y}, scope.names.lookup y = some .free → ∃ c, cenv.cells.lookup y = some c ∧ X.env.cells.lookup y = some c := fun {y} hl => by
    have hy : (y, NameKind.free) ∈ scope.names := PySem.mem_of_lookup hl
    obtain ⟨c', e'⟩ := mem_lookup (cells_acc (names := scope.names) (n := (s.heap.push { cls := .type "dict", data := .dict #[] }).objs.size) (cloFrom_has (cells := X.env.cells) (acc := []) hy))
    rw [← hcl] at e'
    refine ⟨c', e', ?_⟩
    rw [hcl] at e'
    rcases cells_mem (PySem.mem_of_lookup e') with hm | ⟨h1, _, _⟩
    · exact (cm hm).1
    · have := ok.uniq _ h1
      rw [hl] at this; cases this
  have okB : (X.blk s H scope cenv fp).Ok := by
    refine ⟨I.ok.mod, by show cenv.scope.kind = _; rw [hsc]; exact ok.kind, by show cenv.globals = _; rw [← hcenv]; exact I.ok.glob, by show cenv.builtins = _; rw [← hcenv]; exact I.ok.blt, by show s.heap.objs.size ≤ cenv.locals; rw [hL]; exact Nat.le_refl _,
      fun y z c e1 e2 => ?_, fun y hy => ?_, fun y c z e => ?_, I.ok.hd, I.ok.frames, .inl rfl, fun b hb => ⟨?_, fun y c e z => ?_⟩, I.bs, Nat.le_trans I.ok.bsz I.sz, fun b o e hb => ?_, fun b hb z => ?_, I.stack, I.stkFree⟩
    · have e1 : cenv.cells.lookup y = some c := e1
      have e2 : cenv.cells.lookup z = some c := e2
      rw [hcl] at e1 e2
      refine cells_inj (fun p hp => ?_) (fun y z c a b => I.ok.inj y z c (cm a).1 (cm b).1) (PySem.mem_of_lookup e1) (PySem.mem_of_lookup e2)
      rw [Heap.size_push]
      exact Nat.lt_succ_of_lt (cm (y := p.1) (c := p.2) hp).2
    · show ∃ c, cenv.cells.lookup y = some c
      have key : ∀ k, cenv.kindOf y = some k → (k = .cell ∨ k = .free) → ∃ c, cenv.cells.lookup y = some c := fun k hk hk' => by
        unfold Env.kindOf at hk
        rw [hsc] at hk
        obtain ⟨k', e, r⟩ := lookup_relS hk
        have : k' = .cell ∨ k' = .free := by
          rcases r with rfl | ⟨rfl, _⟩
          · exact hk'
          · exact .inr rfl
        rcases this with rfl | rfl
        · obtain ⟨c, hm⟩ := cells_has (n := (s.heap.push { cls := .type "dict", data := .dict #[] }).objs.size) (acc := cloFrom X.env.cells scope.names []) (PySem.mem_of_lookup e)
          obtain ⟨c', e'⟩ := mem_lookup hm
          exact ⟨c', by rw [hcl]; exact e'⟩
        · obtain ⟨c, h1, _⟩ := look e
          exact ⟨c, h1⟩
      rcases hy with hy | hy
      · exact key _ hy (.inl rfl)
      · exact key _ hy (.inr rfl)
    · have z : (scope.names.lookup y == some NameKind.cell) = true := z
      have z : scope.names.lookup y = some .cell := by simpa using z
      have e : cenv.cells.lookup y = some c := e
      rw [hcl] at e
      rcases cells_mem (PySem.mem_of_lookup e) with hm | ⟨_, h2, _⟩
      · rcases cloFrom_mem hm with hm | ⟨h1, _⟩
        · cases hm
        · have q := ok.uniq _ h1
          rw [z] at q; cases q
      · rw [Heap.size_push] at h2
        exact Nat.le_of_succ_le h2
    · show b ≠ cenv.locals
      rw [hL]; exact Nat.ne_of_lt (hfp b hb).2
    · have e : cenv.cells.lookup y = some c := e
      rcases mem e with ⟨h1, _⟩ | ⟨h1, _⟩
      · exact (hfp b hb).1.2.2.2.2.1 y c h1 z
      · have h2 : s.heap.objs.size + 1 ≤ b := by rw [← z]; exact h1
        exact absurd (Nat.lt_of_lt_of_le (hfp b hb).2 (Nat.le_of_succ_le h2)) (Nat.lt_irrefl _)
    · rcases (hfp b hb).1.2.2.2.1 with z | z
      · exact I.ok.noex b o e z
      · exact absurd (Nat.lt_of_lt_of_le (Heap.lt_size e) (Nat.le_trans I.ok.bsz z)) (Nat.lt_irrefl _)
    · rcases List.mem_cons.mp (I.stkSub b z) with z | z
      · exact (hfp b hb).1.2.1 z
      · exact (hfp b hb).1.2.2.1 z
  refine ⟨okB, rfl, I.bare, Un.kept kp, ⟨fun _ => none, ?_, fun i y av e1 e2 e3 => ?_⟩, fun y c e => ?_, ?_, fun y c e => ?_, fun p hp => ?_, I.hok.kept kp, by rw [wipe_length]; exact I.len⟩
  · show Heap.Ns _ cenv.locals _
    rw [hL]
    exact Heap.Ns.keeps (Heap.Ns.new ..) fun b o e => pushCells_keeps _ _ _ _ e
  · obtain ⟨e2, hne⟩ := wipe_some e2
    have hfr : scope.names.lookup y = some .free ∧ (cenv.kindOf y = some .cell ∨ cenv.kindOf y = some .free) := by
      have key : ∀ k, cenv.scope.names.lookup y = some k → k = .local ∨ k = .cell ∨ k = .free → scope.names.lookup y = some .free ∧ (cenv.kindOf y = some .cell ∨ cenv.kindOf y = some .free) := fun k hk hk' => by
        have hk0 := hk
        rw [hsc] at hk
        obtain ⟨k', e, r⟩ := lookup_relS hk
        have no : ¬ (k' = .local ∨ k' = .cell) := fun hh => by
          rcases ok.own _ (PySem.mem_of_lookup e) hh with e' | e'
          · obtain ⟨p, hp, hpy⟩ := List.mem_map.mp e'
            have e3 := ok.ix p hp
            have : p.1 = y := hpy
            rw [this] at e3
            exact hne (List.mem_map.mpr ⟨p, hp, nodup_ix hN e3 e1⟩)
          · exact e' (List.mem_of_getElem? e1)
        rcases r with rfl | ⟨rfl, rfl⟩
        · rcases hk' with rfl | rfl | rfl
          · exact absurd (.inl rfl) no
          · exact absurd (.inr rfl) no
          · exact ⟨e, .inr hk0⟩
        · exact ⟨e, .inl hk0⟩
      have e3 : Vis cenv.scope y := e3
      rcases e3 with e3 | e3 | e3
      · exact key _ e3 (.inl rfl)
      · exact key _ e3 (.inr (.inl rfl))
      · exact key _ e3 (.inr (.inr rfl))
    obtain ⟨m, hn, hl⟩ := I.loc
    have hvis : Vis X.env.scope y := (ok.free _ (PySem.mem_of_lookup hfr.1) rfl).elim (fun k => .inr (.inl k)) (fun k => .inr (.inr k))
    obtain ⟨w, r, q⟩ := hl i y av e1 e2 hvis
    refine ⟨w, r, .inr ⟨hfr.2, ?_⟩⟩
    obtain ⟨c, h1, h2⟩ := look hfr.1
    rcases q with ⟨k, _⟩ | ⟨_, c', e', z⟩
    · have k : X.env.scope.names.lookup y = some .local := k
      rcases ok.free _ (PySem.mem_of_lookup hfr.1) rfl with k' | k' <;> rw [show X.env.scope.names.lookup y = _ from k'] at k <;> cases k
    · rw [h2] at e'; cases e'
      exact ⟨c, h1, z.keeps kp⟩
  · have e : cenv.cells.lookup y = some c := e
    rcases mem e with ⟨h1, _⟩ | ⟨_, z⟩
    · obtain ⟨w, z⟩ := I.cell y c h1
      exact ⟨w, z.keeps kp⟩
    · exact ⟨_, z⟩
  · show H cenv.locals = none
    rw [hL]; exact I.hok.fresh (Nat.le_refl _)
  · have e : cenv.cells.lookup y = some c := e
    rcases mem e with ⟨h1, _⟩ | ⟨h1, _⟩
    · exact I.freeC y c h1
    · exact I.hok.fresh (Nat.le_of_succ_le h1)
  · exact absurd (show p ∈ ([] : List (Addr × Obj)) ++ [] from hp) (by simp)
theorem app_ok {E : Value → Shared → Prop} {D : Addr} {xs : List V} {y : V} {v : Value} {Q : Value → Shared → Prop} (I : Inv X pins σ H s) (hD : H D = some (.lst xs)) (hz : xs.length < sizeLine) (r : RelV y v)
    (h : ∀ s', Inv X pins σ (upd H D (.lst (xs ++ [y]))) s' → Q .none s') : wpAny (model X.prog X.w) X.A (call (.builtin "list.append") [.ref D, v]) Q E s := by
  obtain ⟨hz', its, n, ri, e⟩ := I.hok D _ hD
  have hl := ri.length
  refine append_at (hsz := by rw [List.size_toArray]; omega) e fun h' sb ho' => ?_
  refine h { s with heap := h' } (I.write (t' := s.toks) (by rw [hD]; trivial) (.inl rfl) (fun b u hb q => (sb.2 b hb).trans q) ⟨_, ho'⟩ ⟨by rw [List.length_append]; exact hz, its ++ [v], n + 1, ri.append (.cons r .nil), ?_⟩)
  rw [ho']
  simp
def PTs (X : Cx) (ifs : List Expr) (t : TT) : Prop :=
  ∀ (pins : List (Addr × Obj)) (s : Shared) (σ : St) (H : Hp) (Q : Bool → Hp → Prop), Inv X pins σ H s → t σ H Q →
    wpAny (model X.prog X.w) X.A (forIn ifs true fun c r => if r = true then do let ok ← isTrue c X.env (eval c X.env); pure (ForInStep.yield ok) else pure (ForInStep.yield r)) (TP X pins σ Q) X.xe s
def tYes : TT := fun _ H Q => Q true H
theorem pts_nil : PTs X [] tYes := fun _ _ _ H _ I h => wpAny_tests_nil ⟨H, I, h⟩
theorem pts_one {c : Expr} {t : TT} (h : PT X c t) : PTs X [c] t := fun pins s σ H Q I hw => wpAny_tests_one (h pins s σ H Q I hw)
end
theorem thnF {α : Type} {t : Sem α} {Q Q' : α → Shared → Prop} {M : Model} {A : Around} {E : Value → Shared → Prop} {s : Shared} (h : wpAny M A t Q (fun _ _ => False) s) (hQ : ∀ a s, Q a s → Q' a s) : wpAny M A t Q' E s := wpAny_mono h hQ fun _ _ z => False.elim z
theorem compLoop_any {prog : Program} {w : World} {A : Around} {R : Result → Shared → Prop} {s : Shared} {elt target iter : Expr} {ifs : List Expr} {scope : Scope} {pos : Pos} {it acc : Value} {env : Env} (I : Nat → Shared → Prop)
    (turn : ∀ n s, I n s → wpAny (model prog w) A (pyNext it) (fun r s₁ => match r with
      | none => R (.ok .next) s₁
      | some v => wpAny (model prog w) A (letOwnedTupleGo target it v) (fun _ s₁' => wpAny (model prog w) A (assign target env v) (fun _ s₂ =>
          wpAny (model prog w) A (forIn ifs true fun c r => if r = true then do let ok ← isTrue c env (eval c env); pure (ForInStep.yield ok) else pure (ForInStep.yield r)) (fun ok s₃ =>
            if ok = true then wpAny (model prog w) A (eval elt env) (fun x s₄ =>
              wpAny (model prog w) A (call (.builtin "list.append") [acc, x]) (fun _ s₅ => ∃ m, m < n ∧ I m s₅) (notedBy (model prog w) A env fun e s' => R (.error e) s') s₄) (notedBy (model prog w) A env fun e s' => R (.error e) s') s₃
            else ∃ m, m < n ∧ I m s₃) (notedBy (model prog w) A env fun e s' => R (.error e) s') s₂) (notedBy (model prog w) A env fun e s' => R (.error e) s') s₁') (notedBy (model prog w) A env fun e s' => R (.error e) s') s₁) (notedBy (model prog w) A env fun e s' => R (.error e) s') s)
    (n : Nat) (h : I n s) :
    codeAny (model prog w) A (.compLoop (.ListComp elt [⟨target, iter, ifs, 0⟩] scope pos) 0 it acc env) R s := by
  refine codeAny_loop rfl I (fun n s hI => ?_) n h
  show wpAny _ A ((compTurn (.ListComp elt [⟨target, iter, ifs, 0⟩] scope pos) 0 it acc env).onRaise (fun x => do noteFrame x env; theTreesLotGoes x)) _ _ s
  refine wpAny_noted ?_
  rw [compTurn_list]
  refine wpAny_bind (wpAny_standAt (wpAny_bind (wpAny_mono (turn n s hI) (fun r s₁ h₁ => ?_) fun _ _ h' => h')))
  cases r with
  | none => exact wpAny_pure h₁
  | some v =>
    refine wpAny_bind (wpAny_mono h₁ (fun _ s₁' h₁' => ?_) fun _ _ h' => h')
    refine wpAny_bind (wpAny_mono h₁' (fun _ s₂ h₂ => wpAny_bind (wpAny_mono h₂ (fun ok s₃ h₃ => ?_) fun _ _ h' => h')) fun _ _ h' => h')
    cases ok with
    | false => exact wpAny_pure ⟨rfl, h₃⟩
    | true =>
      exact wpAny_bind (wpAny_bind (wpAny_mono h₃ (fun x s₄ h₄ => wpAny_bind (wpAny_mono h₄ (fun _ s₅ h₅ => wpAny_pure (wpAny_pure ⟨rfl, h₅⟩)) fun _ _ h' => h')) fun _ _ h' => h'))
section
variable {X : Cx}
def tLc (wi : TI) (g : TG) (tt : TT) (te : TE) (vs : List Nat) : TE := fun σ H Q => wi σ H fun J H1 => ∀ D, H1 D = none → ∃ W : Nat → Nat → Hp → Prop, (∃ m, W 0 m (upd H1 D (.lst []))) ∧ ∀ i m H, W i m H →
  (J.stop i H ∧ Q (.ref D) H) ∨ (J.go i H ∧ ∃ Nx : Hp → Prop, (∀ H', Nx H' → ∃ m', m' < m ∧ W (i + 1) m' H') ∧ ∀ x H', J.yld i H x H' → g x (wipe σ vs) H' fun σ2 H2 => wipe σ2 vs = wipe σ vs ∧ tt σ2 H2 fun b H3 =>
    if b = true then te σ2 H3 fun y H4 => ∃ acc, H4 D = some (.lst acc) ∧ acc.length < sizeLine ∧ Nx (upd H4 D (.lst (acc ++ [y]))) else Nx H3)
theorem lc_core {pins : List (Addr × Obj)} {s : Shared} {σ : St} {H : Hp} {Q : VK} {elt tg iter : Expr} {ifs : List Expr} {scope : Scope} {own : List (Str × Nat)} {pos pos' : Pos} {wi : TI} {g : TG} {tt : TT} {te : TE} {use : Option (Value → Sem Unit)} {Qf : Value → Shared → Prop}
    (hc : X.calm = true) (hN : X.N.Nodup) (I : Inv X pins σ H s) (hi : PI X tg iter wi) (ok : BlkOk X.N X.env.scope scope own)
    (hg : ∀ (s : Shared) (H : Hp) (C : Addr) (cl : List (Str × Addr)) (fp : List Addr), PG (X.blk s H scope (compEnvC scope cl C X.env) fp) tg g) (ht : ∀ (s : Shared) (H : Hp) (C : Addr) (cl : List (Str × Addr)) (fp : List Addr), PTs (X.blk s H scope (compEnvC scope cl C X.env) fp) ifs tt)
    (he : ∀ (s : Shared) (H : Hp) (C : Addr) (cl : List (Str × Addr)) (fp : List Addr), PE (X.blk s H scope (compEnvC scope cl C X.env) fp) elt te) (hs : ∀ x, foldedSetIterable iter X.env x = pure x)
    (h : tLc wi g tt te (own.map (·.2)) σ H Q)
    (hRR : ∀ D C s' m H', Inv X pins σ H' s' → Q (.ref D) H' → s'.heap.Ns C m → FpOk X pins H' C → compPost (model X.prog X.w) X.A X.xe use Qf (.ref D) C (.ok .next) s') :
    wpAny (model X.prog X.w) X.A (comprehension (.ListComp elt [⟨tg, iter, ifs, 0⟩] scope pos) scope X.env pos' (newList []) false (eval iter X.env) use) Qf X.xe s := by
  have hfree : ∀ y ∈ scope.names, y.2 = .free → ∃ c, X.env.cells.lookup y.1 = some c := fun y hy e => by
    rcases ok.free y hy e with k | k
    · exact I.ok.has _ (.inl k)
    · exact I.ok.has _ (.inr k)
  refine wpAny_comprehension_free (use := use) rfl hs (closure_ok hfree) ok.kind (fun y hy e => by rw [ok.uniq y hy, e])
    (thn (hi pins s σ H _ I h) fun xv s1 hx => thn hx fun itv s2 h2 => ?_)
  obtain ⟨it, fp, tn, J, H2, e, I2, T, st2, f2, q⟩ := h2
  subst e
  refine wpAny_newObj_type (newEnv_comp ?_) (by show 0 ≤ sizeLine; decide)
  generalize hD : s2.heap.objs.size = D
  have hDn : H2 D = none := I2.hok.fresh (Nat.le_of_eq hD)
  obtain ⟨W, ⟨m0, w0⟩, turn⟩ := q D hDn
  -- the new list
  generalize hs3 : ({ s2 with heap := s2.heap.push { cls := .type "list", data := .seq ([] : List Value).toArray } } : Shared) = s3
  have I3 : Inv X pins σ (upd H2 D (.lst [])) s3 := by
    rw [← hs3]
    refine I2.laid (t' := s2.toks) (fun b o e => Heap.get?_push_of_some _ e) (Nat.le_of_eq hD) ⟨Nat.zero_le _, [], 0, .nil, ?_⟩
    rw [← hD]
    exact Heap.get?_push_size _ rfl
  have h3 : s3.heap = s2.heap.push { cls := .type "list", data := .seq ([] : List Value).toArray } := by rw [← hs3]
  have sz : ∀ b ∈ fp, b < s2.heap.objs.size := fun b hb => by
    obtain ⟨o, e, _⟩ := T.obj _ _ st2 b hb
    exact Heap.lt_size e
  have f3 : ∀ b ∈ fp, FpOk X pins (upd H2 D (.lst [])) b ∧ b < s3.heap.objs.size := fun b hb => by
    have hlt := sz b hb
    refine ⟨⟨?_, (f2 b hb).2⟩, by rw [h3, Heap.size_push]; exact Nat.lt_succ_of_lt hlt⟩
    rw [upd_ne (by rw [← hD]; exact Nat.ne_of_lt hlt)]
    exact (f2 b hb).1
  have st3 : tn 0 s3.heap := T.keep _ _ _ st2 fun b _ o e => by rw [h3]; exact Heap.get?_push_of_some _ e
  have I4 := block_start I3 ok hN f3
  have pg := hg s3 (upd H2 D (.lst [])) s3.heap.objs.size (cellsFrom (s3.heap.objs.size + 1) scope.names (cloFrom X.env.cells scope.names [])) fp
  have pt := ht s3 (upd H2 D (.lst [])) s3.heap.objs.size (cellsFrom (s3.heap.objs.size + 1) scope.names (cloFrom X.env.cells scope.names [])) fp
  have pe := he s3 (upd H2 D (.lst [])) s3.heap.objs.size (cellsFrom (s3.heap.objs.size + 1) scope.names (cloFrom X.env.cells scope.names [])) fp
  show codeAny _ _ (.compStart (.ListComp elt [⟨tg, iter, ifs, 0⟩] scope pos) 0 (.ref it) (.ref D) (compEnvC scope (cellsFrom (s3.heap.objs.size + 1) scope.names (cloFrom X.env.cells scope.names [])) s3.heap.objs.size X.env)) (compPost (model X.prog X.w) X.A X.xe use Qf (.ref D) s3.heap.objs.size) { s3 with heap := pushCells (s3.heap.push { cls := .type "dict", data := .dict #[] }) scope.names }
  have nfp : ∀ b ∈ fp, (upd H2 D (.lst [])) b = none := fun b hb => (f3 b hb).1.1
  generalize hce : compEnvC scope (cellsFrom (s3.heap.objs.size + 1) scope.names (cloFrom X.env.cells scope.names [])) s3.heap.objs.size X.env = ce at I4 pg pt pe ⊢
  have cL : ce.locals = s3.heap.objs.size := by subst hce; rfl
  generalize hH3 : upd H2 D (.lst []) = H3 at I3 I4 pg pt pe w0 nfp f3
  generalize hs4 : ({ s3 with heap := pushCells (s3.heap.push { cls := .type "dict", data := .dict #[] }) scope.names } : Shared) = s4 at I4 ⊢
  have st4 : tn 0 s4.heap := T.keep _ _ _ st3 fun b _ o e => by rw [← hs4]; exact pushCells_keeps _ _ _ _ (Heap.get?_push_of_some _ e)
  have stat : ∀ {σ' : St} {H' : Hp} {s' : Shared}, Inv (X.blk s3 H3 scope ce fp) [] σ' H' s' → (∀ b ∈ fp, H' b = none) → ∀ b ∈ fp, FpOk (X.blk s3 H3 scope ce fp) [] H' b := fun {σ' H' s'} I' hn b hb =>
    ⟨hn b hb, (I'.ok.exf b hb).1, I'.ok.exfs b hb, .inl hb, fun x c e => (I'.ok.exf b hb).2 x c e, fun p hp => absurd (show p ∈ ([] : List (Addr × Obj)) ++ [] from hp) (by simp)⟩
  have loop : codeAny (model X.prog X.w) X.A (.compLoop (.ListComp elt [⟨tg, iter, ifs, 0⟩] scope pos) 0 (.ref it) (.ref D) ce) (compPost (model X.prog X.w) X.A X.xe use Qf (.ref D) s3.heap.objs.size) s4 := by
    refine compLoop_any (fun n s' => ∃ i H', Inv (X.blk s3 H3 scope ce fp) [] (wipe σ (own.map (·.2))) H' s' ∧ tn i s'.heap ∧ (∀ b ∈ fp, H' b = none) ∧ W i n H') ?_ m0 ⟨0, H3, I4, st4, nfp, w0⟩
    rintro n s5 ⟨i, H5, I5, st5, n5, w5⟩
    rcases turn i n H5 w5 with ⟨stop, qq⟩ | ⟨go, Nx, hNx, step⟩
    · have td := T.done (X.blk s3 H3 scope ce fp) rfl rfl rfl hc i [] s5 _ H5 (fun _ _ => False) I5 (stat I5 n5) st5 stop
      refine thnF td fun r s6 ⟨hr, I6⟩ => ?_
      subst hr
      -- back in the def's context
      have I7 : Inv X pins σ H5 s6 := I3.call' (ch := fp) I6.os I6.base I6.hok I6.bare fun b hb => ⟨(f3 b hb).1.2.2.2.1, (f3 b hb).1.2.1, (f3 b hb).1.2.2.2.2.1, (f3 b hb).1.2.2.2.2.2⟩
      have nC : H5 s3.heap.objs.size = none := by
        have z : H5 ce.locals = none := I6.free
        rw [cL] at z
        exact z
      obtain ⟨m, hn, _⟩ := I6.loc
      have hn : s6.heap.Ns ce.locals m := hn
      rw [cL] at hn
      exact hRR D s3.heap.objs.size s6 m H5 I7 qq hn (I3.fpOk (Nat.le_refl _) nC)
    · have ti := T.item (X.blk s3 H3 scope ce fp) rfl rfl rfl hc i [] s5 _ H5 (fun _ _ => False) I5 (stat I5 n5) st5 go
      refine thnF ti fun r s6 ⟨u, hr, h6⟩ => ?_
      subst hr
      refine thnF h6 fun _ s7 ⟨x, H7, I7, r7, y7, st7, n7⟩ => ?_
      have I7' := I7.pinned (stat I7 n7) (T.obj _ _ st7)
      refine thnF (pg _ s7 _ H7 x u _ I7' r7 (step x H7 y7)) fun _ s8 ⟨σ8, H8, I8, hw8, q8⟩ => ?_
      refine thnF (pt _ s8 σ8 H8 _ I8 q8) fun b s9 ⟨H9, I9, q9⟩ => ?_
      -- the turn's end
      have fin : ∀ {s' : Shared} {H' : Hp}, Inv (X.blk s3 H3 scope ce fp) ([] ++ pinsAt fp s7.heap) σ8 H' s' → Nx H' → ∃ m, m < n ∧ ∃ i H', Inv (X.blk s3 H3 scope ce fp) [] (wipe σ (own.map (·.2))) H' s' ∧ tn i s'.heap ∧ (∀ b ∈ fp, H' b = none) ∧ W i m H' := fun {s' H'} I' nx => by
        obtain ⟨m', hm, w'⟩ := hNx H' nx
        have pin' : ∀ b ∈ fp, ∀ o, s7.heap.get? b = some o → s'.heap.get? b = some o ∧ H' b = none := fun b hb o e =>
          let z := I'.pin (b, o) (List.mem_append_right _ (List.mem_append_right _ (mem_pinsAt hb e)))
          ⟨z.1, z.2.1⟩
        have hl : (wipe σ (own.map (·.2))).length = σ8.length := by rw [← hw8, wipe_length]
        refine ⟨m', hm, i + 1, H', (I'.unpinned (pins := [])).weak hl (fun j v e => ?_), T.keep _ _ _ st7 fun b hb o e => (pin' b hb o e).1, fun b hb => ?_, w'⟩
        · rw [← hw8] at e
          exact (wipe_some e).1
        · obtain ⟨o, e, _⟩ := T.obj _ _ st7 b hb
          exact (pin' b hb o e).2
      cases b with
      | false =>
        simp only [Bool.false_eq_true, if_false] at q9 ⊢
        exact fin I9 q9
      | true =>
        simp only [if_true] at q9 ⊢
        refine thnF (pe _ s9 σ8 H9 _ I9 q9) fun z s10 ⟨yv, H10, I10, r10, acc, hD10, hz10, nx⟩ => ?_
        exact app_ok (X := X.blk s3 H3 scope ce fp) I10 hD10 hz10 r10 fun s11 I11 => fin I11 nx
  exact codeAny_compStart_list loop (T.self X.A 0 _ _ _ st4 loop)
theorem pe_lc {elt tg iter : Expr} {ifs : List Expr} {scope : Scope} {own : List (Str × Nat)} {pos : Pos} {wi : TI} {g : TG} {tt : TT} {te : TE} (hc : X.calm = true) (hN : X.N.Nodup) (hi : PI X tg iter wi) (ok : BlkOk X.N X.env.scope scope own)
    (hg : ∀ (s : Shared) (H : Hp) (C : Addr) (cl : List (Str × Addr)) (fp : List Addr), PG (X.blk s H scope (compEnvC scope cl C X.env) fp) tg g) (ht : ∀ (s : Shared) (H : Hp) (C : Addr) (cl : List (Str × Addr)) (fp : List Addr), PTs (X.blk s H scope (compEnvC scope cl C X.env) fp) ifs tt)
    (he : ∀ (s : Shared) (H : Hp) (C : Addr) (cl : List (Str × Addr)) (fp : List Addr), PE (X.blk s H scope (compEnvC scope cl C X.env) fp) elt te) (hs : ∀ x, foldedSetIterable iter X.env x = pure x := by intro _; rfl) :
    PE X (.ListComp elt [⟨tg, iter, ifs, 0⟩] scope pos) (tLc wi g tt te (own.map (·.2))) := by
  intro pins s σ H Q I h
  rw [eval_ListComp]
  refine lc_core hc hN I hi ok hg ht he hs h fun D C s' m H' I' q hn f => ⟨m, hn, fun h'' sb => ?_⟩
  obtain ⟨f0, f1, f2, f3, f4, f5⟩ := f
  exact ⟨.ref D, H', I'.turned (t' := s'.toks) (fun b o hb e => (sb.2 b hb).trans e) f0 f1 f3 f4 f5, rfl, q⟩
theorem ps_setLc {i : Nat} {y : Str} {py : Pos} {elt tg iter : Expr} {ifs : List Expr} {scope : Scope} {own : List (Str × Nat)} {pos spos : Pos} {wi : TI} {g : TG} {tt : TT} {te : TE} (hc : X.calm = true) (hN : X.N.Nodup) (hy : X.N[i]? = some y) (hyl : X.env.scope.names.lookup y = some .local)
    (hsw : swapsWith (.ListComp elt [⟨tg, iter, ifs, 0⟩] scope pos) (some (.Name y py)) spos.line X.env = pure true) (hi : PI X tg iter wi) (ok : BlkOk X.N X.env.scope scope own)
    (hg : ∀ (s : Shared) (H : Hp) (C : Addr) (cl : List (Str × Addr)) (fp : List Addr), PG (X.blk s H scope (compEnvC scope cl C X.env) fp) tg g) (ht : ∀ (s : Shared) (H : Hp) (C : Addr) (cl : List (Str × Addr)) (fp : List Addr), PTs (X.blk s H scope (compEnvC scope cl C X.env) fp) ifs tt)
    (he : ∀ (s : Shared) (H : Hp) (C : Addr) (cl : List (Str × Addr)) (fp : List Addr), PE (X.blk s H scope (compEnvC scope cl C X.env) fp) elt te) (hs : ∀ x, foldedSetIterable iter X.env x = pure x := by intro _; rfl) :
    PS X (.Assign [.Name y py] (.ListComp elt [⟨tg, iter, ifs, 0⟩] scope pos) spos) (tAsg (tLc wi g tt te (own.map (·.2))) (gName i)) := by
  intro pins s σ H D I h
  rw [exec_Assign_Name_used _ _ _ _ hsw]
  refine wpAny_bind (wpAny_standAt (wpAny_bind ?_))
  show wpAny _ X.A (do let _ ← comprehension (.ListComp elt [⟨tg, iter, ifs, 0⟩] scope pos) scope X.env (firstIterPos [⟨tg, iter, ifs, 0⟩] pos) (newList []) false (eval iter X.env) (some (assign (.Name y py) X.env))) _ _ s
  have h : tLc wi g tt te (own.map (·.2)) σ H (fun x H1 => gName i x σ H1 D.nx) := h
  refine wpAny_bind (thn (lc_core (Qf := fun _ s' => SP X pins D .next s') hc hN I hi ok hg ht he hs h fun L C s' m H' I' q hn f => ?_) fun _ s' hq => wpAny_pure (wpAny_pure hq))
  show wpAny _ _ (assign (.Name y py) X.env (.ref L)) _ _ _
  refine wpAny_assign_Name (store_ok2 (v := V.ref L) I' hN hy (.inl hyl) rfl (fun s2 I2 ⟨a, sb, ha⟩ => ?_) (.inr hyl))
  obtain ⟨f0, f1, f2, f3, f4, f5⟩ := f
  have haC : C ≠ a := by
    rcases ha with z | z
    · rw [z]; exact f1
    · exact fun e => f4 y a z e.symm
  refine ⟨m, hn.sameBut sb haC, fun h3 sb3 => ?_⟩
  exact ⟨_, H', I2.turned (t' := s2.toks) (fun b o hb e => (sb3.2 b hb).trans e) f0 f1 f3 f4 f5, q⟩
theorem sw_true {elt : Expr} {gs : List Comprehension} {scope : Scope} {pos py : Pos} {y : Str} {l : Nat} {env : Env} (hk : env.scope.kind = .function) (hy : env.scope.names.lookup y = some .local) (hl : (py.line == pos.line) = true)
    (ha : (scope.names.any fun (n, k) => n == y && (k == .local || k == .cell)) = false) : swapsWith (.ListComp elt gs scope pos) (some (.Name y py)) l env = pure true := by
  have ky : env.kindOf y = some .local := hy
  have hb : env.blockKind = .function := by unfold Env.blockKind; rw [hk]; rfl
  unfold swapsWith
  simp only [hb, ky, ha, Expr.pos, hl]
  rfl
end
theorem lc_list {K : PySem.W.Frag} {a : Addr} {xs : List V} {g : TG} {tt : TT} {te : TE} {vs : List Nat} {σ : St} {H1 : Hp} {D : Addr} {Qd : Hp → Prop} (Pv : Nat → Hp → Prop) (h0 : Pv 0 (upd H1 D (.lst []))) (hl : ∀ i H, i ≤ xs.length → Pv i H → SqL K H a xs)
    (hs : ∀ i x H, xs[i]? = some x → Pv i H → g x (wipe σ vs) H fun σ2 H2 => wipe σ2 vs = wipe σ vs ∧ tt σ2 H2 fun b H3 =>
      if b = true then te σ2 H3 fun y H4 => ∃ acc, H4 D = some (.lst acc) ∧ acc.length < sizeLine ∧ Pv (i + 1) (upd H4 D (.lst (acc ++ [y]))) else Pv (i + 1) H3) (hd : ∀ H, Pv xs.length H → Qd H) :
    ∃ W : Nat → Nat → Hp → Prop, (∃ m, W 0 m (upd H1 D (.lst []))) ∧ ∀ i m H, W i m H →
      ((Itl K a).stop i H ∧ Qd H) ∨ ((Itl K a).go i H ∧ ∃ Nx : Hp → Prop, (∀ H', Nx H' → ∃ m', m' < m ∧ W (i + 1) m' H') ∧ ∀ x H', (Itl K a).yld i H x H' → g x (wipe σ vs) H' fun σ2 H2 => wipe σ2 vs = wipe σ vs ∧ tt σ2 H2 fun b H3 =>
        if b = true then te σ2 H3 fun y H4 => ∃ acc, H4 D = some (.lst acc) ∧ acc.length < sizeLine ∧ Nx (upd H4 D (.lst (acc ++ [y]))) else Nx H3) := by
  refine ⟨fun i m H => m = xs.length - i ∧ i ≤ xs.length ∧ Pv i H, ⟨xs.length, by simp, Nat.zero_le _, h0⟩, ?_⟩
  rintro i m H ⟨rfl, hi, p⟩
  have q := hl i H hi p
  by_cases hlt : i < xs.length
  · refine .inr ⟨⟨xs, xs[i], q, by simp [hlt]⟩, Pv (i + 1), fun H' p' => ⟨xs.length - (i + 1), by omega, rfl, hlt, p'⟩, fun x H' y => ?_⟩
    obtain ⟨e, y⟩ := y
    subst e
    exact hs i x _ (y xs q) p
  · have e : i = xs.length := by omega
    subst e
    exact .inl ⟨⟨xs, q, Nat.le_refl _⟩, hd H p⟩
def blkC (N : List Str) (sc scope : Scope) (own : List (Str × Nat)) : Bool :=
  (match scope.kind with | .function => true | _ => false) && (scope.names.all fun y => decide (scope.names.lookup y.1 = some y.2)) && (own.all fun p => decide (N[p.2]? = some p.1)) &&
    (scope.names.all fun y => match y.2 with
      | .free => (match sc.names.lookup y.1 with | some .cell => true | some .free => true | _ => false)
      | .local => decide (y.1 ∈ own.map (·.1)) || decide (y.1 ∉ N)
      | .cell => decide (y.1 ∈ own.map (·.1)) || decide (y.1 ∉ N)
      | _ => true)
theorem blkOk_by {N : List Str} {sc scope : Scope} {own : List (Str × Nat)} (h : blkC N sc scope own = true) : BlkOk N sc scope own := by
  unfold blkC at h
  simp only [Bool.and_eq_true, List.all_eq_true, decide_eq_true_eq] at h
  obtain ⟨⟨⟨h1, h2⟩, h3⟩, h4⟩ := h
  refine ⟨?_, h2, h3, fun y hy e => ?_, fun y hy e => ?_⟩
  · split at h1
    · assumption
    · cases h1
  · have q := h4 y hy
    simp only [e] at q
    split at q <;> first | exact .inl (by assumption) | exact .inr (by assumption) | cases q
  · have q := h4 y hy
    rcases e with e | e <;> (simp only [e, Bool.or_eq_true, decide_eq_true_eq] at q; exact q)
end L2
namespace L2
open PySem PySem.Spec PyProof.Rows
section
variable {prog : Program} {w : World} {A : Around} {R : Result → Shared → Prop} {s : Shared} {elt t0 i0 t1 i1 : Expr} {ifs0 ifs1 : List Expr} {scope : Scope} {pos : Pos} {it acc : Value} {env : Env}
end
section
variable {X : Cx}
def tLc2 (wi : TI) (g : TG) (tt : TT) (wi1 : TI) (g1 : TG) (tt1 : TT) (te : TE) (vs vs1 : List Nat) : TE := fun σ H Q => wi σ H fun J H1 => ∀ D, H1 D = none → ∃ W : Nat → Nat → Hp → Prop, (∃ m, W 0 m (upd H1 D (.lst []))) ∧ ∀ i m H, W i m H →
  (J.stop i H ∧ Q (.ref D) H) ∨ (J.go i H ∧ ∃ Nx : Hp → Prop, (∀ H', Nx H' → ∃ m', m' < m ∧ W (i + 1) m' H') ∧ ∀ x H', J.yld i H x H' → g x (wipe σ vs) H' fun σ2 H2 => wipe σ2 vs = wipe σ vs ∧ tt σ2 H2 fun b H3 =>
    if b = true then wi1 σ2 H3 fun J1 H4 => ∃ W1 : Nat → Nat → Hp → Prop, (∃ m, W1 0 m H4) ∧ ∀ j k H, W1 j k H →
      (J1.stop j H ∧ Nx H) ∨ (J1.go j H ∧ ∃ Nx1 : Hp → Prop, (∀ H', Nx1 H' → ∃ k', k' < k ∧ W1 (j + 1) k' H') ∧ ∀ x H', J1.yld j H x H' → g1 x (wipe σ2 vs1) H' fun σ3 H5 => wipe σ3 vs1 = wipe σ2 vs1 ∧ tt1 σ3 H5 fun b H6 =>
        if b = true then te σ3 H6 fun y H7 => ∃ acc, H7 D = some (.lst acc) ∧ acc.length < sizeLine ∧ Nx1 (upd H7 D (.lst (acc ++ [y]))) else Nx1 H6)
    else Nx H3)
end
end L2
namespace L2
open PySem PySem.Spec PyProof.Rows
section
variable {κ : Type} [DecidableEq κ]
def valV (kvs : List (κ × V)) (k : κ) : Option V := (kvs.find? fun kv => decide (kv.1 = k)).map (·.2)
def putK (kvs : List (κ × V)) (k : κ) (v : V) : List (κ × V) :=
  if (kvs.any fun kv => decide (kv.1 = k)) = true then kvs.map (fun kv => if kv.1 = k then (kv.1, v) else kv) else kvs ++ [(k, v)]
def dropK (kvs : List (κ × V)) (k : κ) : List (κ × V) := kvs.filter fun kv => decide (kv.1 ≠ k)
theorem valV_pos {p : κ × V} {r : List (κ × V)} {k : κ} (e : p.1 = k) : valV (p :: r) k = some p.2 := by simp [valV, List.find?_cons, e]
theorem valV_neg {p : κ × V} {r : List (κ × V)} {k : κ} (e : ¬ p.1 = k) : valV (p :: r) k = valV r k := by simp [valV, List.find?_cons, e]
theorem KV.val {kvs : List (κ × V)} {vs : List (κ × Value)} (r : KV kvs vs) (k : κ) : RelO (valV kvs k) (valueAt vs k) := by
  unfold KV at r
  induction r with
  | nil => exact True.intro
  | @cons p q ps qs h t ih =>
    obtain ⟨h1, h2⟩ := h
    by_cases e : p.1 = k
    · have e' : q.1 = k := h1.symm.trans e
      have b : valueAt (q :: qs) k = some q.2 := by simp [valueAt, List.find?_cons, e']
      rw [valV_pos e, b]; exact h2
    · have e' : ¬ q.1 = k := fun z => e (h1.trans z)
      have b : valueAt (q :: qs) k = valueAt qs k := by simp [valueAt, List.find?_cons, e']
      rw [valV_neg e, b]; exact ih
end
theorem kV_is {P : Program} {w : World} {k : Key} {u : Value} (r : RelV (kV k) u) : (mixKind P w).is k u = true := by
  cases k with
  | inl i => obtain ⟨t, e⟩ := (show ∃ t, u = Value.int i t from r); subst e; exact mixKind_int P w i t
  | inr x => obtain ⟨t, e⟩ := (show ∃ t, u = Value.str x t from r); subst e; exact mixKind_str P w x t
abbrev KT (H : Hp) : List (List Key × V) → List (List Key × Addr × Value) → Prop := Paired fun p q => p.1 = q.1 ∧ H q.2.1 = some (.tup (p.1.map kV)) ∧ RelV p.2 q.2.2
section
variable {P : Program} {w : World} {H : Hp} {h : Heap} {a : Addr}
end
def DGet (H : Hp) (a : Addr) (y : V) (r : Option V) : Prop :=
  (∃ kvs k, Rd H a (.dK kvs) ∧ y = kV k ∧ r = valV kvs k) ∨ ∃ kvs k b, Rd H a (.dT kvs) ∧ y = .ref b ∧ H b = some (.tup (k.map kV)) ∧ r = valV kvs k
def DPut (H : Hp) (a : Addr) (y v : V) (H' : Hp) : Prop :=
  (∃ kvs k, H a = some (.dK kvs) ∧ y = kV k ∧ kvs.length < sizeLine ∧ H' = upd H a (.dK (putK kvs k v))) ∨
  ∃ kvs k b, H a = some (.dT kvs) ∧ y = .ref b ∧ H b = some (.tup (k.map kV)) ∧ kvs.length < sizeLine ∧ H' = upd H a (.dT (putK kvs k v))
section
variable {X : Cx} {pins : List (Addr × Obj)} {σ : St} {H : Hp} {s : Shared} {a : Addr} {y v : V} {u r : Value} {o : Option V} {A : Around} {E : Value → Shared → Prop}
end
section
variable {X : Cx} {pins : List (Addr × Obj)} {σ : St} {H : Hp} {s : Shared} {a : Addr} {kvs : List (Key × V)} {k : Key} {u : Value} {A : Around} {E : Value → Shared → Prop}
end
def NoSl (i : Expr) : Prop := ∀ ov iv, subscripted i false ov iv = operate [ov, iv] (getItem ov iv)
theorem subD_of {prog : Program} {w : World} {A : Around} {E : Value → Shared → Prop} {s : Shared} {env : Env} {value slice : Expr} {pos : Pos} {T id : String} {Q : Value → Shared → Prop}
    (hl : typeLookup (.type T) "__getitem__" = pure (some (.builtin id))) (hs : NoSl slice)
    (h : wpAny (model prog w) A (eval value env) (fun o s₁ => wpAny (model prog w) A (eval slice env) (fun i s₂ => s₂.TypeIs o T ∧ wpAny (model prog w) A (getItem o i) Q E s₂) E s₁) E s) :
    wpAny (model prog w) A (eval (.Subscript value slice pos) env) Q E s := by
  refine Subscript_ (wpAny_mono h (fun o s₁ h₁ => wpAny_mono h₁ (fun i s₂ h₂ => ?_) fun _ _ x => x) fun _ _ x => x)
  obtain ⟨hT, h₂⟩ := h₂
  unfold subscriptTail
  refine wpAny_bind ?_
  rw [getitemInPython_of_ne hT.not_modules]
  refine wpAny_bind (wpAny_specialOf hT hl ?_)
  have fin : wpAny (model prog w) A (subscripted slice false o i) (fun r s₃ => wpAny (model prog w) A (letTemporaryGo value o r >>= fun _ => pure r) Q E s₃) E s₂ := by
    rw [hs o i]
    exact wpAny_operating (wpAny_mono h₂ (fun r s₃ h₃ => wpAny_bind (wpAny_letTemporaryGo (wpAny_pure h₃))) fun _ _ x => x)
  first
    | exact wpAny_pure (wpAny_bind fin)
    | exact wpAny_bind (wpAny_pure (wpAny_bind fin))
    | exact wpAny_bind fin
def tDGet (td ty : TE) : TE := fun σ H Q => td σ H fun x H1 => ty σ H1 fun y H2 => ∃ a v, x = .ref a ∧ DGet H2 a y (some v) ∧ Q v H2
def tDIn (ty td : TE) : TE := fun σ H Q => ty σ H fun y H1 => td σ H1 fun x H2 => ∃ a o, x = .ref a ∧ DGet H2 a y o ∧ Q (.bl o.isSome) H2
def tDNotIn (ty td : TE) : TE := fun σ H Q => ty σ H fun y H1 => td σ H1 fun x H2 => ∃ a o, x = .ref a ∧ DGet H2 a y o ∧ Q (.bl (!o.isSome)) H2
def sDPut (td ty tv : TE) : TS := fun D σ H => tv σ H fun v H1 => td σ H1 fun x H2 => ty σ H2 fun y H3 => ∃ a H4, x = .ref a ∧ DPut H3 a y v H4 ∧ D.nx σ H4
def sDAug (td ty tv : TE) (rd : V → V → Hp → VK → Prop) : TS := fun D σ H => td σ H fun x H1 => ty σ H1 fun y H2 => ∃ a v, x = .ref a ∧ DGet H2 a y (some v) ∧
  tv σ H2 fun y2 H3 => rd v y2 H3 fun z H4 => ∃ H5, DPut H4 a y z H5 ∧ D.nx σ H5
def sDDel (td ty : TE) : TS := fun D σ H => td σ H fun x H1 => ty σ H1 fun y H2 => ∃ a kvs k, x = .ref a ∧ H2 a = some (.dK kvs) ∧ y = kV k ∧ (valV kvs k).isSome = true ∧ D.nx σ (upd H2 a (.dK (dropK kvs k)))
section
variable {X : Cx} {o i e value : Expr} {pos pos' tpos : Pos} {td ty tv : TE}
end
def tDNewK : TE := fun _ H Q => ∀ p, H p = none → Q (.ref p) (upd H p (.dK []))
def tDNewT : TE := fun _ H Q => ∀ p, H p = none → Q (.ref p) (upd H p (.dT []))
section
variable {X : Cx} {pos : Pos}
end
def tPairs : List (TE × TE) → St → Hp → (List (V × V) → Hp → Prop) → Prop
  | [], _, H, Q => Q [] H
  | (tk, tv) :: r, σ, H, Q => tk σ H fun x H1 => tv σ H1 fun y H2 => tPairs r σ H2 fun ps H3 => Q ((x, y) :: ps) H3
abbrev VV : List (V × V) → List (Value × Value) → Prop := Paired fun p q => RelV p.1 q.1 ∧ RelV p.2 q.2
def PPs (X : Cx) (pos : Pos) (keys : List (Option Expr)) (values : List Expr) (trs : List (TE × TE)) : Prop :=
  ∀ (pins : List (Addr × Obj)) (s : Shared) (σ : St) (H : Hp) (Q : List (V × V) → Hp → Prop), Inv X pins σ H s → tPairs trs σ H Q →
    wpAny (model X.prog X.w) X.A (evalPairs (pairTrees keys values X.env pos)) (fun vs s' => ∃ ps H', Inv X pins σ H' s' ∧ VV ps vs ∧ Q ps H') X.xe s
def mergeK (kvs more : List (Key × V)) : List (Key × V) := more.foldl (fun acc kv => putK acc kv.1 kv.2) kvs
def tDisp (trs : List (TE × TE)) : TE := fun σ H Q => ∀ p, H p = none → tPairs trs σ (upd H p (.dK [])) fun ps H2 => H2 p = some (.dK []) ∧ ∃ kvs : List (Key × V), ps = kvs.map (fun kv => (kV kv.1, kv.2)) ∧ kvs.length ≤ 15 ∧ Q (.ref p) (upd H2 p (.dK (mergeK [] kvs)))
structure M1 (X : Cx) (o : Expr) (m : Str) (apos : Pos) (e : Expr) (cpos : Pos) : Prop where
  base : attributeBase o m X.env (eval o X.env) = eval o X.env
  few : ((backTo cpos (starEach [e] X.env)).all (fun x => !x.1) && (backToKw cpos (keywordEach [] X.env)).all (fun x => x.1.isSome)
    && decide (([e] : List Expr).length + ([] : List Keyword).length + (if ([] : List Keyword).isEmpty then 0 else 1) < 30)) = true
  line : (apos.endLine == cpos.line) = true
  trees : backTo cpos (starEach [e] X.env) = [(false, eval e X.env)]
structure M2 (X : Cx) (o : Expr) (m : Str) (apos : Pos) (e f : Expr) (cpos : Pos) : Prop where
  base : attributeBase o m X.env (eval o X.env) = eval o X.env
  few : ((backTo cpos (starEach [e, f] X.env)).all (fun x => !x.1) && (backToKw cpos (keywordEach [] X.env)).all (fun x => x.1.isSome)
    && decide (([e, f] : List Expr).length + ([] : List Keyword).length + (if ([] : List Keyword).isEmpty then 0 else 1) < 30)) = true
  line : (apos.endLine == cpos.line) = true
  trees : backTo cpos (starEach [e, f] X.env) = [(false, eval e X.env), (false, eval f X.env)]
def IsD (H : Hp) (a : Addr) : Prop := (∃ kvs, Rd H a (.dK kvs)) ∨ ∃ kvs, Rd H a (.dT kvs)
section
variable {X : Cx} {pins : List (Addr × Obj)} {σ : St} {H : Hp} {s : Shared} {a : Addr} {y d : V} {u r : Value} {o : Option V} {A : Around} {E : Value → Shared → Prop}
end
def tDGet1 (td ty : TE) : TE := fun σ H Q => td σ H fun x H1 => ∃ a, x = .ref a ∧ IsD H1 a ∧ ty σ H1 fun y H2 => ∃ o, DGet H2 a y o ∧ Q (o.getD .non) H2
def tDGet2 (td ty tx : TE) : TE := fun σ H Q => td σ H fun x H1 => ∃ a, x = .ref a ∧ IsD H1 a ∧ ty σ H1 fun y H2 => tx σ H2 fun z H3 => ∃ o, DGet H3 a y o ∧ Q (o.getD z) H3
def tDPop1 (td ty : TE) : TE := fun σ H Q => td σ H fun x H1 => ∃ a, x = .ref a ∧ IsD H1 a ∧ ty σ H1 fun y H2 => ∃ kvs k v, H2 a = some (.dK kvs) ∧ y = kV k ∧ valV kvs k = some v ∧ Q v (upd H2 a (.dK (dropK kvs k)))
def tDPop2 (td ty tx : TE) : TE := fun σ H Q => td σ H fun x H1 => ∃ a, x = .ref a ∧ IsD H1 a ∧ ty σ H1 fun y H2 => tx σ H2 fun z H3 => ∃ kvs k, H3 a = some (.dK kvs) ∧ y = kV k ∧
  (∀ v, valV kvs k = some v → Q v (upd H3 a (.dK (dropK kvs k)))) ∧ (valV kvs k = none → Q z H3)
section
variable {X : Cx} {o e f : Expr} {apos cpos : Pos} {td ty tx : TE}
end
section
variable {X : Cx} {pins : List (Addr × Obj)} {σ : St} {H : Hp} {s : Shared} {a : Addr} {kvs : List (Key × V)} {A : Around} {E : Value → Shared → Prop}
end
section
variable {X : Cx} {pins : List (Addr × Obj)} {σ : St} {H : Hp} {s : Shared} {a : Addr} {y : V} {u : Value} {A : Around} {E : Value → Shared → Prop}
end
end L2
namespace L2
open PySem PySem.Spec PyProof.Rows
section
variable {prog : Program} {w : World} {A : Around} {E : Value → Shared → Prop}
end
section
variable {X : Cx}
end
end L2
namespace L2
open PySem PySem.Spec PyProof.Rows
section
variable {X : Cx} {pins : List (Addr × Obj)} {σ : St} {H : Hp} {s : Shared} {h' : Heap}
theorem Inv.turnedNew {t' : Nat} {ch : List Addr} {T : Addr} {ob : HO} (I : Inv X pins σ H s) (k : ∀ b o, b ∉ ch → s.heap.get? b = some o → h'.get? b = some o) (hf : ∀ b ∈ ch, FpOk X pins H b) (hT : s.heap.objs.size ≤ T)
    (new : ObjOk X.prog X.w (upd H T ob) h' T ob) : Inv X pins σ (upd H T ob) { s with heap := h', toks := t' } := by
  have hn : H T = none := I.hok.fresh hT
  have nit : ∀ b u, H b = some u → b ∉ ch := fun b u e z => by
    have q := (hf b z).1
    rw [q] at e; cases e
  refine I.step (g' := s.gens) (d' := s.drawn) (ch := ch) (fun b hb => ⟨(hf b hb).2.2.2.1, (hf b hb).2.1, (hf b hb).2.2.2.2.1, (hf b hb).2.2.2.2.2⟩) (fun b o _ _ hc e _ => k b o hc e) (fun b o _ _ hc e _ => ⟨o.slots, k b o hc e⟩)
    (fun b o _ e n => ?_) (fun b o hc e => ⟨o, k b o hc e⟩) (fun b xs e => ?_) (fun b o u e => ?_) (fun b ps e => ⟨#[], ?_⟩) (fun m hm => ?_) (fun b u e => ?_) I.bare
  · rw [upd_ne (Nat.ne_of_lt (Nat.lt_of_lt_of_le (Heap.lt_size e) hT))]; exact n
  · rw [upd_ne (ne_of_none e hn)]; exact e
  · rw [upd_ne (ne_of_none e hn)]; exact e
  · rw [upd_ne (ne_of_none e hn), e]; simp
  · obtain ⟨o, es, ep, ho, r⟩ := hm
    exact ⟨o, es, ep, k _ o (fun z => (hf _ z).2.1 rfl) ho, r⟩
  · by_cases hb : b = T
    · subst hb
      rw [upd_same] at e
      cases e
      exact new
    · rw [upd_ne hb] at e
      refine (I.hok b u e).stay (fun c v hc q => k c v ?_ q) (fun c q => by rw [upd_ne (ne_of_none q hn)]; exact q) fun c xs q => by rw [upd_ne (ne_of_none q hn)]; exact q
      rcases hc with z | z
      · rw [z]; exact nit b u e
      · exact nit c _ z
end
def tLock (t : TS) : TS := fun D σ H => ∃ d u, H d = some u ∧ Mut (some u) ∧ ∀ od, t ⟨fun σ' H' => H' d = some (.frz od u) ∧ D.nx σ' (upd H' d u), fun v H' => H' d = some (.frz od u) ∧ D.rt v (upd H' d u), fun σ' H' => H' d = some (.frz od u) ∧ D.bk σ' (upd H' d u), fun σ' H' => H' d = some (.frz od u) ∧ D.ct σ' (upd H' d u)⟩ σ (upd H d (.frz od u))
def tLockE (t : TE) : TE := fun σ H Q => ∃ d u, H d = some u ∧ Mut (some u) ∧ ∀ od, t σ (upd H d (.frz od u)) fun v H' => H' d = some (.frz od u) ∧ Q v (upd H' d u)
section
variable {X : Cx}
theorem pi_one {tg : Expr} {pins : List (Addr × Obj)} {σ : St} {H : Hp} {s : Shared} {R : It → Hp → Prop} {J : It} {tn : Nat → Heap → Prop} {tk : Nat} (I : Inv X pins σ H s) (o : Obj)
    (T : Turn X.prog X.w X.K tg J [s.heap.objs.size] s.heap.objs.size tn) (st : tn 0 (s.heap.push o)) (q : R J H) : PIE X pins σ tg R (.ref s.heap.objs.size) { s with heap := s.heap.push o, toks := tk } := by
  refine ⟨s.heap.objs.size, [s.heap.objs.size], tn, J, H, rfl, I.kept fun b ob e => Heap.get?_push_of_some _ e, T, st, fun b hb => ?_, q⟩
  have e : b = s.heap.objs.size := by simpa using hb
  subst e
  exact I.fpOk (Nat.le_refl _) (I.hok.fresh (Nat.le_refl _))
end
def Itc (lo c : Int) (n : Nat) : It := ⟨fun i _ => i < n, fun i H x H' => H' = H ∧ x = .int (lo + (i : Nat) * c), fun i _ => n ≤ i⟩
def RgC (i j c : Int) (n : Nat) : Prop := c ≠ 0 ∧ c.natAbs < 1073741824 ∧ Builtin.Range.small i j c = true ∧ Builtin.Range.rangeSize i j c = n
def iRng3 (ta : TA) : TI := fun σ H R => ta σ H fun vs H1 => ∃ (i j c : Int) (n : Nat), vs = [.int i, .int j, .int c] ∧ RgC i j c n ∧ R (Itc i c n) H1
section
variable {X : Cx} {tg : Expr}
end
def Itv (K : PySem.W.Frag) (a : Addr) (n : Nat) : It :=
  ⟨fun i H => i < n ∧ ∃ (xs : List V) (x : V), SqL K H a xs ∧ xs[n - 1 - i]? = some x, fun i H x H' => H' = H ∧ ∀ xs, SqL K H a xs → xs[n - 1 - i]? = some x, fun i _ => n ≤ i⟩
def iRev (K : PySem.W.Frag) (ta : TA) : TI := fun σ H R => ta σ H fun vs H1 => ∃ (a : Addr) (xs : List V), vs = [.ref a] ∧ SqL K H1 a xs ∧ R (Itv K a xs.length) H1
section
variable {X : Cx} {tg : Expr}
end
def Its (x : Str) : It := ⟨fun i _ => i < x.cps.size, fun i H v H' => H' = H ∧ ∃ c, x.cps[i]? = some c ∧ v = .str ⟨#[c]⟩, fun i _ => x.cps.size ≤ i⟩
theorem turn_str {P : Program} {w : World} {K : PySem.W.Frag} {tg : Expr} (it : Addr) (x : Str) (t : Tok) (ty : String) (hty : ty = "str_ascii_iterator" ∨ ty = "str_iterator") :
    Turn P w K tg (Its x) [it] it (fun i h => h.IsStrIter it ty x t i) where
  mem := by simp
  obj := fun i h st b hb => by
    have e : b = it := by simpa using hb
    subst e
    obtain ⟨o, e, c, d⟩ := st
    exact ⟨o, e, fun v z => by rw [d] at z; cases z⟩
  keep := fun i h h' st k => let ⟨o, ho, r⟩ := st; ⟨o, k it (by simp) o ho, r⟩
  item := by
    intro X hP hw hK hc i pins s σ H E I hf st hg
    subst hP hw hK
    obtain ⟨f0, f1, f2, f3, f4, f5⟩ := hf it (by simp)
    have W : Walks X.prog X.w X.A it [it] [it] x.cps.size (SignAt x) (fun i h => h.IsStrIter it ty x t i) := by
      rcases hty with e | e
      · rw [e]; exact Walks.strAscii (I.ok.hd hc) it x t
      · rw [e]; exact Walks.strWide (I.ok.hd hc) it x t
    have hno : ["enumerate", "zip", "dict_itemiterator", "dict_reverseitemiterator", "odict_iterator", "itertools.zip_longest", "itertools.pairwise"].contains ty = false := by
      rcases hty with e | e
      · rw [e]; decide
      · rw [e]; decide
    refine W.item i s _ _ hg st fun v h' tk hv st' kk => ?_
    obtain ⟨c, u, hcx, rfl⟩ := hv
    have I1 : Inv X pins σ H { s with heap := h', toks := tk } := I.turned (fun b o hb e => kk b o (by simpa using hb) e) f0 f1 f3 f4 f5
    obtain ⟨oi, e, cc, dd⟩ := id st'
    exact ⟨_, rfl, go_of (s := { s with heap := h', toks := tk }) e cc dd hno ⟨.str ⟨#[c]⟩, H, I1, ⟨u, rfl⟩, ⟨rfl, c, hcx, rfl⟩, st', fun b hb => (hf b hb).1⟩⟩
  done := by
    intro X hP hw hK hc i pins s σ H E I hf st hg
    subst hP hw hK
    obtain ⟨f0, f1, f2, f3, f4, f5⟩ := hf it (by simp)
    have hx : x.cps[i]? = none := Array.getElem?_eq_none hg
    rcases hty with e | e
    · rw [e] at st
      exact wpAny_pyNext_ascii_end (I.ok.hd hc) st hx fun h' eb => ⟨rfl, I.turned (t' := s.toks) (fun b o hb e => eb b o hb e) f0 f1 f3 f4 f5⟩
    · rw [e] at st
      exact wpAny_pyNext_wide_end (I.ok.hd hc) st hx fun h' eb => ⟨rfl, I.turned (t' := s.toks) (fun b o hb e => eb b o hb e) f0 f1 f3 f4 f5⟩
  self := fun A i s Q E st h => by
    rcases hty with e | e
    · rw [e] at st; exact wpAny_pyIter_striter_ascii st h
    · rw [e] at st; exact wpAny_pyIter_striter_wide st h
def iStr (te : TE) : TI := fun σ H R => te σ H fun v H1 => ∃ x, v = .str x ∧ R (Its x) H1
theorem pi_str {X : Cx} {tg e : Expr} {te : TE} (he : PE X e te) : PI X tg e (iStr te) := by
  intro pins s σ H R I h
  refine thn (he pins s σ H _ I h) fun v s1 ⟨y, H1, I1, r1, x, ex, q⟩ => ?_
  subst ex
  obtain ⟨t, rfl⟩ := r1
  cases ha : x.cps.all (· < 128)
  · exact wpAny_pyIter_wide ha (pi_one (tk := s1.toks) I1 _ (turn_str _ x t "str_iterator" (.inr rfl)) ⟨_, Heap.get?_push_size _ rfl, rfl, rfl⟩ q)
  · exact wpAny_pyIter_ascii ha (pi_one (tk := s1.toks) I1 _ (turn_str _ x t "str_ascii_iterator" (.inl rfl)) ⟨_, Heap.get?_push_size _ rfl, rfl, rfl⟩ q)
section
variable {prog : Program} {w : World} {A : Around} {E : Value → Shared → Prop} {s : Shared}
end
section
variable {X : Cx} {pins : List (Addr × Obj)} {σ : St} {H : Hp} {s : Shared} {d : Addr} {o : Obj}
end
def Itk (d : Addr) (o : Obj) (kvs : List (Key × V)) : It :=
  ⟨fun i H => H d = some (.frz o (.dK kvs)) ∧ i < kvs.length, fun i H x H' => H' = H ∧ ∃ k v, kvs[i]? = some (k, v) ∧ x = kV k, fun i H => H d = some (.frz o (.dK kvs)) ∧ kvs.length ≤ i⟩
def Itkt (d : Addr) (o : Obj) (kvs : List (List Key × V)) : It :=
  ⟨fun i H => H d = some (.frz o (.dT kvs)) ∧ i < kvs.length, fun i H x H' => H' = H ∧ ∃ (k : List Key) (v : V) (q : Addr), kvs[i]? = some (k, v) ∧ x = .ref q ∧ H q = some (.tup (k.map kV)), fun i H => H d = some (.frz o (.dT kvs)) ∧ kvs.length ≤ i⟩
def Itd (d : Addr) (o : Obj) (kvs : List (Key × V)) : It :=
  ⟨fun i H => H d = some (.frz o (.dK kvs)) ∧ i < kvs.length, fun i H x H' => H' = H ∧ ∃ k, kvs[i]? = some (k, x), fun i H => H d = some (.frz o (.dK kvs)) ∧ kvs.length ≤ i⟩
def Iti (d : Addr) (o : Obj) (kvs : List (Key × V)) : It :=
  ⟨fun i H => H d = some (.frz o (.dK kvs)) ∧ i < kvs.length, fun i H x H' => ∃ T k v, kvs[i]? = some (k, v) ∧ x = .ref T ∧ H T = none ∧ H' = upd H T (.tup [kV k, v]), fun i H => H d = some (.frz o (.dK kvs)) ∧ kvs.length ≤ i⟩
section
variable {P : Program} {w : World} {K : PySem.W.Frag} {tg : Expr} {d : Addr} {o : Obj} {es : Array DictEntry} {ep : Nat}
end
def iKeys (td : TE) : TI := fun σ H R => td σ H fun x H1 => ∃ d o, x = .ref d ∧ ((∃ kvs, H1 d = some (.frz o (.dK kvs)) ∧ R (Itk d o kvs) H1) ∨ ∃ kvs, H1 d = some (.frz o (.dT kvs)) ∧ R (Itkt d o kvs) H1)
def iVals (td : TE) : TI := fun σ H R => td σ H fun x H1 => ∃ d o kvs, x = .ref d ∧ H1 d = some (.frz o (.dK kvs)) ∧ R (Itd d o kvs) H1
def iItems (td : TE) : TI := fun σ H R => td σ H fun x H1 => ∃ d o kvs, x = .ref d ∧ H1 d = some (.frz o (.dK kvs)) ∧ R (Iti d o kvs) H1
def iKeysM (td : TE) : TI := fun σ H R => td σ H fun x H1 => ∃ d o kvs, x = .ref d ∧ H1 d = some (.frz o (.dK kvs)) ∧ R (Itk d o kvs) H1
section
variable {X : Cx} {tg e : Expr} {td : TE} {apos cpos : Pos}
end
def Ite (K : PySem.W.Frag) (a : Addr) : It :=
  ⟨fun i H => ∃ (xs : List V) (x : V), SqL K H a xs ∧ xs[i]? = some x, fun i H v H' => ∃ T x, v = .ref T ∧ H T = none ∧ H' = upd H T (.tup [.int (i : Nat), x]) ∧ ∀ xs, SqL K H a xs → xs[i]? = some x, fun i H => ∃ xs : List V, SqL K H a xs ∧ xs.length ≤ i⟩
theorem turn_enum {P : Program} {w : World} {K : PySem.W.Frag} {elts : List Expr} {kk : Nat} {tpos : Pos} (a e it : Addr) :
    Turn P w K (.Tuple elts kk tpos) (Ite K a) [e, it] e (fun i h => (∃ old, IsEnum h e it ((i : Nat) : Int) old) ∧ h.IsListIter it a i ∧ e ≠ it) where
  mem := by simp
  obj := fun i h st b hb => by
    obtain ⟨⟨old, he⟩, ⟨o, ho, hc, hd⟩, _⟩ := st
    have e' : b = e ∨ b = it := by simpa using hb
    rcases e' with z | z
    · rw [z]; exact ⟨_, he, fun v q => nomatch q⟩
    · rw [z]; exact ⟨o, ho, fun v q => by rw [hd] at q; cases q⟩
  keep := fun i h h' st k => let ⟨⟨old, he⟩, hi, hne⟩ := st; ⟨⟨old, k e (by simp) _ he⟩, hi.at fun o q => k it (by simp) o q, hne⟩
  item := by
    intro X hP hw hK hc i pins s σ H E I hf st hg
    subst hP hw hK
    obtain ⟨⟨old, he⟩, hit, hne⟩ := st
    obtain ⟨xs, x, hq, hx⟩ := hg
    obtain ⟨its, rv, p, hz⟩ := I.list hq
    obtain ⟨u, hu, ru⟩ := rv.get hx
    have hel : e < s.heap.objs.size := Heap.lt_size he
    have hil : it < s.heap.objs.size := by obtain ⟨_, q, _⟩ := hit; exact Heap.lt_size q
    refine wpAny_pyNext_enum_item he hit p.isList (x := u) (by simpa using hu) hne fun h' ho hit' hT hsz hk => ?_
    refine ⟨_, rfl, wpAny_letOwnedTupleGo_enum (s := { s with heap := h', toks := s.toks + 1 }) ho fun h'' he' sb => ?_⟩
    have hT2 : h''.get? s.heap.objs.size = some { cls := .type "tuple", data := .seq #[.int i s.toks, u] } := (sb.2 _ (Nat.ne_of_gt hel)).trans hT
    have new : ObjOk X.prog X.w (upd H s.heap.objs.size (.tup [.int (i : Nat), x])) h'' s.heap.objs.size (.tup [.int (i : Nat), x]) :=
      ⟨by show 2 ≤ sizeLine; decide, [.int i s.toks, u], .cons ⟨_, rfl⟩ (.cons ru .nil), ⟨_, hT2, rfl, _, rfl⟩⟩
    have I1 : Inv X pins σ (upd H s.heap.objs.size (.tup [.int (i : Nat), x])) { s with heap := h'', toks := s.toks + 1 } :=
      I.turnedNew (ch := [e, it]) (fun b ob hb q => (sb.2 b (fun z => hb (by simp [z]))).trans (hk b ob (fun z => hb (by simp [z])) (fun z => hb (by simp [z])) q)) hf (Nat.le_refl _) new
    refine ⟨.ref s.heap.objs.size, _, I1, rfl, ⟨_, x, rfl, I.hok.fresh (Nat.le_refl _), rfl, fun ys hy => by rw [I.list_inj hy hq]; exact hx⟩, ⟨⟨u, ?_⟩, hit'.at fun o q => (sb.2 it (Ne.symm hne)).trans q, hne⟩, fun b hb => ?_⟩
    · have e1 : ((i + 1 : Nat) : Int) = (i : Int) + 1 := by omega
      rw [e1]; exact he'
    · have hb' : b < s.heap.objs.size := by
        have e' : b = e ∨ b = it := by simpa using hb
        rcases e' with z | z
        · rw [z]; exact hel
        · rw [z]; exact hil
      rw [upd_ne (Nat.ne_of_lt hb')]
      exact (hf b hb).1
  done := by
    intro X hP hw hK hc i pins s σ H E I hf st hg
    subst hP hw hK
    obtain ⟨⟨old, he⟩, hit, hne⟩ := st
    obtain ⟨xs, hq, hx⟩ := hg
    obtain ⟨its, rv, p, hz⟩ := I.list hq
    obtain ⟨f0, f1, f2, f3, f4, f5⟩ := hf it (by simp)
    have hl := rv.length
    exact wpAny_pyNext_enum_end (I.ok.hd hc) he hit p.isList (by simp; omega) fun h' eb => ⟨rfl, I.turned (t' := s.toks) (fun b o hb q => eb b o hb q) f0 f1 f3 f4 f5⟩
  self := fun A i s Q E st h => let ⟨⟨_, he⟩, _⟩ := st; wpAny_pyIter_enum he h
def iEnum (K : PySem.W.Frag) (ta : TA) : TI := fun σ H R => ta σ H fun vs H1 => ∃ a xs, vs = [.ref a] ∧ SqL K H1 a xs ∧ R (Ite K a) H1
theorem pi_enum {X : Cx} {e : Expr} {ta : TA} {p pos tpos : Pos} {elts : List Expr} {kk : Nat} (hg : Gl X "enumerate") (hm : X.mg "enumerate" = none) (ha : PA X [e] ta) (hs : starEach [e] X.env = [(false, eval e X.env)] := by rfl) :
    PI X (.Tuple elts kk tpos) (.Call (.Name "enumerate" p) [e] [] pos) (iEnum X.K ta) := by
  intro pins s σ H R I h
  refine Call_ (ld_blt I hg hm boot_enumerate (PyProof.Rows.callWith_type1 (thn (ha pos pins s σ H _ I h) fun us s1 ⟨vs, H1, I1, r1, q1⟩ => ?_) hs rfl))
  obtain ⟨a, xs, ex, hq, q⟩ := q1
  subst ex
  cases r1 with
  | cons r rr =>
    cases rr
    cases r
    obtain ⟨its, rv, p', hz⟩ := I1.list hq
    refine call_enumerate_list p'.isList fun h' he hit hsz hk => wpAny_pyIter_enum he ?_
    have I2 : Inv X pins σ H1 { s1 with heap := h' } := I1.kept (t' := s1.toks) hk
    refine ⟨s1.heap.objs.size + 1, [s1.heap.objs.size + 1, s1.heap.objs.size], _, _, H1, rfl, I2, turn_enum a (s1.heap.objs.size + 1) s1.heap.objs.size, ⟨⟨.none, he⟩, hit, Nat.succ_ne_self _⟩, fun b hb => ?_, q⟩
    have e' : b = s1.heap.objs.size + 1 ∨ b = s1.heap.objs.size := by simpa using hb
    have hle : s1.heap.objs.size ≤ b := by
      rcases e' with z | z
      · rw [z]; exact Nat.le_add_right _ _
      · rw [z]; exact Nat.le_refl _
    exact I1.fpOk hle (I1.hok.fresh hle)
def Itz (K : PySem.W.Frag) (a b : Addr) : It :=
  ⟨fun i H => ∃ (xs ys : List V) (x y : V), SqL K H a xs ∧ SqL K H b ys ∧ xs[i]? = some x ∧ ys[i]? = some y,
    fun i H v H' => ∃ T x y, v = .ref T ∧ H T = none ∧ H' = upd H T (.tup [x, y]) ∧ (∀ xs, SqL K H a xs → xs[i]? = some x) ∧ ∀ ys, SqL K H b ys → ys[i]? = some y,
    fun i H => ∃ xs ys : List V, SqL K H a xs ∧ SqL K H b ys ∧ (xs.length ≤ i ∨ ys.length ≤ i)⟩
def iZip (K : PySem.W.Frag) (ta : TA) : TI := fun σ H R => ta σ H fun vs H1 => ∃ a b xs ys, vs = [.ref a, .ref b] ∧ SqL K H1 a xs ∧ SqL K H1 b ys ∧ R (Itz K a b) H1
end L2
section 
namespace Bits
open PySem PyProof.Rows
end Bits
end 
section 
namespace TL
open PySem PySem.Builtin PySem.Builtin.Str PySem.StrLaws
abbrev tl (x : Str) : List Nat := x.cps.toList
def pre (S l : List Nat) : Bool := l.take S.length == S
def spl (S : List Nat) : Nat → List Nat → List Nat → List (List Nat)
  | _, acc, [] => [acc]
  | 0, acc, c :: r => if pre S (c :: r) = true then acc :: spl S (S.length - 1) [] r else spl S 0 (acc ++ [c]) r
  | k + 1, acc, _ :: r => spl S k acc r
def par (S : List Nat) : List Nat → List Nat → Option (List Nat × List Nat)
  | _, [] => none
  | acc, c :: r => if pre S (c :: r) = true then some (acc, (c :: r).drop S.length) else par S (acc ++ [c]) r
def joinL (S : List Nat) : List (List Nat) → List Nat
  | [] => []
  | [p] => p
  | p :: q :: r => p ++ (S ++ joinL S (q :: r))
def numL (n : Nat) : List Nat := (Nat.toDigits 10 n).map Char.toNat
def wstep (st : List (List Nat) × List Nat) (c : Nat) : List (List Nat) × List Nat :=
  if Unicode.isSpace c = true then (if st.2 = [] then st else (st.1 ++ [st.2], [])) else (st.1, st.2 ++ [c])
def wfin (st : List (List Nat) × List Nat) : List (List Nat) := if st.2 = [] then st.1 else st.1 ++ [st.2]
end TL
end 
namespace L2
open PySem PySem.Spec PyProof.Rows
def rNewStrs (ys : List Str) : Hp → VK → Prop := fun H Q => ∀ p, H p = none → Q (.ref p) (upd H p (.lst (ys.map V.str)))
section
variable {X : Cx} {pins : List (Addr × Obj)} {σ : St} {H : Hp} {s : Shared} {Q : VK}
end
section
variable {X : Cx}
end
section
variable {X : Cx} {o e : Expr} {to te : TE}
def tM0 (r : V → List V → Hp → VK → Prop) (to : TE) : TE := fun σ H Q => to σ H fun x H1 => (∃ a, x = .str a) ∧ r x [] H1 Q
def tM1 (r : V → List V → Hp → VK → Prop) (to te : TE) : TE := fun σ H Q => to σ H fun x H1 => (∃ a, x = .str a) ∧ te σ H1 fun y H2 => r x [y] H2 Q
end
end L2
namespace L2
open PySem PySem.Spec PyProof.Rows
section
variable {X : Cx}
end
def clipS (n d : Nat) : Option Int → Int
  | none => (d : Int)
  | some i => max 0 (min (if i < 0 then i + (n : Int) else i) (n : Int))
def cutS (z : Str) (lo hi : Option Int) : Str :=
  ⟨((z.cps.toList.drop (HT.sIx z.length 0 lo)).take (HT.sIx z.length z.length hi - HT.sIx z.length 0 lo)).toArray⟩
def rSlS : V → Option Int → Option Int → Hp → VK → Prop := fun x lo hi H Q => ∃ z, x = .str z ∧ z.length ≤ sizeLine ∧ Q (.str (cutS z lo hi)) H
end L2
namespace Att
open PySem PySem.W PySem.Calls PyProof.Rows
section
variable {prog : Program} {w : World} {A : Around} {E : Value → Shared → Prop} {s : Shared} {K : Frag}
def noObjs (h : Heap) : Heap := { h with objs := #[] }
def ledger (h : Heap) (L d : Addr) : List (Addr × Obj) := (List.range h.objs.size).filterMap fun a => if a = L ∨ a = d then none else (h.get? a).map fun o => (a, o)
end
end Att
namespace L2
open PySem PySem.Spec PyProof.Rows
def Only (H : Hp) : Prop := ∀ b, H b = none ∨ ∃ o xs, H b = some (.frz o (.lst xs))
end L2
namespace L2
open PySem PySem.Spec PyProof.Rows
abbrev KOf {K : PySem.W.Frag} {h : Heap} (_ : K.In h) : PySem.W.Frag := K
end L2
namespace L2
open PySem PySem.Spec PyProof.Rows
def inClass (s : Stmt) (j : Nat) : Stmt := match s with
  | .ClassDef _ _ _ body _ _ _ _ _ _ _ => body.getD j (.Pass ⟨0, 0, 0, 0⟩)
  | _ => .Pass ⟨0, 0, 0, 0⟩
def defArgs (s : Stmt) : Arguments := match s with
  | .FunctionDef _ a _ _ _ _ _ _ _ _ => a
  | _ => { posonlyargs := [], args := [], vararg := none, kwonlyargs := [], kw_defaults := [], kwarg := none, defaults := [] }
def defBody (s : Stmt) : List Stmt := match s with
  | .FunctionDef _ _ b _ _ _ _ _ _ _ => b
  | _ => []
def defScope (s : Stmt) : Scope := match s with
  | .FunctionDef _ _ _ _ _ _ sc _ _ _ => sc
  | _ => { kind := .function, names := [], isGenerator := false, isCoroutine := false }
abbrev CX0 : CXT := fun _ _ _ _ _ _ => False
abbrev E0 : XK := fun _ _ _ => False
theorem pass0 {X : Cx} : Passes CX0 X E0 := fun _ _ _ _ _ _ _ h => h.elim
structure Fun (K : PySem.W.Frag) (x qual : Str) (st : Stmt) (f : Addr) (fd : FuncData) : Prop where
  ex : ∃ (oc : Value) (od : Option Addr) (kV doc pm : Value) (an : Option Addr) (cdv ct : Value) (osl : Array (Option Value)),
    fd = PySem.W.fnOf x qual (defArgs st) (defBody st) (defScope st) .none kV doc pm an cdv ct ∧ K.lookup f = some ⟨oc, od, .func fd, osl⟩ ∧ PySem.W.codeIn K cdv qual = true
  kp : PySem.W.keepIn K (.ref f) = true
section
variable {P : Program} {w : World} {K : PySem.W.Frag} {mg : Str → Option Value} {base : Heap}
theorem Fun.ok {x qual : Str} {st : Stmt} {f : Addr} {fd : FuncData} {N ps : List Str} {k : Nat} {sp : Sp} (F : Fun K x qual st f fd) (S : FnScope N ps (defScope st)) (len : ∀ vs H Q E, sp vs H Q E → vs.length = ps.length)
    (hbody : ∀ (cdv : Value) (A : Around) (outer : List Env) (s : Shared) (H : Hp) (vs : List V) (Q : VK) (E : XK), Room k (A.deeper (envOfC qual (defScope st) s.heap.objs.size f cdv)) → sp vs H Q E →
      ∃ t, PSs (cxOf CX0 P w K mg base N qual (defScope st) f cdv A outer s H E).nox (defBody st) t ∧ t { nx := fun _ H' => Q .non H', rt := Q } (start N vs) H) : FnOk P w K mg base CX0 (k + 1) f fd ps sp := by
  obtain ⟨oc, od, kV, doc, pm, an, cdv, ct, osl, rfl, lk, hcd⟩ := F.ex
  refine fn_of lk hcd S len fun A outer s H vs Q E hr hsp => ?_
  obtain ⟨t, h, q⟩ := hbody cdv A outer s H vs Q E hr hsp
  exact ⟨t, h.nox, q⟩
theorem Fun.binds {x qual : Str} {st : Stmt} {f : Addr} {fd : FuncData} {ps : List Str} (F : Fun K x qual st f fd)
    (h : ∀ (kV doc pm : Value) (an : Option Addr) (cdv ct : Value) (us : List Value), us.length = ps.length → bindArgs (PySem.W.fnOf x qual (defArgs st) (defBody st) (defScope st) .none kV doc pm an cdv ct) ⟨us, []⟩ = pure (ps.zip us)) : Binds K fd ps [] := by
  obtain ⟨oc, od, kV, doc, pm, an, cdv, ct, osl, rfl, lk, hcd⟩ := F.ex
  exact .all (h kV doc pm an cdv ct)
theorem fun_mk {x qual : Str} {st : Stmt} {f : Addr} {oc : Value} {od an : Option Addr} {osl : Array (Option Value)} {kV doc pm cdv ct : Value} (l : K.lookup f = some ⟨oc, od, .func (PySem.W.fnOf x qual (defArgs st) (defBody st) (defScope st) .none kV doc pm an cdv ct), osl⟩)
    (c : PySem.W.codeIn K cdv qual = true) (k : PySem.W.keepIn K (.ref f) = true) : Fun K x qual st f (PySem.W.fnOf x qual (defArgs st) (defBody st) (defScope st) .none kV doc pm an cdv ct) := ⟨⟨oc, od, kV, doc, pm, an, cdv, ct, osl, rfl, l, c⟩, k⟩
end
theorem small1000 {n : Nat} (h : n ≤ 1000) : n < sizeLine := Nat.lt_of_le_of_lt h (by decide)
section
variable {X : Cx}
theorem pv (i : Nat) {x : Str} {pos : Pos} (hN : X.N[i]? = some x := by rfl) (hv : Vis X.env.scope x := by first | exact Or.inl rfl | exact Or.inr (Or.inl rfl) | exact Or.inr (Or.inr rfl)) (hd : (x == ("__debug__" : Str)) = false := by decide)
    (hcd : (x == ("__classdict__" : Str)) = false := by decide) : PE X (.Name x pos) (tVar i) := pe_var hN hv hd hcd
end
theorem iteF {A B : Prop} (h : B) : if false = true then A else B := by
  rw [if_neg Bool.false_ne_true]
  exact h
theorem iteT {A B : Prop} (h : A) : if true = true then A else B := by
  rw [if_pos rfl]
  exact h
theorem ite2 {c A B : Prop} [Decidable c] (h1 : c → A) (h2 : ¬ c → B) : if c then A else B := by
  by_cases h : c
  · rw [if_pos h]
    exact h1 h
  · rw [if_neg h]
    exact h2 h
def Same (H H' : Hp) : Prop := ∀ b o, H b = some o → H' b = some o
theorem Same.refl (H : Hp) : Same H H := fun _ _ h => h
theorem Same.trans {H H1 H2 : Hp} (a : Same H H1) (b : Same H1 H2) : Same H H2 := fun c o h => b c o (a c o h)
theorem Same.seq {K : PySem.W.Frag} {H H' : Hp} {a : Addr} {xs : List V} (e : Same H H') (h : SqL K H a xs) : SqL K H' a xs := by
  rcases h with (h | ⟨o, h⟩) | h
  · exact .inl (.inl (e _ _ h))
  · exact .inl (.inr ⟨o, e _ _ h⟩)
  · exact .inr h
section
variable {κ : Type} [DecidableEq κ]
end
theorem at_of {xs : List V} {z : Int} {j : Nat} {v : V} (e : z = (j : Int)) (h : xs[j]? = some v) : atI xs z = some v := by
  rw [e]
  exact atI_nat h
end L2
section
set_option Elab.async false
set_option linter.all false
set_option maxRecDepth 100000
set_option maxHeartbeats 2000000
namespace L2
open PySem PySem.Spec PyProof.Rows
open PySem.W (WData Codec OpenSpec Well WellAll ReadsW ReadsAllW)
mutual
inductive Dw (K : PySem.W.Frag) (H : Hp) : V → WData → Prop
  | non : Dw K H .non .none
  | bl (b : Bool) : Dw K H (.bl b) (.bool b)
  | int (i : Int) : Dw K H (.int i) (.int i)
  | str (x : Str) : Dw K H (.str x) (.str x)
  | byt (b : Array UInt8) : Dw K H (.byt b) (.bytes b.toList)
  | lst {a : Addr} {xs : List V} {ds : List WData} : SqL K H a xs → DwAll K H xs ds → Dw K H (.ref a) (.list ds)
  | tup {a : Addr} {xs : List V} {ds : List WData} : SqT K H a xs → DwAll K H xs ds → Dw K H (.ref a) (.tuple ds)
inductive DwAll (K : PySem.W.Frag) (H : Hp) : List V → List WData → Prop
  | nil : DwAll K H [] []
  | cons {v : V} {vs : List V} {d : WData} {ds : List WData} : Dw K H v d → DwAll K H vs ds → DwAll K H (v :: vs) (d :: ds)
end
theorem dw_ints {K : PySem.W.Frag} {H : Hp} : ∀ ns : List Int, DwAll K H (ns.map V.int) (ns.map WData.int)
  | [] => .nil
  | n :: r => .cons (.int n) (dw_ints r)
theorem ints_dw {K : PySem.W.Frag} {H : Hp} : ∀ (ns : List Int) (xs : List V), DwAll K H xs (ns.map WData.int) → xs = ns.map V.int
  | [], xs, h => by
    cases h
    rfl
  | n :: r, xs, h => by
    cases h with
    | cons h1 h2 =>
      cases h1
      rw [ints_dw r _ h2] <;> rfl
section
variable {P : Program} {w : World} {K : PySem.W.Frag} {H : Hp} {h : Heap} {R : PySem.W.WRecords} {cl : Str → Option Addr}
theorem sqL_at {a : Addr} {xs : List V} (hok : HOk P w H h) (KX : K.In h) (q : SqL K H a xs) : ∃ (its : List Value) (o : Obj) (n : Nat), Vals xs its ∧ h.get? a = some o ∧ o.cls = .type "list" ∧ o.data = .seq its.toArray n := by
  rcases q with q | ⟨o, its, n, e, hc, _, hd, _, hv⟩
  · obtain ⟨_, its, n, hv, e⟩ := (show ObjOk P w H h a (.lst xs) from q.ok hok)
    exact ⟨its, _, n, hv, e, rfl, rfl⟩
  · exact ⟨its.toList, o, n, hv, KX _ _ e, hc, by simp [hd]⟩
theorem sqT_at {a : Addr} {xs : List V} (hok : HOk P w H h) (KX : K.In h) (q : SqT K H a xs) : ∃ (its : List Value) (o : Obj) (n : Nat), Vals xs its ∧ h.get? a = some o ∧ o.cls = .type "tuple" ∧ o.data = .seq its.toArray n := by
  rcases q with q | ⟨o, its, n, e, hc, hd, _, hv⟩
  · obtain ⟨_, its, hv, o, e, hc, n, hd⟩ := (show ObjOk P w H h a (.tup xs) from q.ok hok)
    exact ⟨its, o, n, hv, e, hc, hd⟩
  · exact ⟨its.toList, o, n, hv, KX _ _ e, hc, by simp [hd]⟩
mutual
theorem Dw.reads (hok : HOk P w H h) (KX : K.In h) : ∀ (d : WData) (v : V) (u : Value), Dw K H v d → RelV v u → ∃ as, ReadsW R cl h u d as
  | .none, _, _, x, r => by
    cases x
    cases r
    exact ⟨_, ReadsW.none⟩
  | .bool b, _, _, x, r => by
    cases x
    cases r
    exact ⟨_, ReadsW.bool b⟩
  | .int i, _, _, x, r => by
    cases x
    obtain ⟨t, rfl⟩ := r
    exact ⟨_, ReadsW.int i t⟩
  | .str s, _, _, x, r => by
    cases x
    obtain ⟨t, rfl⟩ := r
    exact ⟨_, ReadsW.str s t⟩
  | .bytes b, _, _, x, r => by
    cases x
    obtain ⟨t, rfl⟩ := r
    exact ⟨_, ReadsW.bytes _ t⟩
  | .list ds, _, _, x, r => by
    cases x with
    | lst hs ha =>
      cases r
      obtain ⟨its, o, n, rv, ho, hc, hd⟩ := sqL_at hok KX hs
      obtain ⟨as, hr⟩ := Dw.readsAll hok KX ds _ its ha rv
      exact ⟨_, ReadsW.list ho hc hd hr⟩
  | .tuple ds, _, _, x, r => by
    cases x with
    | tup hs ha =>
      cases r
      obtain ⟨its, o, n, rv, ho, hc, hd⟩ := sqT_at hok KX hs
      obtain ⟨as, hr⟩ := Dw.readsAll hok KX ds _ its ha rv
      exact ⟨_, ReadsW.tuple ho hc hd hr⟩
  | .float _, _, _, x, _ => by cases x
  | .dict _, _, _, x, _ => by cases x
  | .bytearray _, _, _, x, _ => by cases x
  | .set _, _, _, x, _ => by cases x
  | .frozenset _, _, _, x, _ => by cases x
  | .obj _ _, _, _, x, _ => by cases x
theorem Dw.readsAll (hok : HOk P w H h) (KX : K.In h) : ∀ (ds : List WData) (vs : List V) (us : List Value), DwAll K H vs ds → Vals vs us → ∃ as, ReadsAllW R cl h us ds as
  | [], _, _, x, r => by
    cases x
    cases r
    exact ⟨_, ReadsAllW.nil⟩
  | d :: ds, _, _, x, r => by
    cases x with
    | cons h1 h2 =>
      cases r with
      | cons r1 r2 =>
        obtain ⟨as, q1⟩ := Dw.reads hok KX d _ _ h1 r1
        obtain ⟨bs, q2⟩ := Dw.readsAll hok KX ds _ _ h2 r2
        exact ⟨_, ReadsAllW.cons q1 q2⟩
end
end
mutual
def plW : WData → Bool
  | .none => true
  | .bool _ => true
  | .int _ => true
  | .str _ => true
  | .bytes _ => true
  | .list xs => plWs xs
  | .tuple xs => plWs xs
  | _ => false
def plWs : List WData → Bool
  | [] => true
  | x :: r => plW x && plWs r
end
theorem plWs_map {α : Type} {f : α → WData} (h : ∀ a, plW (f a) = true) : ∀ l : List α, plWs (l.map f) = true
  | [] => rfl
  | x :: r => by
    show (plW (f x) && plWs (r.map f)) = true
    rw [h x, plWs_map h r] <;> rfl
theorem pl_enc : ∀ (c : Codec) (a : c.denote), plW (c.enc a) = true
  | .unit, _ => rfl
  | .bool, _ => rfl
  | .int _ _, _ => rfl
  | .nat _ _, _ => rfl
  | .u8, _ => rfl
  | .bytes _ _, _ => rfl
  | .text _ _ _ _, _ => rfl
  | .list _ _ c, a => plWs_map (fun x => pl_enc c x) a
  | .pair c d, a => by
    show (plW (c.enc a.1) && (plW (d.enc a.2) && true)) = true
    rw [pl_enc c a.1, pl_enc d a.2] <;> rfl
  | .triple c d e, a => by
    show (plW (c.enc a.1) && (plW (d.enc a.2.1) && (plW (e.enc a.2.2) && true))) = true
    rw [pl_enc c a.1, pl_enc d a.2.1, pl_enc e a.2.2] <;> rfl
  | .option c, none => rfl
  | .option c, some x => pl_enc c x
theorem pl_encAll : ∀ (cs : List Codec) (a : Codec.denoteAll cs), plWs (Codec.encAll cs a) = true
  | [], _ => rfl
  | c :: cs, a => by
    show (plW (c.enc a.1) && plWs (Codec.encAll cs a.2)) = true
    rw [pl_enc c a.1, pl_encAll cs a.2] <;> rfl
theorem weight_mem : ∀ {xs : List WData} {d : WData}, d ∈ xs → d.weight ≤ WData.weightAll xs
  | [], d, h => absurd h (by simp)
  | x :: r, d, h => by
    show d.weight ≤ x.weight + 1 + WData.weightAll r
    rcases List.mem_cons.mp h with e | m
    · rw [e]
      omega
    · have z := weight_mem m
      omega
def toV : Value → V
  | .none => .non
  | .bool b => .bl b
  | .int i _ => .int i
  | .str x _ => .str x
  | .bytes b _ => .byt b
  | .ref a => .ref a
  | _ => .non
def OkU (A : List Addr) : Value → Prop
  | .none => True
  | .bool _ => True
  | .int _ _ => True
  | .str _ _ => True
  | .bytes _ _ => True
  | .ref a => a ∈ A
  | _ => False
theorem OkU.mono {A B : List Addr} (h : ∀ a ∈ A, a ∈ B) : ∀ {u : Value}, OkU A u → OkU B u := fun {u} x => by
  cases u with
  | ref a => exact h a x
  | none => trivial
  | bool b => trivial
  | int i t => trivial
  | str s t => trivial
  | bytes b t => trivial
  | _ => exact False.elim x
theorem relV_toV {A : List Addr} {u : Value} (x : OkU A u) : RelV (toV u) u := by
  cases u with
  | ref a => rfl
  | none => rfl
  | bool b => rfl
  | int i t => exact ⟨t, rfl⟩
  | str s t => exact ⟨t, rfl⟩
  | bytes b t => exact ⟨t, rfl⟩
  | _ => exact False.elim x
theorem vals_toV {A : List Addr} : ∀ {vs : List Value}, (∀ u ∈ vs, OkU A u) → Vals (vs.map toV) vs
  | [], _ => .nil
  | u :: r, h => .cons (relV_toV (h u (List.mem_cons_self ..))) (vals_toV fun x hx => h x (List.mem_cons_of_mem _ hx))
def ArgOb (h : Heap) (A : List Addr) (a : Addr) : Prop := ∃ vs : List Value, vs.length ≤ sizeLine ∧ (∀ u ∈ vs, OkU A u) ∧
  (h.get? a = some { cls := .type "list", data := .seq vs.toArray } ∨ h.get? a = some { cls := .type "tuple", data := .seq vs.toArray })
theorem ArgOb.mono {h : Heap} {A B : List Addr} {a : Addr} (k : ∀ a ∈ A, a ∈ B) (x : ArgOb h A a) : ArgOb h B a := by
  obtain ⟨vs, h1, h2, h3⟩ := x
  exact ⟨vs, h1, fun u hu => (h2 u hu).mono k, h3⟩
theorem wellAll_len {P : Params} {h : Heap} : ∀ {vs : List Value} {ds : List WData}, WellAll P h vs ds → vs.length = ds.length
  | _, _, .nil => rfl
  | _, _, .cons _ b => by
    show _ + 1 = _ + 1
    rw [wellAll_len b]
theorem well_list {P : Params} {h : Heap} {v : Value} {ds : List WData} (x : Well P h v (.list ds)) : ∃ (a : Addr) (vs : List Value), v = .ref a ∧ h.get? a = some { cls := .type "list", data := .seq vs.toArray } ∧ WellAll P h vs ds := by
  cases x with
  | list ho hall => exact ⟨_, _, rfl, ho, hall⟩
theorem well_tuple {P : Params} {h : Heap} {v : Value} {ds : List WData} (x : Well P h v (.tuple ds)) : ∃ (a : Addr) (vs : List Value), v = .ref a ∧ h.get? a = some { cls := .type "tuple", data := .seq vs.toArray } ∧ WellAll P h vs ds := by
  cases x with
  | tuple ho hall => exact ⟨_, _, rfl, ho, hall⟩
theorem well_cons {P : Params} {h : Heap} {us : List Value} {d : WData} {ds : List WData} (x : WellAll P h us (d :: ds)) : ∃ (v : Value) (vs : List Value), us = v :: vs ∧ Well P h v d ∧ WellAll P h vs ds := by
  cases x with
  | cons a b => exact ⟨_, _, rfl, a, b⟩
theorem line_of {n : Nat} (h : n ≤ 1048576) : n ≤ sizeLine := Nat.le_trans h (by decide)
section
variable {P : Params} {h : Heap}
mutual
theorem area_one : ∀ (d : WData) (v : Value), Well P h v d → plW d = true → d.weight ≤ 1048576 → ∃ A : List Addr, OkU A v ∧ ∀ a ∈ A, ArgOb h A a
  | .none, _, x, _, _ => by
    cases x
    exact ⟨[], trivial, fun a m => absurd m (by simp)⟩
  | .bool b, _, x, _, _ => by
    cases x
    exact ⟨[], trivial, fun a m => absurd m (by simp)⟩
  | .int i, _, x, _, _ => by
    cases x
    exact ⟨[], trivial, fun a m => absurd m (by simp)⟩
  | .str s, _, x, _, _ => by
    cases x
    exact ⟨[], trivial, fun a m => absurd m (by simp)⟩
  | .bytes b, _, x, _, _ => by
    cases x
    exact ⟨[], trivial, fun a m => absurd m (by simp)⟩
  | .list ds, _, x, p, z => by
    obtain ⟨a, vs, rfl, ho, hall⟩ := well_list x
    have z2 : WData.weightAll ds ≤ 1048576 := z
    obtain ⟨A, h1, h2⟩ := area_all ds _ hall p fun d hd => Nat.le_trans (weight_mem hd) z2
    have k : ∀ b ∈ A, b ∈ a :: A := fun b hb => List.mem_cons_of_mem _ hb
    refine ⟨a :: A, List.mem_cons_self .., fun b hb => ?_⟩
    rcases List.mem_cons.mp hb with e | m
    · rw [e]
      exact ⟨vs, line_of (by rw [wellAll_len hall]; exact Nat.le_trans (PySem.W.length_le_weightAllW ds) z2), fun u hu => (h1 u hu).mono k, .inl ho⟩
    · exact (h2 b m).mono k
  | .tuple ds, _, x, p, z => by
    obtain ⟨a, vs, rfl, ho, hall⟩ := well_tuple x
    have z2 : WData.weightAll ds ≤ 1048576 := z
    obtain ⟨A, h1, h2⟩ := area_all ds _ hall p fun d hd => Nat.le_trans (weight_mem hd) z2
    have k : ∀ b ∈ A, b ∈ a :: A := fun b hb => List.mem_cons_of_mem _ hb
    refine ⟨a :: A, List.mem_cons_self .., fun b hb => ?_⟩
    rcases List.mem_cons.mp hb with e | m
    · rw [e]
      exact ⟨vs, line_of (by rw [wellAll_len hall]; exact Nat.le_trans (PySem.W.length_le_weightAllW ds) z2), fun u hu => (h1 u hu).mono k, .inr ho⟩
    · exact (h2 b m).mono k
  | .float _, _, _, p, _ => Bool.noConfusion (show false = true from p)
  | .dict _, _, _, p, _ => Bool.noConfusion (show false = true from p)
  | .bytearray _, _, _, p, _ => Bool.noConfusion (show false = true from p)
  | .set _, _, _, p, _ => Bool.noConfusion (show false = true from p)
  | .frozenset _, _, _, p, _ => Bool.noConfusion (show false = true from p)
  | .obj _ _, _, _, p, _ => Bool.noConfusion (show false = true from p)
theorem area_all : ∀ (ds : List WData) (vs : List Value), WellAll P h vs ds → plWs ds = true → (∀ d ∈ ds, d.weight ≤ 1048576) → ∃ A : List Addr, (∀ u ∈ vs, OkU A u) ∧ ∀ a ∈ A, ArgOb h A a
  | [], _, x, _, _ => by
    cases x
    exact ⟨[], fun u m => absurd m (by simp), fun a m => absurd m (by simp)⟩
  | d :: ds, _, x, p, z => by
    obtain ⟨v, vs, rfl, x1, x2⟩ := well_cons x
    have q : plW d = true ∧ plWs ds = true := Bool.and_eq_true_iff.mp p
    obtain ⟨A, a1, a2⟩ := area_one d v x1 q.1 (z d (List.mem_cons_self ..))
    obtain ⟨B, b1, b2⟩ := area_all ds vs x2 q.2 fun e he => z e (List.mem_cons_of_mem _ he)
    have kA : ∀ b ∈ A, b ∈ A ++ B := fun b hb => List.mem_append.mpr (.inl hb)
    have kB : ∀ b ∈ B, b ∈ A ++ B := fun b hb => List.mem_append.mpr (.inr hb)
    refine ⟨A ++ B, fun u hu => ?_, fun b hb => ?_⟩
    · rcases List.mem_cons.mp hu with e | m
      · rw [e]
        exact a1.mono kA
      · exact (b1 u m).mono kB
    · rcases List.mem_append.mp hb with m | m
      · exact (a2 b m).mono kA
      · exact (b2 b m).mono kB
end
end
def hoOf (o : Obj) : Option HO := match o.data with
  | .seq vs _ => if (o.cls == Value.type "list") = true then some (.frz o (.lst (vs.toList.map toV))) else some (.frz o (.tup (vs.toList.map toV)))
  | _ => none
def argH (K : PySem.W.Frag) (h : Heap) (A : List Addr) : Hp := fun b => if b ∈ A then (if (K.lookup b).isNone = true then (h.get? b).bind hoOf else none) else none
def OnlyF (H : Hp) : Prop := ∀ b, H b = none ∨ ∃ o u, H b = some (.frz o u)
theorem hoOf_lst (vs : List Value) : hoOf { cls := .type "list", data := .seq vs.toArray } = some (.frz { cls := .type "list", data := .seq vs.toArray } (.lst (vs.map toV))) := by
  show (if (Value.type "list" == Value.type "list") = true then some (HO.frz { cls := .type "list", data := .seq vs.toArray } (.lst (vs.toArray.toList.map toV))) else some (HO.frz { cls := .type "list", data := .seq vs.toArray } (.tup (vs.toArray.toList.map toV)))) = _
  rw [if_pos (beq_self_eq_true _)]
theorem hoOf_tup (vs : List Value) : hoOf { cls := .type "tuple", data := .seq vs.toArray } = some (.frz { cls := .type "tuple", data := .seq vs.toArray } (.tup (vs.map toV))) := by
  show (if (Value.type "tuple" == Value.type "list") = true then some (HO.frz { cls := .type "tuple", data := .seq vs.toArray } (.lst (vs.toArray.toList.map toV))) else some (HO.frz { cls := .type "tuple", data := .seq vs.toArray } (.tup (vs.toArray.toList.map toV)))) = _
  rw [if_neg (by decide)]
section
variable {P : Program} {w : World} {K : PySem.W.Frag} {h : Heap} {A : List Addr}
theorem argH_at {b : Addr} {o : Obj} (hb : b ∈ A) (hk : K.lookup b = none) (e : h.get? b = some o) : argH K h A b = hoOf o := by
  unfold argH
  rw [if_pos hb, hk, if_pos (show (none : Option Obj).isNone = true from rfl), e] <;> rfl
theorem of_argH {b : Addr} {u : HO} (q : argH K h A b = some u) : b ∈ A ∧ K.lookup b = none := by
  unfold argH at q
  by_cases hb : b ∈ A
  · rw [if_pos hb] at q
    cases hk : K.lookup b with
    | none => exact ⟨hb, rfl⟩
    | some o =>
      rw [hk, if_neg (by simp)] at q
      cases q
  · rw [if_neg hb] at q
    cases q
theorem argH_is (ar : ∀ a ∈ A, ArgOb h A a) {b : Addr} {u : HO} (q : argH K h A b = some u) : K.lookup b = none ∧ ∃ vs : List Value, vs.length ≤ sizeLine ∧ (∀ u ∈ vs, OkU A u) ∧
    ((h.get? b = some { cls := .type "list", data := .seq vs.toArray } ∧ u = .frz { cls := .type "list", data := .seq vs.toArray } (.lst (vs.map toV))) ∨
     (h.get? b = some { cls := .type "tuple", data := .seq vs.toArray } ∧ u = .frz { cls := .type "tuple", data := .seq vs.toArray } (.tup (vs.map toV)))) := by
  obtain ⟨hb, hk⟩ := of_argH q
  obtain ⟨vs, h1, h2, h3⟩ := ar b hb
  refine ⟨hk, vs, h1, h2, ?_⟩
  rcases h3 with e | e
  · rw [argH_at hb hk e, hoOf_lst] at q
    exact .inl ⟨e, (Option.some.inj q).symm⟩
  · rw [argH_at hb hk e, hoOf_tup] at q
    exact .inr ⟨e, (Option.some.inj q).symm⟩
theorem argH_only (ar : ∀ a ∈ A, ArgOb h A a) : OnlyF (argH K h A) := fun b => by
  cases q : argH K h A b with
  | none => exact .inl rfl
  | some u =>
    obtain ⟨_, vs, _, _, ⟨_, e⟩ | ⟨_, e⟩⟩ := argH_is ar q
    · exact .inr ⟨_, _, by rw [e]⟩
    · exact .inr ⟨_, _, by rw [e]⟩
theorem argH_ok (ar : ∀ a ∈ A, ArgOb h A a) : HOk P w (argH K h A) h := fun b u q => by
  obtain ⟨_, vs, h1, h2, ⟨e, rfl⟩ | ⟨e, rfl⟩⟩ := argH_is ar q
  · exact ⟨e, by rw [List.length_map]; exact h1, vs, _, vals_toV h2, e⟩
  · exact ⟨e, by rw [List.length_map]; exact h1, vs, vals_toV h2, _, e, rfl, _, rfl⟩
theorem seq_inj {c c' : Value} {vs us : List Value} (e : (some { cls := c, data := .seq vs.toArray } : Option Obj) = some { cls := c', data := .seq us.toArray }) : c = c' ∧ vs = us := by
  have e1 := Option.some.inj e
  have e2 : c = c' := congrArg Obj.cls e1
  have e3 : Data.seq vs.toArray = Data.seq us.toArray := congrArg Obj.data e1
  injection e3 with e4
  refine ⟨e2, ?_⟩
  have e5 := congrArg Array.toList e4
  simpa using e5
theorem argL (KX : K.In h) (ar : ∀ a ∈ A, ArgOb h A a) {a : Addr} {vs : List Value} (ha : a ∈ A) (e : h.get? a = some { cls := .type "list", data := .seq vs.toArray }) : (∀ u ∈ vs, OkU A u) ∧ SqL K (argH K h A) a (vs.map toV) := by
  obtain ⟨us, h1, h2, h3⟩ := ar a ha
  have hu : us = vs := by
    rcases h3 with q | q
    · rw [e] at q
      exact (seq_inj q).2.symm
    · rw [e] at q
      exact absurd (Value.type.inj (seq_inj q).1) (by decide)
  subst hu
  refine ⟨h2, ?_⟩
  cases hk : K.lookup a with
  | none => exact .inl (.inr ⟨_, by rw [argH_at ha hk e, hoOf_lst]⟩)
  | some o =>
    have e2 := KX a o hk
    rw [e] at e2
    obtain rfl := Option.some.inj e2
    exact .inr ⟨_, us.toArray, _, hk, rfl, rfl, rfl, by rw [List.size_toArray]; exact h1, by simpa using vals_toV h2⟩
theorem argT (KX : K.In h) (ar : ∀ a ∈ A, ArgOb h A a) {a : Addr} {vs : List Value} (ha : a ∈ A) (e : h.get? a = some { cls := .type "tuple", data := .seq vs.toArray }) : (∀ u ∈ vs, OkU A u) ∧ SqT K (argH K h A) a (vs.map toV) := by
  obtain ⟨us, h1, h2, h3⟩ := ar a ha
  have hu : us = vs := by
    rcases h3 with q | q
    · rw [e] at q
      exact absurd (Value.type.inj (seq_inj q).1) (by decide)
    · rw [e] at q
      exact (seq_inj q).2.symm
  subst hu
  refine ⟨h2, ?_⟩
  cases hk : K.lookup a with
  | none => exact .inl (.inr ⟨_, by rw [argH_at ha hk e, hoOf_tup]⟩)
  | some o =>
    have e2 := KX a o hk
    rw [e] at e2
    obtain rfl := Option.some.inj e2
    exact .inr ⟨_, us.toArray, _, hk, rfl, rfl, by rw [List.size_toArray]; exact h1, by simpa using vals_toV h2⟩
mutual
theorem dw_one {Pm : Params} (KX : K.In h) (ar : ∀ a ∈ A, ArgOb h A a) : ∀ (d : WData) (v : Value), Well Pm h v d → plW d = true → OkU A v → Dw K (argH K h A) (toV v) d
  | .none, _, x, _, _ => by
    cases x
    exact .non
  | .bool b, _, x, _, _ => by
    cases x
    exact .bl b
  | .int i, _, x, _, _ => by
    cases x
    exact .int i
  | .str s, _, x, _, _ => by
    cases x
    exact .str s
  | .bytes b, _, x, _, _ => by
    cases x
    have z := Dw.byt (K := K) (H := argH K h A) b.toArray
    exact z
  | .list ds, _, x, p, hu => by
    obtain ⟨a, vs, rfl, ho, hall⟩ := well_list x
    obtain ⟨h2, hs⟩ := argL KX ar hu ho
    exact .lst hs (dw_all KX ar ds _ hall p h2)
  | .tuple ds, _, x, p, hu => by
    obtain ⟨a, vs, rfl, ho, hall⟩ := well_tuple x
    obtain ⟨h2, hs⟩ := argT KX ar hu ho
    exact .tup hs (dw_all KX ar ds _ hall p h2)
  | .float _, _, _, p, _ => Bool.noConfusion (show false = true from p)
  | .dict _, _, _, p, _ => Bool.noConfusion (show false = true from p)
  | .bytearray _, _, _, p, _ => Bool.noConfusion (show false = true from p)
  | .set _, _, _, p, _ => Bool.noConfusion (show false = true from p)
  | .frozenset _, _, _, p, _ => Bool.noConfusion (show false = true from p)
  | .obj _ _, _, _, p, _ => Bool.noConfusion (show false = true from p)
theorem dw_all {Pm : Params} (KX : K.In h) (ar : ∀ a ∈ A, ArgOb h A a) : ∀ (ds : List WData) (vs : List Value), WellAll Pm h vs ds → plWs ds = true → (∀ u ∈ vs, OkU A u) → DwAll K (argH K h A) (vs.map toV) ds
  | [], _, x, _, _ => by
    cases x
    exact .nil
  | d :: ds, _, x, p, hu => by
    obtain ⟨v, vs, rfl, x1, x2⟩ := well_cons x
    have q : plW d = true ∧ plWs ds = true := Bool.and_eq_true_iff.mp p
    exact .cons (dw_one KX ar d v x1 q.1 (hu _ (List.mem_cons_self ..))) (dw_all KX ar ds vs x2 q.2 fun u m => hu u (List.mem_cons_of_mem _ m))
end
end
theorem spec_call {P : Program} {w : World} {K : PySem.W.Frag} {mg mb : Str → Option Value} {CX : CXT} {k : Nat} {fa : Addr} {fd : FuncData} {ps : List Str} {sp : Sp} {s₁ : Shared} {vals : List Value} {ds : List WData} {R : PySem.W.WRecords} {cl : Str → Option Addr} {d0 : WData}
    (KX : K.In s₁.heap) (hns : s₁.heap.Ns mainGlobals mg) (hb : s₁.heap.Ns builtinsNs mb) (hbb : ∀ x : Str, x ≠ "__name__" → mb x = bootBuiltins x) (hlim : s₁.heap.NoLimit) (hg : s₁.gens = #[])
    (hwl : WellAll w.params s₁.heap vals ds) (hpl : plWs ds = true) (hwt : ∀ d ∈ ds, d.weight ≤ 1048576) (hr : Room k callerA)
    (F : ∀ base : Heap, K.In base → base.Ns mainGlobals mg → FnOk P w K mg base CX k fa fd ps sp) (hbind : ∀ (s : Shared) (us : List Value), us.length = ps.length → BindsTo s fd ⟨us, []⟩ (ps.zip us)) (hlen : ds.length = ps.length)
    (hsp : ∀ (H : Hp) (xs : List V), OnlyF H → DwAll K H xs ds → sp xs H (fun v H' => Dw K H' v d0) fun _ _ _ => False)
    (hCX : ∀ H e s', CX [] H s₁ (fun _ _ _ => False) e s' → False) :
    codeAny (model P w) callerA (.call (.ref fa) ⟨vals, []⟩) (fun r s' => ∃ u as, r = .ok (.ret u) ∧ ReadsW R cl s'.heap u d0 as ∧ OldK s₁.heap s'.heap ∧ s'.os = s₁.os ∧ AllBare s'.gens) s₁ := by
  obtain ⟨A, ho, ar⟩ := area_all ds vals hwl hpl hwt
  have hO : OnlyF (argH K s₁.heap A) := argH_only ar
  have hok : HOk P w (argH K s₁.heap A) s₁.heap := argH_ok ar
  have hS := dw_all KX ar ds vals hwl hpl ho
  have hV := vals_toV ho
  have hK : ∀ b u, argH K s₁.heap A b = some u → K.lookup b = none := fun b u q => (argH_is ar q).1
  have noA : ∀ {b : Addr} {o : Obj} {es : Array DictEntry} {ep : Nat}, s₁.heap.get? b = some o → o.data = .dict es ep → argH K s₁.heap A b = none := fun {b o es ep} e d => by
    cases q : argH K s₁.heap A b with
    | none => rfl
    | some u =>
      obtain ⟨_, vs, _, _, ⟨e2, _⟩ | ⟨e2, _⟩⟩ := argH_is ar q
      · rw [e2] at e
        cases e
        have d' : Data.seq vs.toArray _ = Data.dict es ep := d
        cases d'
      · rw [e2] at e
        cases e
        have d' : Data.seq vs.toArray _ = Data.dict es ep := d
        cases d'
  generalize argH K s₁.heap A = H at hO hok hS hK noA
  have base_of : ∀ {b : Addr} {o : Obj}, s₁.heap.get? b = some o → H b = none → (hidT s₁.heap H).get? b = some o := fun e n => hidT_get e n
  have nsK : ∀ {b : Addr} {m : Str → Option Value}, s₁.heap.Ns b m → (hidT s₁.heap H).Ns b m := fun {b m} ⟨o, es, ep, e, d, r⟩ => ⟨o, es, ep, base_of e (noA e d), d, r⟩
  have nK : ∀ b o, K.lookup b = some o → H b = none := fun b o e => by
    cases q : H b with
    | none => rfl
    | some u =>
      rw [hK b u q] at e
      cases e
  have hKb : K.In (hidT s₁.heap H) := fun b o e => base_of (KX b o e) (nK b o e)
  have hM : Mod K mg (hidT s₁.heap H) := ⟨hKb, nsK hns, ⟨mb, nsK hb, hbb⟩, let ⟨mc, h1, h2⟩ := hlim; ⟨mc, nsK h1, h2⟩⟩
  have e0 : Env0 P w K mg (hidT s₁.heap H) callerA [] s₁ H := ⟨rfl, hM, fun b o e => of_hidT e, Nat.le_of_eq (hidT_size _ _), trivial, fun b hb => absurd (show b ∈ ([] : List Addr) from hb) (by simp), hok, .of_eq hg⟩
  have hl : vals.length = ps.length := by rw [wellAll_len hwl]; exact hlen
  refine codeAny_mono ((F _ hKb (nsK hns)).run callerA [] s₁ H ⟨vals, []⟩ vals (vals.map toV) _ _ hr e0 (hbind s₁ vals hl) hV (hsp H _ hO hS)) fun r s' x => ?_
  cases r with
  | error e => exact (hCX H e s' x).elim
  | ok fl =>
    cases fl with
    | next => exact False.elim x
    | brk => exact False.elim x
    | cont => exact False.elim x
    | ret u =>
      obtain ⟨v, H', os, bare, un, hok', r', q⟩ := x
      have kept : ∀ b o, s₁.heap.get? b = some o → s'.heap.get? b = some o := fun b o e => by
        cases q2 : H b with
        | none => exact un.keep b o e q2 (by intro z; exact absurd (show b ∈ ([] : List Addr) from z) (by simp)) (by simp)
        | some u2 =>
          rcases hO b with z | ⟨ob, u3, z⟩
          · rw [q2] at z
            cases z
          · have z2 := un.frzs b ob _ z
            obtain ⟨e1, _⟩ := hok b _ z
            obtain ⟨e2, _⟩ := hok' b _ z2
            rw [e] at e1
            cases e1
            exact e2
      have KX' : K.In s'.heap := fun b o e => kept b o (KX b o e)
      obtain ⟨as, hrd⟩ := Dw.reads (R := R) (cl := cl) hok' KX' d0 v u q r'
      exact ⟨u, as, rfl, hrd, OldK.of_keep kept, os, bare⟩
theorem layable_weight {ds : List WData} (h : WData.layableAll ds = true) : ∀ d ∈ ds, d.weight ≤ 1048576 := fun d hd =>
  (PySem.W.layableW_iff.mp (List.all_eq_true.mp h d hd)).2.2
theorem encAll_len : ∀ (cs : List Codec) (a : Codec.denoteAll cs), (Codec.encAll cs a).length = cs.length
  | [], _ => rfl
  | c :: cs, a => by
    show (Codec.encAll cs a.2).length + 1 = cs.length + 1
    rw [encAll_len cs a.2]
theorem walk_spec {r : OpenSpec} {k : Nat} {q : Program} {loose : List Str} {XP : (Str → Option Value) → Heap → Prop} {YP : World → Heap → Prop} {d : DefRec} {K : Params → PySem.W.Frag} {CX : World → CXT} {ps : List Str} {sp : World → Sp}
    (hwell : r.wellSaid = true) (hdf : d.params.defaults = []) (hlen : r.args.length = ps.length) (hr : Room k callerA)
    (hY : ∀ (w : World) (h : Heap), YP w h → (K w.params).In h)
    (F : ∀ (w : World) (mg : Str → Option Value) (fa : Addr) (h : Heap), YP w h → (K w.params).In h → h.Ns mainGlobals mg → mg d.name = some (.ref fa) →
      ∃ fd : FuncData, (∀ (s : Shared) (us : List Value), us.length = ps.length → BindsTo s fd ⟨us, []⟩ (ps.zip us)) ∧
        ∀ base : Heap, (K w.params).In base → base.Ns mainGlobals mg → FnOk r.prog w (K w.params) mg base (CX w) k fa fd ps (sp w))
    (hsp : ∀ (w : World) (H : Hp) (xs : List V) (a : Codec.denoteAll r.args), OnlyF H → Codec.withinAll r.args a = true → Codec.app r.args r.asked a = true → DwAll (K w.params) H xs (Codec.encAll r.args a) →
      sp w xs H (fun v H' => Dw (K w.params) H' v (r.ret.enc (Codec.app r.args r.f a))) fun _ _ _ => False)
    (hCX : ∀ (w : World) (H : Hp) (s : Shared) (e : Value) (s' : Shared), CX w [] H s (fun _ _ _ => False) e s' → False) :
    PySem.W.WalkOS q loose XP YP r d [] (fun f vs => PySem.call f vs) := by
  intro w s_0 s₁ mg mb G Y fa o pm cd doc dV kV ho hd hcd hD hmg hg args vals as hpre hlay hrd hwl hlo
  obtain ⟨a, e1, e2⟩ := PySem.W.os_pre_some hpre
  obtain ⟨e3, hwi⟩ := Codec.encAll_of_decAll r.args args a e1
  subst e3
  have KX := hY w _ Y
  obtain ⟨fd, hb, hF⟩ := F w mg fa _ Y KX G.T.g hmg
  refine PySem.W.enter_call (codeAny_mono (spec_call (R := []) (cl := classAt s_0.heap) (d0 := r.ret.enc (Codec.app r.args r.f a)) KX G.T.g G.T.b G.T.builtins G.T.nolimit hg hwl (pl_encAll _ _) (layable_weight hlay) hr hF hb (by rw [encAll_len]; exact hlen)
    (fun H xs hO hS => hsp w H xs a hO hwi e2 hS) fun H e s' => hCX w H s₁ e s') fun r' s' hq => ?_)
  obtain ⟨u, as', rfl, h1, h2, h3, h4⟩ := hq
  exact ⟨.inl ⟨u, _, as', rfl, fun _ => rfl, h1, (OpenSpec.post_iff hwell hwi _ _).mpr rfl, fun z => Bool.noConfusion (show false = true from z)⟩, h2, h3, h4⟩
theorem walk_specK {r : OpenSpec} {k : Nat} {q : Program} {loose : List Str} {XP : (Str → Option Value) → Heap → Prop} {YP : World → Heap → Prop} {d : DefRec} {K : Params → PySem.W.Frag} {CX : CXT} {ps : List Str} {sp : PySem.W.Frag → Sp}
    (hwell : r.wellSaid = true) (hdf : d.params.defaults = []) (hlen : r.args.length = ps.length) (hr : Room k callerA)
    (hY : ∀ (w : World) (h : Heap), YP w h → (K w.params).In h)
    (F : ∀ (w : World) (mg : Str → Option Value) (fa : Addr) (h : Heap), YP w h → (K w.params).In h → h.Ns mainGlobals mg → mg d.name = some (.ref fa) →
      ∃ fd : FuncData, (∀ (s : Shared) (us : List Value), us.length = ps.length → BindsTo s fd ⟨us, []⟩ (ps.zip us)) ∧
        ∀ base : Heap, (K w.params).In base → base.Ns mainGlobals mg → FnOk r.prog w (K w.params) mg base CX k fa fd ps (sp (K w.params)))
    (hsp : ∀ (K : PySem.W.Frag) (H : Hp) (xs : List V) (a : Codec.denoteAll r.args), OnlyF H → Codec.withinAll r.args a = true → Codec.app r.args r.asked a = true → DwAll K H xs (Codec.encAll r.args a) →
      sp K xs H (fun v H' => Dw K H' v (r.ret.enc (Codec.app r.args r.f a))) fun _ _ _ => False)
    (hCX : ∀ (H : Hp) (s : Shared) (e : Value) (s' : Shared), CX [] H s (fun _ _ _ => False) e s' → False) :
    PySem.W.WalkOS q loose XP YP r d [] (fun f vs => PySem.call f vs) :=
  walk_spec (K := K) (CX := fun _ => CX) (sp := fun w => sp (K w.params)) hwell hdf hlen hr hY F (fun w H xs a h1 h2 h3 h4 => hsp (K w.params) H xs a h1 h2 h3 h4) fun _ H s e s' => hCX H s e s'
end L2
end
section
set_option Elab.async false
set_option linter.all false
set_option maxRecDepth 100000
namespace L2
open PySem PySem.Spec PyProof.Rows
structure Kept (M S : List Addr) (h h' : Heap) : Prop where
  keep : ∀ b o, h.get? b = some o → b ∉ M → b ∉ S → h'.get? b = some o
  slot : ∀ b o, h.get? b = some o → b ∉ M → b ∈ S → ∃ sl, h'.get? b = some { o with slots := sl }
theorem Kept.refl (M S : List Addr) (h : Heap) : Kept M S h h := ⟨fun _ _ e _ _ => e, fun _ o e _ _ => ⟨o.slots, e⟩⟩
theorem Kept.any {M S : List Addr} {h h' : Heap} (k : Kept M S h h') {b : Addr} {o : Obj} (e : h.get? b = some o) (hb : b ∉ M) : ∃ sl, h'.get? b = some { o with slots := sl } := by
  by_cases hs : b ∈ S
  · exact k.slot b o e hb hs
  · exact ⟨o.slots, k.keep b o e hb hs⟩
theorem Kept.trans {M M' S : List Addr} {h h1 h2 : Heap} (a : Kept M S h h1) (b : Kept M' S h1 h2) (hm : ∀ c ∈ M', c ∈ M ∨ h.get? c = none) : Kept M S h h2 := by
  have out : ∀ c o, h.get? c = some o → c ∉ M → c ∉ M' := fun c o e n z => (hm c z).elim n fun q => by rw [e] at q; cases q
  refine ⟨fun c o e n s => b.keep c o (a.keep c o e n s) (out c o e n) s, fun c o e n s => ?_⟩
  obtain ⟨sl, e1⟩ := a.slot c o e n s
  obtain ⟨sl2, e2⟩ := b.slot c _ e1 (out c o e n) s
  exact ⟨sl2, e2⟩
theorem Kept.mono {M M' S S' : List Addr} {h h1 : Heap} (a : Kept M S h h1) (hm : ∀ c ∈ M, c ∈ M') (hs : ∀ c ∈ S, c ∈ S') : Kept M' S' h h1 :=
  ⟨fun c o e n s => a.keep c o e (fun z => n (hm c z)) fun z => s (hs c z), fun c o e n _ => a.any e fun z => n (hm c z)⟩
theorem ObjOk.there {P : Program} {w : World} {H : Hp} {h : Heap} {a : Addr} : ∀ {o : HO}, ObjOk P w H h a o → ∃ u, h.get? a = some u := by
  intro o x
  cases o with
  | lst xs => obtain ⟨_, _, _, _, e⟩ := x; exact ⟨_, e⟩
  | tup xs => obtain ⟨_, _, _, o, e, _⟩ := x; exact ⟨_, e⟩
  | dK kvs => obtain ⟨_, _, _, _, o, _, _, e, _⟩ := x; exact ⟨_, e⟩
  | dT kvs => obtain ⟨_, _, _, _, o, _, _, e, _⟩ := x; exact ⟨_, e⟩
  | set S n => obtain ⟨o, _, _, _, e, _⟩ := x; exact ⟨_, e⟩
  | ins C dx fs => obtain ⟨_, _, _, e, _⟩ := x; exact ⟨_, e⟩
  | own y => obtain ⟨_, e⟩ := x; exact ⟨_, e⟩
  | xd fs => obtain ⟨_, ⟨_, _, _, e, _⟩, _⟩ := x; exact ⟨_, e⟩
  | rng lo hi => obtain ⟨_, _, _, e⟩ := x; exact ⟨_, e⟩
  | frz ob u => obtain ⟨e, _⟩ := x; exact ⟨_, e⟩
  | tbl ps => exact ⟨_, (show h.get? a = some _ from x)⟩
  | met f y => exact ⟨_, (show h.get? a = some _ from x)⟩
  | ext φ => obtain ⟨_, e, _⟩ := x; exact e
theorem HOk.through {P : Program} {w : World} {H : Hp} {h h' : Heap} {M S : List Addr} (x : HOk P w H h) (k : Kept M S h h') (hM : ∀ b ∈ M, H b = none) (hS : ∀ b ∈ S, H b = none) : HOk P w H h' := fun a o e => by
  have nin : ∀ {l : List Addr}, (∀ b ∈ l, H b = none) → ∀ b u, H b = some u → b ∉ l := fun hl b u q z => by rw [hl b z] at q; cases q
  refine (x a o e).stay (fun b u hb q => ?_) (fun _ q => q) fun _ _ q => q
  rcases hb with rfl | hb
  · exact k.keep b u q (nin hM _ _ e) (nin hS _ _ e)
  · exact k.keep b u q (nin hM _ _ hb) (nin hS _ _ hb)
theorem Un.through {fs ex : List Addr} {H0 H : Hp} {h0 h h' : Heap} {M S : List Addr} (u : Un fs ex H0 H h0 h) (k : Kept M S h h') (hM : ∀ b ∈ M, h0.get? b = none) (hS : ∀ b ∈ S, b ∈ fs ∨ h0.get? b = none) : Un fs ex H0 H h0 h' := by
  have nM : ∀ b o, h0.get? b = some o → b ∉ M := fun b o q z => by rw [hM b z] at q; cases q
  refine ⟨fun b o q n hb hx => k.keep b o (u.keep b o q n hb hx) (nM b o q) fun z => (hS b z).elim hb (fun z => (by rw [z] at q; cases q)), fun b o q n hb hx => ?_, u.free, fun b o q hx => ?_, u.tups, u.frzs, u.tbls⟩
  · obtain ⟨sl, e⟩ := u.slot b o q n hb hx
    obtain ⟨sl2, e2⟩ := k.any e (nM b o q)
    exact ⟨sl2, e2⟩
  · obtain ⟨o', e⟩ := u.there b o q hx
    obtain ⟨sl, e2⟩ := k.any e (nM b o q)
    exact ⟨_, e2⟩
def Exc1 (h : Heap) (e : Addr) (cls : Value) : Prop := ∃ oe vs a0, h.get? e = some oe ∧ oe.cls = cls ∧ oe.data = .fields vs ∧ vs[0]? = some a0 ∧ vs[1]? = some .none
def Exc2 (h : Heap) (e T : Addr) (cls fl : Value) : Prop := ∃ oe vs oT ts a0, h.get? e = some oe ∧ (oe.cls = cls ∧ vs[0]? = some a0) ∧ oe.data = .fields vs ∧ vs[1]? = some (.ref T) ∧ T ≠ e ∧ h.get? T = some oT ∧ oT.data = .fields ts ∧ ts[3]? = some fl
theorem Exc2.tr {h : Heap} {e T : Addr} {cls fl : Value} {l : List Addr} (x : Exc2 h e T cls fl) (hT : T ∈ l) : ∃ a0, h.TracedAtW (PySem.W.hideAll h l) e cls a0 fl := by
  obtain ⟨oe, vs, oT, ts, a0, h1, h2, h3, h4, h5, h6, h7, h8⟩ := x
  exact ⟨a0, oe, vs, T, oT, ts, h1, h2, h3, h4, PySem.W.hideAll_none _ hT, h5, h6, h7, h8⟩
theorem Exc2.of {h B : Heap} {e : Addr} {cls a0 fl : Value} (x : h.TracedAtW B e cls a0 fl) : ∃ T, Exc2 h e T cls fl ∧ B.get? T = none := by
  obtain ⟨oe, vs, T, oT, ts, h1, h2, h3, h4, h5, h6, h7, h8, h9⟩ := x
  exact ⟨T, ⟨oe, vs, oT, ts, a0, h1, h2, h3, h4, h6, h7, h8, h9⟩, h5⟩
theorem hid_stays (h : Heap) (l : List Addr) : (PySem.W.hideAll h l).StaysIn h := fun _ _ e => PySem.W.of_hideAll l e
theorem hid_frames {h base : Heap} {l : List Env} {as : List Addr} (x : h.FunFrames base l) (hs : ∀ b ∈ frs l, b ∈ as) : h.FunFrames (PySem.W.hideAll h as) l :=
  PySem.W.funFrames_hide x fun env he a hf => hs a (List.mem_filterMap.mpr ⟨env, he, hf⟩)
theorem kept_hid {h h' base : Heap} {M S : List Addr} (k : (PySem.W.hideAll h (M ++ S)).StaysIn h') (u : h.UpToSlots h') (hS : ∀ b ∈ S, ∀ o, h.get? b = some o → ∀ vs, o.data ≠ .fields vs) : Kept M S h h' :=
  ⟨fun b o e n s => k b o (PySem.W.hideAll_get _ e fun z => (List.mem_append.mp z).elim n s), fun b o e _ s => u b o e (hS b s o e)⟩
theorem fr_norec {h base : Heap} {l : List Env} (x : h.FunFrames base l) : ∀ b ∈ frs l, ∀ o, h.get? b = some o → ∀ vs, o.data ≠ .fields vs := fun b hb o e => by
  obtain ⟨_, o', e', d⟩ := x.mem hb
  rw [e] at e'
  cases e'
  exact d
theorem new_T {h h' base : Heap} {l : List Env} {M : List Addr} {e T : Addr} {cls fl : Value} (x : h.FunFrames base l) (k : Kept M (frs l) h h') (hd : (PySem.W.hideAll h (M ++ frs l)).get? T = none) (q : Exc2 h' e T cls fl) : h.get? T = none ∨ T ∈ M := by
  cases z : h.get? T with
  | none => exact .inl rfl
  | some o =>
    refine .inr ?_
    by_cases hm : T ∈ M
    · exact hm
    · by_cases hs : T ∈ frs l
      · obtain ⟨sl, e2⟩ := k.slot T o z hm hs
        obtain ⟨_, _, oT, ts, _, _, _, _, _, _, h6, h7, _⟩ := q
        rw [e2] at h6
        cases h6
        exact absurd h7 (fr_norec x T hs o z ts)
      · have := PySem.W.hideAll_get (M ++ frs l) z fun y => (List.mem_append.mp y).elim hm hs
        rw [hd] at this
        cases this
section
variable {M : Model} {A : Around} {E : Value → Shared → Prop} {s : Shared} {env : Env} {outer : List Env} {L e : Addr} {cls : Value} {base : Heap} {Q : Unit → Shared → Prop}
theorem note1 (hfr : A.frames = some (env :: outer)) (hl : s.heap.FunFrames base (env :: outer)) (hf : env.frame = some L) (hx : Exc1 s.heap e cls)
    (h : ∀ h' T, Kept [e] (frs (env :: outer)) s.heap h' → Exc2 h' e T cls (rawInt L) → s.heap.get? T = none → Q () { s with heap := h' }) : wpAny M A (noteFrame (.ref e) env) Q E s := by
  obtain ⟨oe, vs, a0, h1, h2, h3, h4, h5⟩ := hx
  unfold noteFrame
  simp only [hf]
  refine wpAny_bind (wpAny_field h1 h3 h5 ?_)
  rw [if_neg (by decide)]
  refine wpAny_entryW (base := PySem.W.hideAll s.heap ([e] ++ frs (env :: outer))) (a0 := a0) hfr (hid_frames hl fun b hb => List.mem_append_right _ hb) hf h1 (hid_stays _ _) (PySem.W.hideAll_none _ (by simp)) h3 (Array.getElem?_eq_some_iff.mp h5).1 h4 fun h' hn => ?_
  obtain ⟨k1, _, k3, k4⟩ := hn
  have K := kept_hid (base := base) k1 k4 (fr_norec hl)
  rw [h2] at k3
  obtain ⟨T, q, hT⟩ := Exc2.of k3
  refine h h' T K q ((new_T hl K hT q).resolve_right fun z => ?_)
  obtain ⟨_, _, _, _, _, _, _, _, _, ne, _⟩ := q
  exact ne (by simpa using z)
theorem note2 {T : Addr} {fl : Value} (hfr : A.frames = some (env :: outer)) (hl : s.heap.FunFrames base (env :: outer)) (hf : env.frame = some L) (hx : Exc2 s.heap e T cls fl)
    (h : ∀ h' T', Kept [e, T] (frs (env :: outer)) s.heap h' → Exc2 h' e T' cls (rawInt L) → (s.heap.get? T' = none ∨ T' = T) → Q () { s with heap := h' }) : wpAny M A (noteFrame (.ref e) env) Q E s := by
  by_cases hfl : fl = rawInt L
  · subst hfl
    obtain ⟨a0, tr⟩ := hx.tr (l := [T]) (by simp)
    exact wpAny_noteFrame_againW hf tr (h s.heap T (.refl _ _ _) hx (.inr rfl))
  · obtain ⟨oe, vs, oT, ts, a0, h1, ⟨h2, h0⟩, h3, h4, h5, h6, h7, h8⟩ := hx
    unfold noteFrame
    simp only [hf]
    refine wpAny_bind (wpAny_field h1 h3 h4 ?_)
    rw [if_pos (show (Value.ref T != Value.none) = true from by simp)]
    refine wpAny_bind (wpAny_field h6 h7 h8 ?_)
    rw [if_neg (show ¬ ((fl == rawInt L) = true) from fun z => hfl (by simpa using z))]
    refine wpAny_bind (wpAny_setField h6 h7 (Array.getElem?_eq_some_iff.mp h8).1 ?_)
    have oth : ∀ b, b ≠ T → (s.heap.update T (Obj.mapFields (·.setIfInBounds 3 Value.none))).get? b = s.heap.get? b := fun b hb => Heap.get?_update_other _ _ (Ne.symm hb)
    have K0 : Kept [e, T] (frs (env :: outer)) s.heap (s.heap.update T (Obj.mapFields (·.setIfInBounds 3 Value.none))) :=
      ⟨fun b o q n _ => (oth b fun z => n (by simp [z])).trans q, fun b o q n _ => ⟨o.slots, (oth b fun z => n (by simp [z])).trans q⟩⟩
    have norec := fr_norec hl
    have hl1 : (s.heap.update T (Obj.mapFields (·.setIfInBounds 3 Value.none))).FunFrames base (env :: outer) :=
      hl.of_keeps fun b o q nf => ⟨o, (oth b fun z => by subst z; rw [h6] at q; cases q; exact nf ts h7).trans q, rfl⟩
    have hT1 := Heap.get?_update_self (Obj.mapFields (·.setIfInBounds 3 Value.none)) h6 (Obj.isFreed_of_fields (Obj.data_mapFields h7 _))
    refine wpAny_entryW (base := PySem.W.hideAll (s.heap.update T (Obj.mapFields (·.setIfInBounds 3 Value.none))) ([e, T] ++ frs (env :: outer))) (a0 := a0) hfr (hid_frames hl1 fun b hb => List.mem_append_right _ hb) hf ((oth e (Ne.symm h5)).trans h1) (hid_stays _ _)
      (PySem.W.hideAll_none _ (by simp)) h3 (Array.getElem?_eq_some_iff.mp h4).1 h0 fun h' hn => ?_
    obtain ⟨k1, _, k3, k4⟩ := hn
    have K1 := kept_hid (base := base) k1 k4 (fr_norec hl1)
    rw [h2] at k3
    obtain ⟨T', q, hT'⟩ := Exc2.of k3
    refine h h' T' (K0.trans K1 fun c hc => .inl hc) q ?_
    rcases new_T hl1 K1 hT' q with z | z
    · by_cases ht : T' = T
      · exact .inr ht
      · exact .inl (by rw [← oth T' ht]; exact z)
    · obtain ⟨_, _, _, _, _, _, _, _, _, ne, _⟩ := q
      simp at z
      exact .inr (z.resolve_left ne)
theorem flight {T : Addr} {fl : Value} {fr : Option Addr} (hx : Exc2 s.heap e T cls fl)
    (h : ∀ h', Kept [T] [] s.heap h' → Exc2 h' e T cls (fr.elim Value.none fun f => rawInt f) → Q () { s with heap := h' }) : wpAny M A (setFlight (.ref e) fr) Q E s := by
  obtain ⟨oe, vs, oT, ts, a0, h1, h2, h3, h4, h5, h6, h7, h8⟩ := hx
  have sz := (Array.getElem?_eq_some_iff.mp h8).1
  unfold setFlight
  refine wpAny_bind (wpAny_field h1 h3 h4 ?_)
  rw [if_pos (show (Value.ref T != Value.none) = true from by simp)]
  refine wpAny_setField h6 h7 sz (h _ ?_ ?_)
  · exact ⟨fun b o q n _ => (Heap.get?_update_other _ _ fun z => n (by simp [z])).trans q, fun b o _ _ z => absurd z (by simp)⟩
  · refine ⟨oe, vs, _, _, a0, (Heap.get?_update_other _ _ h5).trans h1, h2, h3, h4, h5, Heap.get?_update_self _ h6 (Obj.isFreed_of_fields (Obj.data_mapFields h7 _)), Obj.data_mapFields h7 _, ?_⟩
    rw [Array.getElem?_setIfInBounds_self_of_lt sz]
def ExcX (h : Heap) (e : Addr) (cls : Value) (tr : List Addr) : Prop := (tr = [] ∧ Exc1 h e cls) ∨ ∃ T fl, tr = [T] ∧ Exc2 h e T cls fl
theorem noteX {tr : List Addr} (hfr : A.frames = some (env :: outer)) (hl : s.heap.FunFrames base (env :: outer)) (hf : env.frame = some L) (hx : ExcX s.heap e cls tr)
    (h : ∀ h' T', Kept (e :: tr) (frs (env :: outer)) s.heap h' → Exc2 h' e T' cls (rawInt L) → (s.heap.get? T' = none ∨ T' ∈ tr) → Q () { s with heap := h' }) : wpAny M A (noteFrame (.ref e) env) Q E s := by
  rcases hx with ⟨rfl, hx⟩ | ⟨T, fl, rfl, hx⟩
  · exact note1 hfr hl hf hx fun h' T k q z => h h' T k q (.inl z)
  · exact note2 hfr hl hf hx fun h' T' k q z => h h' T' k q (z.imp id fun z => by simp [z])
theorem landX {tr : List Addr} (hfr : A.frames = some (env :: outer)) (hl : s.heap.FunFrames base (env :: outer)) (hf : env.frame = some L) (hx : ExcX s.heap e cls tr)
    (h : ∀ h' T', Kept (e :: tr) (frs (env :: outer)) s.heap h' → Exc2 h' e T' cls .none → (s.heap.get? T' = none ∨ T' ∈ tr) → Q () { s with heap := h' }) :
    wpAny M A (noteFrame (.ref e) env) (fun _ s' => wpAny M A (setFlight (.ref e) none) Q E s') E s := by
  refine noteX hfr hl hf hx fun h1 T' k q z => ?_
  refine flight (s := { s with heap := h1 }) q fun h2 k2 q2 => ?_
  refine h h2 T' (k.trans (k2.mono (fun c hc => hc) (fun c hc => absurd hc (by simp))) fun c hc => ?_) q2 z
  have : c = T' := by simpa using hc
  subst this
  exact z.symm.imp (fun z => List.mem_cons_of_mem _ z) id
theorem leaveX {tr : List Addr} (hfr : A.frames = some (env :: outer)) (hl : s.heap.FunFrames base (env :: outer)) (hf : env.frame = some L) (hx : ExcX s.heap e cls tr)
    (h : ∀ h' T', Kept (e :: tr) (frs (env :: outer)) s.heap h' → Exc2 h' e T' cls .none → (s.heap.get? T' = none ∨ T' ∈ tr) → Q () { s with heap := h' }) : wpAny M A (leaving env (.ref e)) Q E s := by
  unfold leaving
  exact wpAny_bind (landX hfr hl hf hx h)
end
end L2
end
section
set_option Elab.async false
set_option linter.all false
set_option maxRecDepth 100000
namespace L2
open PySem PySem.Spec PyProof.Rows
def CXN (P : Program) (w : World) (C : Addr) : CXT := fun outer H s E u s' => ∃ e T H', u = .ref e ∧ s'.os = s.os ∧ AllBare s'.gens ∧ Un (frs outer) [] H H' s.heap s'.heap ∧ HOk P w H' s'.heap ∧ Exc2 s'.heap e T (.ref C) .none ∧
  (∀ b ∈ [e, T], s.heap.get? b = none ∧ H' b = none) ∧ E (.ref C) none H'
def Out (X : Cx) (C e : Addr) (H' : Hp) (s' : Shared) : Prop := ∃ pins σ tr, Inv X pins σ H' s' ∧ ExcX s'.heap e (.ref C) tr ∧ ∀ b ∈ e :: tr, X.s_0.heap.get? b = none ∧ H' b = none ∧ ∀ p ∈ X.pn ++ pins, p.1 ≠ b
structure XOk (X : Cx) (C : Addr) (EH : Hp → Prop) : Prop where
  ex : ∀ b ∈ X.ex, ∃ o, (b, o) ∈ X.pn
  go : ∀ e H' s', Out X C e H' s' → EH H' → X.xe (.ref e) s'
theorem hok_none {P : Program} {w : World} {H : Hp} {h : Heap} (x : HOk P w H h) {b : Addr} (e : h.get? b = none) : H b = none := by
  cases q : H b with
  | none => rfl
  | some o =>
    obtain ⟨u, z⟩ := (x b o q).there
    rw [e] at z
    cases z
theorem un_none {fs ex : List Addr} {H H' : Hp} {h h' : Heap} (u : Un fs ex H H' h h') {b : Addr} (e : h'.get? b = none) (hx : b ∉ ex) : h.get? b = none := by
  cases q : h.get? b with
  | none => rfl
  | some o =>
    obtain ⟨o', z⟩ := u.there b o q hx
    rw [e] at z
    cases z
theorem xok_def {P : Program} {w : World} {K : PySem.W.Frag} {mg : Str → Option Value} {base : Heap} {N : List Str} {qual : Str} {scope : Scope} {f C : Addr} {cd : Value} {A : Around} {outer : List Env} {s : Shared} {H : Hp} {E : XK} :
    XOk (cxOf (CXN P w C) P w K mg base N qual scope f cd A outer s H E) C (E (.ref C) none) := by
  refine ⟨fun b hb => absurd (show b ∈ ([] : List Addr) from hb) (by simp), fun e H' s' h q => ?_⟩
  obtain ⟨pins, σ, tr, I, x, fr⟩ := h
  refine leaveX (base := base) (outer := outer) (L := s.heap.objs.size) I.ok.frames I.stack rfl x fun h' T' k x' z => ?_
  have hS : ∀ b ∈ frs (envOfC qual scope s.heap.objs.size f cd :: outer), b ∈ frs outer ∨ s.heap.get? b = none := fun b hb => by
    have hb : b ∈ s.heap.objs.size :: frs outer := hb
    rcases List.mem_cons.mp hb with rfl | hb
    · exact .inr (Heap.get?_none_of_le (Nat.le_refl _))
    · exact .inl hb
  refine ⟨e, T', H', rfl, I.os, I.bare, Un.through (fs := frs outer) (ex := []) I.base k (fun b hb => (fr b hb).1) hS, I.hok.through k (fun b hb => (fr b hb).2.1) I.stkFree, x', fun b hb => ?_, q⟩
  have hb : b = e ∨ b = T' := by simpa using hb
  rcases hb with rfl | rfl
  · exact ⟨(fr b (by simp)).1, (fr b (by simp)).2.1⟩
  · rcases z with z | z
    · exact ⟨un_none I.base z (fun y => absurd (show b ∈ ([] : List Addr) from y) (by simp)), hok_none I.hok z⟩
    · exact ⟨(fr b (by simp [z])).1, (fr b (by simp [z])).2.1⟩
theorem passN {X : Cx} {C : Addr} {E : XK} {EH : Hp → Prop} (hx : XOk X C EH) (hi : ∀ H', E (.ref C) none H' → EH H') : Passes (CXN X.prog X.w C) X E := fun pins σ H s u s' I h => by
  obtain ⟨e, T, H', rfl, os, bare, un, hok, x, fr, q⟩ := h
  have I' : Inv X pins σ H' s' := I.call' (ch := []) os un hok bare (fun b z => absurd z (by simp))
  refine hx.go e H' s' ⟨pins, σ, [T], I', .inr ⟨T, _, rfl, x⟩, fun b hb => ?_⟩ (hi _ q)
  obtain ⟨f1, f2⟩ := fr b hb
  have np : ∀ p ∈ X.pn ++ pins, p.1 ≠ b := fun p hp z => by
    have := (I.pin p hp).1
    rw [z, f1] at this
    cases this
  refine ⟨un_none I.base f1 fun hb => ?_, f2, np⟩
  obtain ⟨o, ho⟩ := hx.ex b hb
  exact np _ (List.mem_append_left _ ho) rfl
theorem ps_raise {X : Cx} {C : Addr} {EH : Hp → Prop} {x : Str} {B newId initId : String} {bm : List Value} {e₀ : Expr} {rest : List Expr} {ta : TA} {np cpos pos : Pos} (O : OwnCls x C bm newId X.mg X.base) (FB : ExcBaseFacts B newId initId bm) (hc : X.calm = true)
    (hx : XOk X C EH) (hg : Gl X x) (ha : PA X (e₀ :: rest) ta) (he : starEach (e₀ :: rest) X.env = (false, eval e₀ X.env) :: starEach rest X.env := by rfl) (hpl : (backTo cpos (starEach rest X.env)).any (·.1) = false := by rfl)
    (hd : (x == ("__debug__" : Str)) = false := by decide) :
    PS X (.Raise (some (.Call (.Name x np) (e₀ :: rest) [] cpos)) none pos) (fun _ σ H => ta σ H fun vs H1 => vs.length ≤ sizeLine ∧ EH H1) := by
  intro pins s σ H D I h
  obtain ⟨tl, N, nm, q, bs, hdct, sn, sub, ab, col, dd, k0, k1, k2, k3, k5, mN, hC, hN, hni, T⟩ := O.obj
  refine wpAny_Raise_call_subT (C := C) (nm := nm) (q := q) (N := N) (bs := bs) (bm := tl) (hdct := hdct) (sn := sn) (sub := sub) (ab := ab) (col := col) (dd := dd) (k0 := k0) (k1 := k1) (k2 := k2) (k3 := k3) (k5 := k5) FB (mN := mN)
    (T.hasType FB.hasBase) (I.ok.hd hc) (by rw [he]; show (false || (backTo cpos (starEach rest X.env)).any (·.1)) = false; rw [hpl]; rfl) hni (ld_glob I hg O.bound ⟨rfl, ?_⟩ hd)
  have h2 := ha cpos pins s σ H _ I h
  rw [he] at h2 ⊢
  refine Calls.evalArgs_plain (wpAny_mono h2 (fun us s2 ⟨vs, H2, I2, r, z, q⟩ => ?_) fun _ _ y => y)
  refine ⟨rfl, by rw [← r.length]; exact z, I2.bk _ _ hC, hN.keeps I2.bk, T.keeps I2.bk, fun h' e m => ?_⟩
  refine hx.go e H2 _ ⟨pins, σ, [], I2.kept (t' := s2.toks) m.keeps, .inl ⟨rfl, ?_⟩, fun b hb => ?_⟩ q
  · obtain ⟨t, e1, _⟩ := m.there
    exact ⟨_, _, _, e1, rfl, rfl, rfl, rfl⟩
  · have hb : b = e := by simpa using hb
    subst hb
    have np : ∀ p ∈ X.pn ++ pins, p.1 ≠ b := fun p hp z => by
      have := (I2.pin p hp).1
      rw [z, m.new] at this
      cases this
    refine ⟨un_none I2.base m.new fun hb => ?_, hok_none I2.hok m.new, np⟩
    obtain ⟨o, ho⟩ := hx.ex b hb
    exact np _ (List.mem_append_left _ ho) rfl
theorem Fun.okX {P : Program} {w : World} {K : PySem.W.Frag} {mg : Str → Option Value} {base : Heap} {C : Addr} {x qual : Str} {st : Stmt} {f : Addr} {fd : FuncData} {N ps : List Str} {k : Nat} {sp : Sp} (F : Fun K x qual st f fd) (S : FnScope N ps (defScope st)) (len : ∀ vs H Q E, sp vs H Q E → vs.length = ps.length)
    (hbody : ∀ (cdv : Value) (A : Around) (outer : List Env) (s : Shared) (H : Hp) (vs : List V) (Q : VK) (E : XK), Room k (A.deeper (envOfC qual (defScope st) s.heap.objs.size f cdv)) → sp vs H Q E →
      XOk (cxOf (CXN P w C) P w K mg base N qual (defScope st) f cdv A outer s H E) C (E (.ref C) none) →
      PassesOwn (model P w) (A.deeper (envOfC qual (defScope st) s.heap.objs.size f cdv)) (envOfC qual (defScope st) s.heap.objs.size f cdv) (cxOf (CXN P w C) P w K mg base N qual (defScope st) f cdv A outer s H E).xe →
      ∃ t, PSs (cxOf (CXN P w C) P w K mg base N qual (defScope st) f cdv A outer s H E) (defBody st) t ∧ t { nx := fun _ H' => Q .non H', rt := Q } (start N vs) H) : FnOk P w K mg base (CXN P w C) (k + 1) f fd ps sp := by
  obtain ⟨oc, od, kV, doc, pm, an, cdv, ct, osl, rfl, lk, hcd⟩ := F.ex
  exact fn_of lk hcd S len fun A outer s H vs Q E hr hsp => hbody cdv A outer s H vs Q E hr hsp xok_def PassesOwn.leaving
section
variable {X : Cx} {pins : List (Addr × Obj)} {σ : St} {H : Hp} {s : Shared} {h' : Heap}
theorem Cx.Ok.turn (ok : X.Ok) {E : Value → Shared → Prop} {pn : List (Addr × Obj)} {A : Around} {c : Bool} (hA : A.frames = X.A.frames) (hh : c = true → A.handled = none) : Cx.Ok { X with A := A, calm := c, xe := E, pn := pn } :=
  ⟨ok.mod, ok.kind, ok.glob, ok.blt, ok.above, ok.inj, ok.has, ok.cab, hh, hA.trans ok.frames, ok.stk, ok.exf, ok.bs, ok.bsz, ok.noex, ok.exfs, ok.funs, ok.frf⟩
theorem Inv.turn (I : Inv X pins σ H s) {E : Value → Shared → Prop} {pn pins' : List (Addr × Obj)} {A : Around} {c : Bool} (hA : A.frames = X.A.frames) (hh : c = true → A.handled = none) (hp : ∀ p ∈ pn ++ pins', p ∈ X.pn ++ pins) :
    Inv { X with A := A, calm := c, xe := E, pn := pn } pins' σ H s := ⟨I.ok.turn hA hh, I.os, I.bare, I.base, I.loc, I.cell, I.free, I.freeC, fun p h => I.pin p (hp p h), I.hok, I.len⟩
theorem Inv.thru {M : List Addr} (I : Inv X pins σ H s) (k : Kept M (frs X.stack) s.heap h') (hM : ∀ b ∈ M, X.s_0.heap.get? b = none ∧ H b = none ∧ ∀ p ∈ X.pn ++ pins, p.1 ≠ b) (hR : ∀ b ∈ M, ∀ o, s.heap.get? b = some o → ∃ vs, o.data = .fields vs) (hfn : ∀ x, X.fn x = true) :
    Inv X pins σ H { s with heap := h' } := by
  have hS : ∀ b ∈ frs X.stack, b ∈ X.fs ∨ X.s_0.heap.get? b = none := fun b hb => by
    rcases List.mem_cons.mp (I.stkSub b hb) with rfl | z
    · exact .inr (Heap.get?_none_of_le I.ok.above)
    · exact .inl z
  have cellK : ∀ x c v, X.env.cells.lookup x = some c → s.heap.IsCell c v → h'.IsCell c v := fun x c v hx q => by
    obtain ⟨o, ho, hd⟩ := q
    refine ⟨o, k.keep c o ho (fun z => ?_) fun z => ?_, hd⟩
    · obtain ⟨vs, e⟩ := hR c z o ho
      rw [hd] at e
      cases e
    · rcases List.mem_cons.mp (I.stkSub c z) with y | y
      · obtain ⟨m, ⟨o', es, ep, ho', hd', _⟩, _⟩ := I.loc
        rw [y, ho'] at ho
        cases ho
        rw [hd'] at hd
        cases hd
      · obtain ⟨_, o', ho', _⟩ := I.ok.funs.mem y
        exact absurd (Nat.lt_of_lt_of_le (Heap.lt_size ho') (I.ok.cab x c (hfn x) hx)) (Nat.lt_irrefl _)
  obtain ⟨m, hn, hl⟩ := I.loc
  refine ⟨I.ok, I.os, I.bare, I.base.through k (fun b hb => (hM b hb).1) hS, ⟨m, ?_, fun i x v e1 e2 e3 => ?_⟩, fun x c e => ?_, I.free, I.freeC, fun p hp => ?_, I.hok.through k (fun b hb => (hM b hb).2.1) I.stkFree, I.len⟩
  · obtain ⟨o, es, ep, ho, hd, r⟩ := hn
    obtain ⟨sl, e⟩ := k.any ho fun z => (by
      obtain ⟨vs, e⟩ := hR _ z o ho
      rw [hd] at e
      cases e)
    exact ⟨_, es, ep, e, hd, r⟩
  · obtain ⟨u, r, z⟩ := hl i x v e1 e2 e3
    exact ⟨u, r, z.imp id fun ⟨a, c, b, q⟩ => ⟨a, c, b, cellK x c _ b q⟩⟩
  · obtain ⟨v, q⟩ := I.cell x c e
    exact ⟨v, cellK x c v e q⟩
  · obtain ⟨a, b, c, d, e⟩ := I.pin p hp
    refine ⟨k.keep _ _ a (fun z => (hM _ z).2.2 p hp rfl) (fun z => ?_), b, c, d, e⟩
    rcases List.mem_cons.mp (I.stkSub _ z) with y | y
    · exact c y
    · exact d y
theorem excX_rec {h : Heap} {e : Addr} {cls : Value} {tr : List Addr} (x : ExcX h e cls tr) : ∀ b ∈ e :: tr, ∀ o, h.get? b = some o → ∃ vs, o.data = .fields vs := fun b hb o ho => by
  rcases x with ⟨rfl, oe, vs, a0, h1, h2, h3, _⟩ | ⟨T, fl, rfl, oe, vs, oT, ts, a0, h1, _, h3, _, _, h6, h7, _⟩
  · have : b = e := by simpa using hb
    subst this
    rw [h1] at ho
    cases ho
    exact ⟨_, h3⟩
  · have : b = e ∨ b = T := by simpa using hb
    rcases this with rfl | rfl
    · rw [h1] at ho
      cases ho
      exact ⟨_, h3⟩
    · rw [h6] at ho
      cases ho
      exact ⟨_, h7⟩
theorem SP.turn {E : Value → Shared → Prop} {pn pins' : List (Addr × Obj)} {A : Around} {c : Bool} {D : Ends} {fl : Flow} {s' : Shared} (h : SP { X with A := A, calm := c, xe := E, pn := pn } pins' D fl s') (hA : A.frames = X.A.frames) (hh : X.calm = true → X.A.handled = none)
    (hp : ∀ p ∈ X.pn ++ pins, p ∈ pn ++ pins') : SP X pins D fl s' := by
  have back : ∀ {σ' : St} {H' : Hp}, Inv { X with A := A, calm := c, xe := E, pn := pn } pins' σ' H' s' → Inv X pins σ' H' s' := fun I => I.turn (X := { X with A := A, calm := c, xe := E, pn := pn }) (E := X.xe) (pn := X.pn) (pins' := pins) (A := X.A) (c := X.calm) hA.symm hh hp
  cases fl with
  | next => obtain ⟨σ', H', I, q⟩ := h; exact ⟨σ', H', back I, q⟩
  | brk => obtain ⟨σ', H', I, q⟩ := h; exact ⟨σ', H', back I, q⟩
  | cont => obtain ⟨σ', H', I, q⟩ := h; exact ⟨σ', H', back I, q⟩
  | ret u => obtain ⟨v, σ', H', I, r, q⟩ := h; exact ⟨v, σ', H', back I, r, q⟩
theorem ps_try {C : Addr} (EH : Hp → Prop) {x : Str} {newId : String} {bm : List Value} {body suite : List Stmt} {b₀ : Stmt} {tb th : TS} {np hpos pos : Pos} (O : OwnCls x C bm newId X.mg X.base) (hbase : bm.contains (.type "BaseException") = true) (hc : X.calm = true) (hex : X.ex = []) (hfn : ∀ x, X.fn x = true)
    (hst : X.stack = X.env :: X.outer) (hfr : X.env.frame = some X.env.locals) (hg : Gl X x)
    (hb : ∀ E pn, XOk { X with xe := E, pn := pn } C EH → PassesOwn (model X.prog X.w) X.A X.env E → PSs { X with xe := E, pn := pn } body tb)
    (hh : ∀ e, PSs { X with A := X.A.mark (some (.ref e)), calm := false, xe := fun _ _ => False } (b₀ :: suite) th) (hd : (x == ("__debug__" : Str)) = false := by decide) :
    PS X (.Try body [.ExceptHandler (some (.Name x np)) none (b₀ :: suite) hpos] [] [] pos) (fun D σ H => tb D σ H ∧ ∀ σ' H', EH H' → th D σ' H') := by
  intro pins s σ H D I h
  refine wpAny_Try_except ?_
  have hA : ∀ e, (X.A.mark (some (.ref e))).frames = X.A.frames := fun _ => rfl
  have xk : XOk { X with xe := fun e s₁ => wpAny (model X.prog X.w) X.A (noteFrame e X.env) (fun _ s₂ => wpAny (model X.prog X.w) X.A (setFlight e none) (fun _ s₃ => wpAny (model X.prog X.w) X.A (handleBy e X.env [.ExceptHandler (some (.Name x np)) none (b₀ :: suite) hpos]) (SP X pins D) X.xe s₃) X.xe s₂) X.xe s₁, pn := X.pn ++ pins } C EH := by
    refine ⟨fun b hb => absurd (show b ∈ X.ex from hb) (by rw [hex]; simp), fun e H' s' ⟨pins', σ', tr, I', x', fr⟩ q => ?_⟩
    have fr0 : X.A.frames = some (X.env :: X.outer) := by rw [← hst]; exact I.ok.frames
    have st0 : s'.heap.FunFrames X.base (X.env :: X.outer) := by rw [← hst]; exact I'.stack
    refine landX (L := X.env.locals) fr0 st0 hfr x' fun h1 T1 k1 x1 z1 => ?_
    rw [← hst] at k1
    have I1 := I'.thru (s := s') k1 (fun b hb => ⟨(fr b hb).1, (fr b hb).2.1, (fr b hb).2.2⟩) (excX_rec x') hfn
    have fT : X.s_0.heap.get? T1 = none ∧ H' T1 = none ∧ ∀ p ∈ (X.pn ++ pins) ++ pins', p.1 ≠ T1 := by
      rcases z1 with z1 | z1
      · exact ⟨un_none I'.base z1 (fun y => absurd (show T1 ∈ X.ex from y) (by rw [hex]; simp)), hok_none I'.hok z1, fun p hp y => by
          have := (I'.pin p hp).1
          rw [y, z1] at this
          cases this⟩
      · exact fr T1 (List.mem_cons_of_mem _ z1)
    have I2 : Inv { X with A := X.A.mark (some (.ref e)), calm := false, xe := fun _ _ => False } pins σ' H' { s' with heap := h1 } :=
      I1.turn (A := X.A.mark (some (.ref e))) (c := false) (E := fun _ _ => False) (pn := X.pn) (pins' := pins) rfl (fun z => nomatch z) fun p hp => List.mem_append_left _ hp
    refine wpAny_handleBy_cons (codeAny_handlers_test (ld_glob I2 hg O.bound ?_ hd)) (by intro q; cases q)
    obtain ⟨tl, N, nm, qn, bs, hdct, sn, sub, ab, col, dd, k0, k1', k2, k3, k5, mN, hC, hN, hni, T⟩ := O.obj
    have x1' := x1
    obtain ⟨oe, vs, oT, ts, a0, e1, ⟨e2, _⟩, e3, e4, e5, e6, e7, e8⟩ := x1'
    refine wpAny_excMatches_sub_self (I2.bk _ _ hC) e1 e2 (T.hasType hbase) (codeAny_handlers_suite ?_)
    refine flight (s := { s' with heap := h1 }) x1 fun h2 k2' x2 => ?_
    have I3 := I2.thru (M := [T1]) (k2'.mono (fun c hc => hc) fun c hc => absurd hc (by simp)) (fun b hb => by
      have : b = T1 := by simpa using hb
      subst this
      exact ⟨fT.1, fT.2.1, fun p hp => fT.2.2 p (List.mem_append_left _ hp)⟩) (fun b hb o ho => by
      have : b = T1 := by simpa using hb
      subst this
      have ho : h1.get? b = some o := ho
      rw [e6] at ho
      cases ho
      exact ⟨_, e7⟩) hfn
    refine thnF (hh e pins _ σ' H' D I3 (h.2 σ' H' q)) fun fl s4 h4 => ?_
    exact SP.turn (X := X) h4 rfl I.ok.hd fun p hp => hp
  have I0 := I.turn (A := X.A) (c := X.calm) (E := fun e s₁ => wpAny (model X.prog X.w) X.A (noteFrame e X.env) (fun _ s₂ => wpAny (model X.prog X.w) X.A (setFlight e none) (fun _ s₃ => wpAny (model X.prog X.w) X.A (handleBy e X.env [.ExceptHandler (some (.Name x np)) none (b₀ :: suite) hpos]) (SP X pins D) X.xe s₃) X.xe s₂) X.xe s₁) (pn := X.pn ++ pins) (pins' := []) rfl I.ok.hd (fun p hp => by simpa using hp)
  refine thn (hb _ _ xk PassesOwn.looking [] s σ H D I0 h.1) fun fl s4 h4 => ?_
  have h5 : SP X pins D fl s4 := SP.turn (X := X) (A := X.A) (c := X.calm) h4 rfl I.ok.hd fun p hp => List.mem_append_left _ hp
  cases fl with
  | next => exact wpAny_execs_nil h5
  | brk => exact h5
  | cont => exact h5
  | ret u => exact h5
end
end L2
end
section
set_option Elab.async false
set_option linter.all false
set_option maxRecDepth 100000
namespace L2
open PySem PySem.Spec PyProof.Rows
def GI (mg : Str → Option Value) (x : Str) (n : Int) : Prop := ∃ t, mg x = some (.int n t)
def GS (mg : Str → Option Value) (x z : Str) : Prop := ∃ t, mg x = some (.str z t)
section
variable {X : Cx} {x : Str} {pos : Pos}
theorem pe_gi {n : Int} (h : GI X.mg x n) (hg : Gl X x := by rfl) (hd : (x == ("__debug__" : Str)) = false := by decide) : PE X (.Name x pos) (tC (.int n)) :=
  let ⟨t, e⟩ := h; pe_glob hg e ⟨t, rfl⟩ hd
theorem pe_gs {z : Str} (h : GS X.mg x z) (hg : Gl X x := by rfl) (hd : (x == ("__debug__" : Str)) = false := by decide) : PE X (.Name x pos) (tC (.str z)) :=
  let ⟨t, e⟩ := h; pe_glob hg e ⟨t, rfl⟩ hd
theorem pe_gr {a : Addr} (h : X.mg x = some (.ref a)) (hg : Gl X x := by rfl) (hd : (x == ("__debug__" : Str)) = false := by decide) : PE X (.Name x pos) (tC (.ref a)) := pe_glob hg h rfl hd
end
structure DicK (P : Program) (w : World) (K : PySem.W.Frag) (d : Addr) (kvs : List (Key × V)) : Prop where
  ns : (d == sysModules) = false
  few : kvs.length ≤ sizeLine
  ex : ∃ (o : Obj) (es : Array DictEntry) (ep : Nat) (vs : List (Key × Value)), K.lookup d = some o ∧ o.ExactDict ∧ o.data = .dict es ep ∧ KeysOf (mixKind P w) es ∧ Pairs (mixKind P w) es.toList vs ∧ (vs.map (·.1)).Nodup ∧ KV kvs vs
section
variable {X : Cx} {pins : List (Addr × Obj)} {σ : St} {H : Hp} {s : Shared} {d : Addr} {kvs : List (Key × V)}
theorem DicK.at (D : DicK X.prog X.w X.K d kvs) (I : Inv X pins σ H s) : ∃ (o : Obj) (es : Array DictEntry) (ep : Nat) (vs : List (Key × Value)), s.heap.get? d = some o ∧ o.ExactDict ∧ o.data = .dict es ep ∧ es.size = kvs.length ∧ KV kvs vs ∧
    s.heap.DictOf (mixKind X.prog X.w) d vs ∧ s.heap.DictAt (mixKind X.prog X.w) d vs ep := by
  obtain ⟨o, es, ep, vs, lk, hx, hd, h1, h2, h3, kv⟩ := D.ex
  have ho := I.kIn _ _ lk
  refine ⟨o, es, ep, vs, ho, hx, hd, ?_, kv, ⟨o, es, ep, ho, hx, hd, h1, h2, h3⟩, ⟨o, es, ho, hx, hd, h1, h2, h3⟩⟩
  have l1 := h2.length
  have l2 : kvs.length = vs.length := Paired.length kv
  rw [Array.length_toList] at l1
  omega
variable {k : Key} {u : Value} {A : Around} {E : Value → Shared → Prop}
theorem dK_get {v : V} {Q : Value → Shared → Prop} (D : DicK X.prog X.w X.K d kvs) (I : Inv X pins σ H s) (l : valV kvs k = some v) (ry : RelV (kV k) u) (h : ∀ w' s', Inv X pins σ H s' → RelV v w' → Q w' s') : wpAny (model X.prog X.w) A (getItem (.ref d) u) Q E s := by
  obtain ⟨o, es, ep, vs, ho, hx, hd, hz, rel, dd, _⟩ := D.at I
  obtain ⟨w', hw, rw'⟩ := RelO.some_of (v := v) (o := valueAt vs k) (by rw [← l]; exact rel.val k)
  exact wpAny_getItem_of (kV_is ry) dd.mapOf hw (h w' _ (I.tok _) rw')
end
def tKGet (P : Program) (w : World) (K : PySem.W.Frag) (td ty : TE) : TE := fun σ H Q => td σ H fun x H1 => ty σ H1 fun y H2 => ∃ a kvs k v, x = .ref a ∧ DicK P w K a kvs ∧ y = kV k ∧ valV kvs k = some v ∧ Q v H2
def tKIn (P : Program) (w : World) (K : PySem.W.Frag) (ty td : TE) : TE := fun σ H Q => ty σ H fun y H1 => td σ H1 fun x H2 => ∃ a kvs k, x = .ref a ∧ DicK P w K a kvs ∧ y = kV k ∧ Q (.bl (valV kvs k).isSome) H2
section
variable {X : Cx} {o i : Expr} {pos : Pos} {td ty : TE}
theorem pe_kget (ho : PE X o td) (hi : PE X i ty) (hs : NoSl i) : PE X (.Subscript o i pos) (tKGet X.prog X.w X.K td ty) := by
  intro pins s σ H Q I h
  refine subD_of PySem.F.slot_dict_getitem.lookup hs (thn (ho pins s σ H _ I h) fun u s1 ⟨x, H1, I1, rx, q1⟩ => thn (hi pins s1 σ H1 _ I1 q1) fun iv s2 ⟨y, H2, I2, ry, a, kvs, k, v, ex, D, ey, l, q2⟩ => ?_)
  subst ex ey
  obtain rfl : u = Value.ref a := rx
  obtain ⟨_, _, _, _, _, _, _, _, _, dd, _⟩ := D.at I2
  exact ⟨dd.typeIs, dK_get D I2 l ry fun w' s3 I3 rw' => ⟨v, H2, I3, rw', q2⟩⟩
end
def Itm (kvs : List (Key × V)) : It := ⟨fun i _ => i < kvs.length, fun i H x H' => H' = H ∧ ∃ k v, kvs[i]? = some (k, v) ∧ x = kV k, fun i _ => kvs.length ≤ i⟩
def DicO (P : Program) (w : World) (K : PySem.W.Frag) (d : Addr) (kvs : List (Key × V)) (ep : Nat) : Prop := DicK P w K d kvs ∧ ∃ o es, K.lookup d = some o ∧ o.data = .dict es ep
def iKeysK (P : Program) (w : World) (K : PySem.W.Frag) (td : TE) : TI := fun σ H R => td σ H fun x H1 => ∃ d kvs, x = .ref d ∧ DicK P w K d kvs ∧ R (Itm kvs) H1
end L2
end
section
set_option Elab.async false
set_option linter.all false
set_option maxRecDepth 100000
namespace L2
open PySem PySem.Spec PyProof.Rows
section
variable {X : Cx}
end
end L2
end
section
set_option Elab.async false
set_option linter.all false
set_option maxRecDepth 100000
namespace L2
open PySem PySem.Spec PyProof.Rows
section
variable {X : Cx}
def rCount (K : PySem.W.Frag) : V → List V → Hp → VK → Prop := fun x xs H Q => ∃ (a : Addr) (ys : List V) (y : V), x = V.ref a ∧ xs = [y] ∧ SqL K H a ys ∧ flatV y = true ∧ ys.all flatV = true ∧ Q (.int ((ys.countP fun z => eqV z y : Nat) : Int)) H
def rInD (K : PySem.W.Frag) : R2 := fun x y H Q => ∃ d es, Dp K H x d ∧ Dp K H y (.tuple es) ∧ SeqAt.shaped d = true ∧ SeqAt.shaped (.tuple es) = true ∧ Q (.bl (es.any fun e => PyData.eqv e d)) H
end
structure Own (P : Program) (w : World) (K : PySem.W.Frag) (mg : Str → Option Value) (base : Heap) (CX : CXT) (k : Nat) (x : Str) (ps : List Str) (sp : Sp) : Prop where
  ex : ∃ (f : Addr) (fd : FuncData), mg x = some (.ref f) ∧ PySem.W.keepIn K (.ref f) = true ∧ Binds K fd ps [] ∧ FnOk P w K mg base CX k f fd ps sp
section
variable {X : Cx} {CX : CXT} {k : Nat} {ps : List Str} {sp : Sp} {E : XK} {x : Str} {p pos : Pos} {e : Expr} {es : List Expr} {t : TA} {C : Addr}
theorem pe_own (O : Own X.prog X.w X.K X.mg X.base CX k x ps sp) (hr : Room k X.A) (hx : Passes CX X E) (ha : PA X (e :: es) t) (hg : Gl X x := by rfl) (hdb : (x == ("__debug__" : Str)) = false := by decide)
    (he : starEach (e :: es) X.env = (false, eval e X.env) :: starEach es X.env := by rfl) (hpl : (backTo pos (starEach es X.env)).any (·.1) = false := by rfl) : PE X (.Call (.Name x p) (e :: es) [] pos) (tCall sp [] E t) := by
  obtain ⟨f, fd, h1, h2, h3, h4⟩ := O.ex
  exact pe_call h4 hr hg h1 h2 h3 .nil hx ha hdb he hpl
structure OwnC (P : Program) (w : World) (K : PySem.W.Frag) (mg : Str → Option Value) (base : Heap) (CX : CXT) (k : Nat) (C : Addr) (x : Str) (ps : List Str) (sp : Sp) : Prop where
  ex : ∃ (f : Addr) (fd : FuncData), mg x = some (.ref C) ∧ Mk K C f ∧ Binds K fd ps [] ∧ FnOk P w K mg base CX k f fd ps sp
theorem pe_new (O : OwnC X.prog X.w X.K X.mg X.base CX k C x ps sp) (hr : Room (k + 1) X.A) (hx : Passes CX X E) (ha : PA X (e :: es) t) (hg : Gl X x := by rfl) (hdb : (x == ("__debug__" : Str)) = false := by decide)
    (he : starEach (e :: es) X.env = (false, eval e X.env) :: starEach es X.env := by rfl) (hpl : (backTo pos (starEach es X.env)).any (·.1) = false := by rfl) : PE X (.Call (.Name x p) (e :: es) [] pos) (tMake C sp [] E t) := by
  obtain ⟨f, fd, h1, h2, h3, h4⟩ := O.ex
  exact pe_make h2 h4 hr hg h1 h3 .nil hx ha hdb he hpl
end
end L2
end
section
set_option Elab.async false
set_option linter.all false
set_option maxRecDepth 100000
namespace L2
open PySem PySem.Spec PyProof.Rows
structure Plain (J : It) (xs : List V) : Prop where
  go : ∀ i H, i < xs.length → J.go i H
  yld : ∀ i H x H', J.yld i H x H' → H' = H ∧ (i < xs.length → xs[i]? = some x)
  stop : ∀ i H, xs.length ≤ i → J.stop i H
theorem plain_str (z : Str) : Plain (Its z) (z.cps.toList.map fun c => V.str ⟨#[c]⟩) := by
  refine ⟨fun i H h => ?_, fun i H x H' h => ?_, fun i H h => ?_⟩
  · rw [List.length_map, Array.length_toList] at h; exact h
  · obtain ⟨e, c, h1, h2⟩ := h
    refine ⟨e, fun _ => ?_⟩
    rw [List.getElem?_map, Array.getElem?_toList, h1, h2]
    rfl
  · rw [List.length_map, Array.length_toList] at h; exact h
theorem lc_plain {J : It} {xs : List V} (hJ : Plain J xs) {g : TG} {tt : TT} {te : TE} {vs : List Nat} {σ : St} {H1 : Hp} {D : Addr} {Qd : Hp → Prop} (Pv : Nat → Hp → Prop) (h0 : Pv 0 (upd H1 D (.lst [])))
    (hs : ∀ i x H, xs[i]? = some x → Pv i H → g x (wipe σ vs) H fun σ2 H2 => wipe σ2 vs = wipe σ vs ∧ tt σ2 H2 fun b H3 =>
      if b = true then te σ2 H3 fun y H4 => ∃ acc, H4 D = some (.lst acc) ∧ acc.length < sizeLine ∧ Pv (i + 1) (upd H4 D (.lst (acc ++ [y]))) else Pv (i + 1) H3) (hd : ∀ H, Pv xs.length H → Qd H) :
    ∃ W : Nat → Nat → Hp → Prop, (∃ m, W 0 m (upd H1 D (.lst []))) ∧ ∀ i m H, W i m H →
      (J.stop i H ∧ Qd H) ∨ (J.go i H ∧ ∃ Nx : Hp → Prop, (∀ H', Nx H' → ∃ m', m' < m ∧ W (i + 1) m' H') ∧ ∀ x H', J.yld i H x H' → g x (wipe σ vs) H' fun σ2 H2 => wipe σ2 vs = wipe σ vs ∧ tt σ2 H2 fun b H3 =>
        if b = true then te σ2 H3 fun y H4 => ∃ acc, H4 D = some (.lst acc) ∧ acc.length < sizeLine ∧ Nx (upd H4 D (.lst (acc ++ [y]))) else Nx H3) := by
  refine ⟨fun i m H => m = xs.length - i ∧ i ≤ xs.length ∧ Pv i H, ⟨xs.length, by simp, Nat.zero_le _, h0⟩, ?_⟩
  rintro i m H ⟨rfl, hi, p⟩
  by_cases hlt : i < xs.length
  · refine .inr ⟨hJ.go i H hlt, Pv (i + 1), fun H' p' => ⟨xs.length - (i + 1), by omega, rfl, hlt, p'⟩, fun x H' y => ?_⟩
    obtain ⟨e, y2⟩ := hJ.yld i H x H' y
    have y3 := y2 hlt
    rw [e]
    exact hs i x _ y3 p
  · have e : i = xs.length := by omega
    subst e
    exact .inl ⟨hJ.stop _ H (Nat.le_refl _), hd H p⟩
theorem can_ints : ∀ l : List Int, PyData.canLayAll0 (l.map PyData.int) = true
  | [] => rfl
  | _ :: r => by
    show (true && PyData.canLayAll0 (r.map PyData.int)) = true
    rw [can_ints r]
    rfl
theorem dep_ints : ∀ l : List Int, PyData.depthAll (l.map PyData.int) = 0
  | [] => rfl
  | _ :: r => by
    show max 0 (PyData.depthAll (r.map PyData.int)) = 0
    rw [dep_ints r]
    rfl
theorem shaped_ints (l : List Int) : SeqAt.shaped (.list (l.map PyData.int)) = true := by
  unfold SeqAt.shaped
  show (PyData.canLayAll0 _ && decide (PyData.depthAll _ + 1 ≤ 64)) = true
  rw [can_ints, dep_ints]
  rfl
theorem eqv_intsAll : ∀ a b : List Int, PyData.eqvAll (a.map PyData.int) (b.map PyData.int) = decide (a = b)
  | [], [] => rfl
  | [], _ :: _ => rfl
  | _ :: _, [] => rfl
  | x :: a, y :: b => by
    show ((x == y) && PyData.eqvAll (a.map PyData.int) (b.map PyData.int)) = _
    rw [eqv_intsAll a b]
    by_cases h : x = y
    · subst h
      simp
    · simp [h]
theorem eqv_ints (a b : List Int) : PyData.eqv (.list (a.map PyData.int)) (.list (b.map PyData.int)) = decide (a = b) := eqv_intsAll a b
theorem dp_intsAll {K : PySem.W.Frag} {H : Hp} : ∀ l : List Int, DpAll K H (l.map V.int) (l.map PyData.int)
  | [] => .nil
  | x :: r => .cons (.int x) (dp_intsAll r)
theorem dp_ints {K : PySem.W.Frag} {H : Hp} {a : Addr} {l : List Int} (h : SqL K H a (l.map V.int)) : Dp K H (.ref a) (.list (l.map PyData.int)) := .lst h (dp_intsAll l)
theorem Same.upd {H : Hp} {p : Addr} {o : HO} (h : H p = none) : Same H (upd H p o) := fun b u e => by
  rw [upd_ne (ne_of_none e h)]
  exact e
end L2
end
section
set_option Elab.async false
set_option linter.all false
set_option maxRecDepth 100000
set_option maxHeartbeats 1000000
namespace L2
open PySem PySem.Spec PyProof.Rows
structure DefIn (K : PySem.W.Frag) (mg : Str → Option Value) (x : Str) (st : Stmt) (ps : List Str) : Prop where
  ex : ∃ (f : Addr) (fd : FuncData), mg x = some (.ref f) ∧ Fun K x x st f fd ∧ Binds K fd ps [] ∧ ∀ (s : Shared) (us : List Value), us.length = ps.length → BindsTo s fd ⟨us, []⟩ (ps.zip us)
section
variable {K : PySem.W.Frag} {h : Heap} {mg : Str → Option Value}
theorem defIn_mk {x : Str} {st : Stmt} {ps : List Str} {f : Addr} {oc : Value} {od an : Option Addr} {osl : Array (Option Value)} {kV doc pm cdv ct : Value} (X : K.In h) (G : h.Ns mainGlobals mg)
    (a : PySem.W.nsIn K mainGlobals x = some (some (.ref f))) (l : K.lookup f = some ⟨oc, od, .func (PySem.W.fnOf x x (defArgs st) (defBody st) (defScope st) .none kV doc pm an cdv ct), osl⟩)
    (c : PySem.W.codeIn K cdv x = true) (k : PySem.W.keepIn K (.ref f) = true)
    (b : ∀ (kV doc pm : Value) (an : Option Addr) (cdv ct : Value) (us : List Value), us.length = ps.length → bindArgs (PySem.W.fnOf x x (defArgs st) (defBody st) (defScope st) .none kV doc pm an cdv ct) ⟨us, []⟩ = pure (ps.zip us)) : DefIn K mg x st ps :=
  ⟨f, _, PySem.W.mg_of X G a, fun_mk l c k, (fun_mk (st := st) l c k).binds b, fun _ us hu => .of_eq (b kV doc pm an cdv ct us hu)⟩
theorem DefIn.own {P : Program} {w : World} {base : Heap} {CX : CXT} {k : Nat} {x : Str} {st : Stmt} {ps : List Str} {sp : Sp} (D : DefIn K mg x st ps) (ok : ∀ (f : Addr) (fd : FuncData), Fun K x x st f fd → FnOk P w K mg base CX k f fd ps sp) : Own P w K mg base CX k x ps sp := by
  obtain ⟨f, fd, h1, h2, h3, _⟩ := D.ex
  exact ⟨f, fd, h1, h2.kp, h3, ok f fd h2⟩
structure ClsIn (K : PySem.W.Frag) (mg : Str → Option Value) (x q : Str) (st : Stmt) (ps : List Str) (C : Addr) : Prop where
  mgC : mg x = some (.ref C)
  cl : Cls K C
  ex : ∃ (f : Addr) (fd : FuncData), Mk K C f ∧ Fun K "__init__" q st f fd ∧ Binds K fd ps []
theorem clsIn_mk {x q : Str} {st : Stmt} {ps : List Str} {C f : Addr} {oc : Value} {od an : Option Addr} {osl : Array (Option Value)} {kV doc pm cdv ct : Value} (X : K.In h) (G : h.Ns mainGlobals mg)
    (a : PySem.W.nsIn K mainGlobals x = some (some (.ref C))) (a1 : PySem.W.findIn K (.ref C) "__init__" = some (some (.ref f))) (i1 : PySem.W.isFn K (.ref f) = true)
    (l : K.lookup f = some ⟨oc, od, .func (PySem.W.fnOf "__init__" q (defArgs st) (defBody st) (defScope st) .none kV doc pm an cdv ct), osl⟩)
    (c : PySem.W.codeIn K cdv q = true) (k : PySem.W.keepIn K (.ref f) = true)
    (pg : PySem.W.plainGet K C Str.empty = true) (hd : PySem.W.hasDictIn K C = true) (po : PySem.W.plainOver K C = true) (sa : PySem.W.findIn K (.ref C) "__setattr__" = some (some (.builtin "object.__setattr__"))) (mk : PySem.W.makesIn K C = true) (kc : PySem.W.keepIn K (.ref C) = true)
    (b : ∀ (kV doc pm : Value) (an : Option Addr) (cdv ct : Value) (us : List Value), us.length = ps.length → bindArgs (PySem.W.fnOf "__init__" q (defArgs st) (defBody st) (defScope st) .none kV doc pm an cdv ct) ⟨us, []⟩ = pure (ps.zip us)) : ClsIn K mg x q st ps C :=
  ⟨PySem.W.mg_of X G a, ⟨pg, hd, po, sa⟩, f, _, ⟨mk, a1, i1, kc⟩, fun_mk l c k, (fun_mk (st := st) l c k).binds b⟩
theorem ClsIn.own {P : Program} {w : World} {base : Heap} {CX : CXT} {k : Nat} {x q : Str} {st : Stmt} {ps : List Str} {sp : Sp} {C : Addr} (D : ClsIn K mg x q st ps C) (ok : ∀ (f : Addr) (fd : FuncData), Fun K "__init__" q st f fd → FnOk P w K mg base CX k f fd ps sp) : OwnC P w K mg base CX k C x ps sp := by
  obtain ⟨f, fd, h2, h3, h4⟩ := D.ex
  exact ⟨f, fd, D.mgC, h2, h4, ok f fd h3⟩
theorem gi_mk {x : Str} {n : Int} {t : Tok} (X : K.In h) (G : h.Ns mainGlobals mg) (a : PySem.W.nsIn K mainGlobals x = some (some (.int n t))) : GI mg x n := ⟨t, PySem.W.mg_of X G a⟩
theorem gs_mk {x z : Str} {t : Tok} (X : K.In h) (G : h.Ns mainGlobals mg) (a : PySem.W.nsIn K mainGlobals x = some (some (.str z t))) : GS mg x z := ⟨t, PySem.W.mg_of X G a⟩
theorem tup_mk {x : Str} {c : Addr} {od : Option Addr} {its : Array Value} {n : Nat} {osl : Array (Option Value)} {xs : List V} (X : K.In h) (G : h.Ns mainGlobals mg) (a : PySem.W.nsIn K mainGlobals x = some (some (.ref c)))
    (l : K.lookup c = some ⟨.type "tuple", od, .seq its n, osl⟩) (z : its.size ≤ sizeLine) (v : Vals xs its.toList) : ∃ a, mg x = some (.ref a) ∧ ∀ H, SqT K H a xs :=
  ⟨c, PySem.W.mg_of X G a, fun _ => .inr ⟨_, its, n, l, rfl, rfl, z, v⟩⟩
abbrev DefInX (X : K.In h) (mg : Str → Option Value) (x : Str) (st : Stmt) (ps : List Str) : Prop := DefIn K mg x st ps
abbrev ClsInX (X : K.In h) (mg : Str → Option Value) (x q : Str) (st : Stmt) (ps : List Str) (C : Addr) : Prop := ClsIn K mg x q st ps C
abbrev NoAttrX (X : K.In h) (C : Addr) (f : Str) : Prop := NoAttr K C f
abbrev TupX (X : K.In h) (mg : Str → Option Value) (x : Str) (xs : List V) : Prop := ∃ a, mg x = some (.ref a) ∧ ∀ H, SqT K H a xs
theorem nm_mk {x : Str} (X : K.In h) (G : h.Ns mainGlobals mg) (a : PySem.W.nsIn K mainGlobals x = some none) : mg x = none := PySem.W.mg_none_of X G a
end
end L2
end
section
set_option Elab.async false
set_option linter.all false
set_option maxRecDepth 100000
set_option maxHeartbeats 1000000
namespace L2
open PySem PySem.Spec PyProof.Rows
theorem for_enum {K : PySem.W.Frag} {a : Addr} {xs : List V} {g : TG} {tb : TS} {D : Ends} {σ : St} {H : Hp} (Pv : Nat → St → Hp → Prop) (h0 : Pv 0 σ H) (hl : ∀ i σ H, i ≤ xs.length → Pv i σ H → SqL K H a xs)
    (hs : ∀ i x σ H T, xs[i]? = some x → Pv i σ H → H T = none → g (.ref T) σ (upd H T (.tup [.int (i : Nat), x])) fun σ2 H2 => tb { D with nx := Pv (i + 1), ct := Pv (i + 1), bk := D.nx } σ2 H2)
    (hd : ∀ σ H, Pv xs.length σ H → D.nx σ H) :
    ∃ W : Nat → Nat → St → Hp → Prop, (∃ m, W 0 m σ H) ∧ ∀ i m σ H, W i m σ H →
      ((Ite K a).stop i H ∧ D.nx σ H) ∨ ((Ite K a).go i H ∧ ∃ N : St → Hp → Prop, (∀ σ' H', N σ' H' → ∃ m', m' < m ∧ W (i + 1) m' σ' H') ∧ ∀ x H', (Ite K a).yld i H x H' → g x σ H' fun σ2 H2 => tb { D with nx := N, ct := N, bk := D.nx } σ2 H2) := by
  refine ⟨fun i m σ H => i + m = xs.length ∧ Pv i σ H, ⟨xs.length, Nat.zero_add _, h0⟩, ?_⟩
  rintro i m σ H ⟨e, p⟩
  have q := hl i σ H (by omega) p
  cases m with
  | zero =>
    obtain rfl : i = xs.length := by omega
    exact .inl ⟨⟨xs, q, Nat.le_refl _⟩, hd σ H p⟩
  | succ m =>
    have hlt : i < xs.length := by omega
    refine .inr ⟨⟨xs, xs[i], q, List.getElem?_eq_getElem hlt⟩, Pv (i + 1), fun σ' H' p' => ⟨m, Nat.lt_succ_self m, by omega, p'⟩, ?_⟩
    rintro v H' ⟨T, x, rfl, hT, rfl, hx⟩
    exact hs i x σ H T (hx xs q) p hT
inductive A2 {α β : Type} (R : α → β → Prop) : List α → List β → Prop
  | nil : A2 R [] []
  | cons {x : α} {y : β} {xs : List α} {ys : List β} : R x y → A2 R xs ys → A2 R (x :: xs) (y :: ys)
theorem A2.imp {α β : Type} {R S : α → β → Prop} (f : ∀ x y, R x y → S x y) : ∀ {xs : List α} {ys : List β}, A2 R xs ys → A2 S xs ys
  | _, _, .nil => .nil
  | _, _, .cons h t => .cons (f _ _ h) (A2.imp f t)
theorem A2.snoc {α β : Type} {R : α → β → Prop} {x : α} {y : β} (h : R x y) : ∀ {xs : List α} {ys : List β}, A2 R xs ys → A2 R (xs ++ [x]) (ys ++ [y])
  | _, _, .nil => .cons h .nil
  | _, _, .cons a t => .cons a (A2.snoc h t)
theorem A2.length {α β : Type} {R : α → β → Prop} : ∀ {xs : List α} {ys : List β}, A2 R xs ys → xs.length = ys.length
  | _, _, .nil => rfl
  | _, _, .cons _ t => by rw [List.length_cons, List.length_cons, A2.length t]
theorem A2.get {α β : Type} {R : α → β → Prop} : ∀ {xs : List α} {ys : List β} {i : Nat} {x : α}, A2 R xs ys → xs[i]? = some x → ∃ y, ys[i]? = some y ∧ R x y
  | _, _, i, _, .nil, h => by simp at h
  | _, _, 0, _, .cons a _, h => ⟨_, rfl, (Option.some.inj h) ▸ a⟩
  | _, _, i + 1, _, .cons _ t, h => A2.get (i := i) t h
theorem Same.off {H H' : Hp} {p : Addr} {o : HO} (s : Same H H') (h : H p = none) : Same H (L2.upd H' p o) := fun b x e => by
  rw [upd_ne (ne_of_none e h)]
  exact s b x e
theorem Same.ins {H H' : Hp} {x dx C : Addr} {fs : List (Str × V)} (s : Same H H') (hx : H' x = none) (hd : H' dx = none) : Same H (L2.upd (L2.upd (L2.upd H' dx (.own x)) x (.ins C dx [])) x (.ins C dx fs)) := fun b o e => by
  have := s b o e
  rw [upd_ne (ne_of_none this hx), upd_ne (ne_of_none this hx), upd_ne (ne_of_none this hd)]
  exact this
end L2
end
section
set_option Elab.async false
set_option linter.all false
set_option maxRecDepth 100000
set_option maxHeartbeats 4000000
namespace L2
open PySem PySem.Spec PyProof.Rows
theorem eT_typeCall (x v : Value) : checkTypeCall "enumerate" ⟨[x], [("start", v)]⟩ = pure () := by kernel_rfl
theorem eT_newCall (x v : Value) : checkBuiltinCall "enumerate.__new__" ⟨[.type "enumerate", x], [("start", v)]⟩ = pure () := by kernel_rfl
theorem eT_init (o x v : Value) : argsOk "object.__init__" ⟨[o, x], [("start", v)]⟩ := by
  unfold argsOk
  rw [signature?_of (id := "object.__init__") (n := "__init__".toList.reverse) (o := "object".toList.reverse) (by kernel_rfl) F.owner_object]
  kernel_rfl
section
variable {P : Program} {w : World} {A : Around} {E : Value → Shared → Prop} {s : Shared}
theorem eT_objInit {self : Value} {rest : List Value} {kw : List (Str × Value)} {r0 : Value} {rs : List Value} (e : rest = r0 :: rs) : Meets (Builtin.«object.__init__» ⟨self :: rest, kw⟩) (fun _ R s => s.TypeIs self "enumerate" ∧ R (.ok (.ret .none)) s) := by
  refine .of_wp fun P w A R s hs => ?_
  obtain ⟨hT, hq⟩ := hs
  have hl := F.called_enumerate.init.lookup
  have hm := F.called_enumerate.made
  have hne : (some "enumerate.__new__" != some "object.__new__") = true := by decide
  subst e
  repeat (any_goals (first | assumption | wp_step))
  exact ⟨_, rfl, hq⟩
theorem eT_new (t : Addr) (items : Array Value) (tk : Tok) :
    Meets (Builtin.«enumerate.__new__» ⟨[.type "enumerate", .ref t], [("start", .int 1 tk)]⟩) (fun _ R s => s.heap.IsTuple t items ∧
      R (.ok (.ret (.ref (s.heap.objs.size + 1))))
        { s with heap := (s.heap.push { cls := .type "tuple_iterator", data := .fields #[.ref t, .int 0 0] }).push { cls := .type "enumerate", data := .fields #[.none, .bool false, .ref s.heap.objs.size, rawInt 1, .none, .none] } }) :=
  .of_wp fun P w A R s0 h => by
    obtain ⟨hh, g, d, tq, os⟩ := s0
    obtain ⟨hT, h⟩ := h
    have hsub := sub_enumerate
    obtain ⟨ot, hot, hct, nt, hdt⟩ := id hT
    have z : (hh.push { cls := .type "tuple_iterator", data := .fields #[.ref t, .int 0 0] }).objs.size = hh.objs.size + 1 := Heap.size_push ..
    have fin := h
    rw [← z] at fin
    wp_walk using AutoSeq1.wpAny_loadPart' hot
    refine wpAny_stack_any fun st => wpAny_pure ?_
    split
    · rename_i c _ _ _ _ _
      cases c == Value.type "enumerate"
      · wp_walk using AutoSeq1.wpAny_loadPart' hot, wpAny_pyIter_tuple hT
        exact ⟨_, rfl, fin⟩
      · wp_walk using AutoSeq1.wpAny_loadPart' hot, wpAny_pyIter_tuple hT
        exact ⟨_, rfl, fin⟩
    · wp_walk using AutoSeq1.wpAny_loadPart' hot, wpAny_pyIter_tuple hT
      exact ⟨_, rfl, fin⟩
theorem eT_call {t : Addr} {items : Array Value} {tk : Tok} {Q : Value → Shared → Prop} (hT : s.heap.IsTuple t items)
    (h : ∀ h', IsEnum h' (s.heap.objs.size + 1) s.heap.objs.size 1 .none → h'.IsTupleIter s.heap.objs.size t 0 → (∀ b o, s.heap.get? b = some o → h'.get? b = some o) → Q (.ref (s.heap.objs.size + 1)) { s with heap := h' }) :
    wpAny (model P w) A (call (.type "enumerate") [.ref t] [("start", .int 1 tk)]) Q E s := by
  have ft := F.called_enumerate
  obtain ⟨c0, tl0, hm⟩ := ft.mro
  have h1 := ft.notType
  have h2 := ft.canCreate
  have h3 := ft.made
  have h4 := ft.sub
  have hct := eT_typeCall (.ref t) (.int 1 tk)
  refine wpAny_call (codeAny_of_tree (show wpAny _ _ (callAny (.type "enumerate") _) _ _ _ from wpAny_pure ⟨Code.quiet_builtin _ (by decide +kernel), codeAny_builtin F.entry_type_call ?_⟩))
  rw [Around.under_plain (weight_type_call_type "enumerate" [.ref t] [("start", .int 1 tk)]) (units_type_call_type _ _ _)]
  repeat (any_goals (first | assumption | wp_step))
  have z : (s.heap.push { cls := .type "tuple_iterator", data := .fields #[.ref t, .int 0 0] }).objs.size = s.heap.objs.size + 1 := Heap.size_push ..
  have he : IsEnum ((s.heap.push { cls := .type "tuple_iterator", data := .fields #[.ref t, .int 0 0] }).push { cls := .type "enumerate", data := .fields #[.none, .bool false, .ref s.heap.objs.size, rawInt 1, .none, .none] }) (s.heap.objs.size + 1) s.heap.objs.size 1 .none := by
    rw [← z]
    exact Heap.get?_push_size _ rfl
  refine codeAny_mono (codeAny_call_builtin ft.plain F.entry_enumerate_new (wpAny_of_eq (eT_newCall (.ref t) (.int 1 tk)) (eT_new t items tk P w A.in1 (wants (fun obj s1 => obj = .ref (s.heap.objs.size + 1) ∧ s1 = { s with heap := (s.heap.push { cls := .type "tuple_iterator", data := .fields #[.ref t, .int 0 0] }).push { cls := .type "enumerate", data := .fields #[.none, .bool false, .ref s.heap.objs.size, rawInt 1, .none, .none] } }) E) s ⟨hT, rfl, rfl⟩))) fun r s1 hr => ?_
  cases r with
  | error e => exact hr
  | ok fl =>
    cases fl with
    | ret obj =>
      obtain ⟨rfl, rfl⟩ := hr
      have hl := ft.init.lookup
      have hb := ft.init.bind (.ref (s.heap.objs.size + 1))
      have hi : Shared.TypeIs { s with heap := (s.heap.push { cls := .type "tuple_iterator", data := .fields #[.ref t, .int 0 0] }).push { cls := .type "enumerate", data := .fields #[.none, .bool false, .ref s.heap.objs.size, rawInt 1, .none, .none] } } (.ref (s.heap.objs.size + 1)) "enumerate" := ⟨_, he, rfl⟩
      repeat (any_goals (first | assumption | wp_step))
      refine codeAny_mono (codeAny_call_builtin ft.init.plain F.entry_object_init (ft.init.check _ _ _ _ _ _ _ _ hi (eT_init _ _ _) (eT_objInit (rest := [.ref t]) rfl P w A.in1 (wants (fun r s2 => r = .none ∧ s2 = { s with heap := (s.heap.push { cls := .type "tuple_iterator", data := .fields #[.ref t, .int 0 0] }).push { cls := .type "enumerate", data := .fields #[.none, .bool false, .ref s.heap.objs.size, rawInt 1, .none, .none] } }) E) _ ⟨hi, rfl, rfl⟩))) fun r2 s2 hr2 => ?_
      cases r2 with
      | error e => exact hr2
      | ok fl2 =>
        cases fl2 with
        | ret r =>
          obtain ⟨rfl, rfl⟩ := hr2
          have fin := h _ he ⟨_, Heap.get?_push_of_some _ (Heap.get?_push_size _ rfl), rfl, rfl⟩ fun b o x => Heap.get?_push_of_some _ (Heap.get?_push_of_some _ x)
          repeat (any_goals (first | assumption | wp_step))
        | _ => exact hr2.elim
    | _ => exact hr.elim
end
end L2
namespace L2
open PySem PySem.Spec PyProof.Rows
section
variable {P : Program} {w : World} {A : Around} {E : Value → Shared → Prop} {s : Shared}
theorem eT_item {it t : Addr} {i : Nat} {items : Array Value} {x : Value} {Q : Value → Shared → Prop} (h1 : s.heap.IsTupleIter it t i) (h2 : s.heap.IsTuple t items) (h3 : items[i]? = some x)
    (hQ : ∀ h', h'.IsTupleIter it t (i + 1) → Heap.SameBut it s.heap h' → Q x { s with heap := h' }) : wpAny (model P w) A (Builtin.SmallTypes.nextOf (.ref it)) Q E s := by
  obtain ⟨o1, e1, c1, d1⟩ := id h1
  obtain ⟨o2, e2, _, n2, d2⟩ := h2
  unfold Builtin.SmallTypes.nextOf
  refine wpAny_bind (wpAny_callSpecial?_slot (name := Str.ofString "__next__") h1.typeIs F.slot_tuple_iterator_next (wpAny_call_entry F.slot_tuple_iterator_next h1.typeIs F.entry_tuple_iterator_next ?_ (F.args_tuple_iterator_next_1 _)))
  refine (show wpAny _ _ (field (.ref it) 0 >>= _) _ _ s from wpAny_bind (wpAny_field e1 d1 (x := .ref t) rfl ?_))
  show wpAny _ _ (if (Value.ref t == Value.none) = true then _ else _) _ _ s
  rw [if_neg (by exact Bool.false_ne_true)]
  refine (show wpAny _ _ (field (.ref it) 1 >>= _) _ _ s from wpAny_bind (wpAny_field e1 d1 (x := .int i 0) rfl ?_))
  refine (show wpAny _ _ (seqItems? (.ref t) >>= _) _ _ s from wpAny_bind (wpAny_seqItems e2 d2 ?_))
  simp only [Int.toNat_natCast, h3]
  refine wpAny_bind (wpAny_setField e1 d1 (by simp) (wpAny_pure ⟨x, rfl, wpAny_pure (hQ _ ⟨_, Heap.get?_update_self _ e1 (Obj.isFreed_of_fields (Obj.data_mapFields d1 _)), (Obj.cls_mapFields ..).trans c1, ?_⟩ (Heap.SameBut.update ..))⟩))
  rw [Obj.data_mapFields d1]
  simp [rawInt]
theorem eT_none {it t : Addr} {i : Nat} {items : Array Value} {Q : Value → Shared → Prop} (hh : A.handled = none) (h1 : s.heap.IsTupleIter it t i) (h2 : s.heap.IsTuple t items) (h3 : items[i]? = none)
    (hE : ∀ h' e, Heap.ExtBut it s.heap h' → (∃ o, h'.get? e = some o ∧ o.cls = .type "StopIteration") → E (.ref e) { s with heap := h' }) : wpAny (model P w) A (Builtin.SmallTypes.nextOf (.ref it)) Q E s := by
  obtain ⟨o1, e1, c1, d1⟩ := id h1
  obtain ⟨o2, e2, _, n2, d2⟩ := h2
  unfold Builtin.SmallTypes.nextOf
  refine wpAny_bind (wpAny_callSpecial?_slot (name := Str.ofString "__next__") h1.typeIs F.slot_tuple_iterator_next (wpAny_call_entry F.slot_tuple_iterator_next h1.typeIs F.entry_tuple_iterator_next ?_ (F.args_tuple_iterator_next_1 _)))
  refine (show wpAny _ _ (field (.ref it) 0 >>= _) _ _ s from wpAny_bind (wpAny_field e1 d1 (x := .ref t) rfl ?_))
  show wpAny _ _ (if (Value.ref t == Value.none) = true then _ else _) _ _ s
  rw [if_neg (by exact Bool.false_ne_true)]
  refine (show wpAny _ _ (field (.ref it) 1 >>= _) _ _ s from wpAny_bind (wpAny_field e1 d1 (x := .int i 0) rfl ?_))
  refine (show wpAny _ _ (seqItems? (.ref t) >>= _) _ _ s from wpAny_bind (wpAny_seqItems e2 d2 ?_))
  simp only [Int.toNat_natCast, h3]
  refine wpAny_bind (wpAny_rule (wpAny_bind (wpAny_setField e1 d1 (by simp) (show wpAny _ _ (newExc (.type "StopIteration") [] >>= _) _ _ _ from wpAny_bind ?_))))
  simp only [newExc, newTuple]
  refine wpAny_bind (wpAny_newObj_type (wpAny_bind (m := firstArgMember _ _) (wpAny_of_eq (a := Value.none) (by first | rfl | (simp only [firstArgMember]; rfl)) (wpAny_newObj_type ?_ (by size_fits)))) (by size_fits))
  simp only [raiseNew]
  refine wpAny_bind (wpAny_handled ?_)
  first
    | rw [show A.in1.handled = none from hh]
    | rw [hh]
  exact wpAny_bind (wpAny_pure (wpAny_throw (hE _ _ (((Heap.SameBut.update ..).extBut.push _).push _) ⟨_, Heap.get?_push_size _ rfl, rfl⟩)))
theorem eT_step {e it t : Addr} {i : Nat} {j : Int} {items : Array Value} {x old : Value} {Q : Option Value → Shared → Prop} (he : IsEnum s.heap e it j old) (h1 : s.heap.IsTupleIter it t i) (h2 : s.heap.IsTuple t items) (h3 : items[i]? = some x) (hne : e ≠ it)
    (hQ : ∀ h', IsEnumOut h' e it (j + 1) x s.heap.objs.size → h'.IsTupleIter it t (i + 1) → h'.get? s.heap.objs.size = some { cls := .type "tuple", data := .seq #[.int j s.toks, x] } →
      (∀ b o, b ≠ e → b ≠ it → s.heap.get? b = some o → h'.get? b = some o) → Q (some (.ref s.heap.objs.size)) { s with heap := h', toks := s.toks + 1 }) : wpAny (model P w) A (pyNext (.ref e)) Q E s := by
  have hT : s.TypeIs (.ref e) "enumerate" := ⟨_, he, rfl⟩
  obtain ⟨g0, gg, dd, tq, os⟩ := s
  unfold pyNext
  refine wpAny_bind (wpAny_attempt (wpAny_callSpecial?_slot (name := Str.ofString "__next__") hT F.slot_enumerate_next (wpAny_call_entry F.slot_enumerate_next hT F.entry_enumerate_next ?_ (F.args_enumerate_next_1 _))))
  refine (show wpAny _ _ (field (.ref e) 2 >>= _) _ _ _ from wpAny_bind (wpAny_field he rfl (x := .ref it) rfl (wpAny_bind (eT_item h1 h2 h3 fun g1 k1 r1 => ?_))))
  replace r1 : Heap.SameBut it g0 g1 := r1
  have he1 : IsEnum g1 e it j old := (r1.2 e hne).trans he
  refine (show wpAny _ _ (field (.ref e) 3 >>= _) _ _ ⟨g1, gg, dd, tq, os⟩ from wpAny_bind (wpAny_field he1 rfl (x := rawInt j) rfl ?_))
  refine (show wpAny _ _ (field (.ref e) 4 >>= _) _ _ ⟨g1, gg, dd, tq, os⟩ from wpAny_bind (wpAny_field he1 rfl (x := .none) rfl ?_))
  refine (show wpAny _ _ (mkInt j >>= _) _ _ ⟨g1, gg, dd, tq, os⟩ from wpAny_bind (wpAny_mkInt ?_))
  refine (show wpAny _ _ (setField (.ref e) 3 (rawInt (j + 1)) >>= _) _ _ ⟨g1, gg, dd, tq + 1, os⟩ from wpAny_bind (wpAny_setField_rec he1 (by simp) fun g2 he2 r2 => ?_))
  replace r2 : Heap.SameBut e g1 g2 := r2
  replace he2 : IsEnum g2 e it (j + 1) old := he2
  refine (show wpAny _ _ (setField (.ref e) 4 .none >>= _) _ _ ⟨g2, gg, dd, tq + 1, os⟩ from wpAny_bind (wpAny_setField_rec he2 (by simp) fun g3 he3 r3 => ?_))
  replace r3 : Heap.SameBut e g2 g3 := r3
  replace he3 : IsEnum g3 e it (j + 1) old := he3
  refine (show wpAny _ _ (newTuple [.int j tq, x] >>= _) _ _ ⟨g3, gg, dd, tq + 1, os⟩ from wpAny_bind (wpAny_newTuple ?_))
  have sz : g3.objs.size = g0.objs.size := by rw [r3.1, r2.1, r1.1]
  have he4 : IsEnum (g3.push { cls := .type "tuple", data := .seq #[.int j tq, x] }) e it (j + 1) old := Heap.get?_push_of_some _ he3
  have t4 : (g3.push { cls := .type "tuple", data := .seq #[.int j tq, x] }).get? g0.objs.size = some { cls := .type "tuple", data := .seq #[.int j tq, x] } := by
    rw [← sz]
    exact Heap.get?_push_size _ rfl
  have lt4 : e < g0.objs.size := Heap.lt_size he
  have kp : ∀ b o, b ≠ e → b ≠ it → g0.get? b = some o → (g3.push { cls := .type "tuple", data := .seq #[.int j tq, x] }).get? b = some o := fun b o be bi hb =>
    Heap.get?_push_of_some _ (r3.extBut b o be (r2.extBut b o be (r1.extBut b o bi hb)))
  have k4 : (g3.push { cls := .type "tuple", data := .seq #[.int j tq, x] }).IsTupleIter it t (i + 1) := by
    obtain ⟨o, ho, r⟩ := (k1.extBut r2.extBut (Ne.symm hne)).extBut r3.extBut (Ne.symm hne)
    exact ⟨o, Heap.get?_push_of_some _ ho, r⟩
  generalize g3.push { cls := .type "tuple", data := .seq #[.int j tq, x] } = g4 at he4 t4 kp k4 ⊢
  rw [sz]
  refine (show wpAny _ _ (Builtin.SmallTypes.ownedTupleIsFree (.ref e) >>= _) _ _ ⟨g4, gg, dd, tq + 1, os⟩ from wpAny_bind ?_)
  unfold Builtin.SmallTypes.ownedTupleIsFree
  refine wpAny_bind (wpAny_field he4 rfl (x := .none) rfl (wpAny_pure ?_))
  simp only [if_true]
  refine wpAny_bind (wpAny_rule (wpAny_bind (wpAny_field he4 rfl (x := old) rfl (wpAny_bind (wpAny_setField_rec he4 (by simp) fun g5 he5 r5 => ?_)))))
  replace r5 : Heap.SameBut e g4 g5 := r5
  replace he5 : IsEnum g5 e it (j + 1) x := he5
  refine (show wpAny _ _ (Builtin.SmallTypes.ownedTupleHandOut (.ref e) (.ref g0.objs.size) >>= _) _ _ ⟨g5, gg, dd, tq + 1, os⟩ from wpAny_bind ?_)
  unfold Builtin.SmallTypes.ownedTupleHandOut
  refine wpAny_bind (wpAny_setField_rec he5 (by simp) fun g6 he6 r6 => ?_)
  replace r6 : Heap.SameBut e g5 g6 := r6
  replace he6 : IsEnumOut g6 e it (j + 1) x g0.objs.size := he6
  refine wpAny_setField_rec he6 (by simp) fun g7 he7 r7 => ?_
  replace r7 : Heap.SameBut e g6 g7 := r7
  replace he7 : IsEnumOut g7 e it (j + 1) x g0.objs.size := he7
  have ne' := Ne.symm hne
  have gt4 : g0.objs.size ≠ e := Nat.ne_of_gt lt4
  exact wpAny_bind (wpAny_letGo (wpAny_pure ⟨_, rfl, wpAny_pure (hQ g7 he7 (((k4.extBut r5.extBut ne').extBut r6.extBut ne').extBut r7.extBut ne') (r7.extBut _ _ gt4 (r6.extBut _ _ gt4 (r5.extBut _ _ gt4 t4)))
    fun b o be bi hb => r7.extBut b o be (r6.extBut b o be (r5.extBut b o be (kp b o be bi hb))))⟩))
theorem eT_end {e it t : Addr} {i : Nat} {j : Int} {items : Array Value} {old : Value} {Q : Option Value → Shared → Prop} (hh : A.handled = none) (he : IsEnum s.heap e it j old) (h1 : s.heap.IsTupleIter it t i) (h2 : s.heap.IsTuple t items) (h3 : items[i]? = none)
    (hQ : ∀ h', Heap.ExtBut it s.heap h' → Q none { s with heap := h' }) : wpAny (model P w) A (pyNext (.ref e)) Q E s := by
  have hT : s.TypeIs (.ref e) "enumerate" := ⟨_, he, rfl⟩
  unfold pyNext
  refine wpAny_bind (wpAny_attempt (wpAny_callSpecial?_slot (name := Str.ofString "__next__") hT F.slot_enumerate_next (wpAny_call_entry F.slot_enumerate_next hT F.entry_enumerate_next ?_ (F.args_enumerate_next_1 _))))
  refine (show wpAny _ _ (field (.ref e) 2 >>= _) _ _ _ from wpAny_bind (wpAny_field he rfl (x := .ref it) rfl (wpAny_bind (eT_none hh h1 h2 h3 fun h' y k1 k2 => ?_))))
  obtain ⟨o, ho, hc⟩ := k2
  exact wpAny_bind (wpAny_isInstance (T := "StopIteration") (b := true) ⟨o, ho, hc⟩ isSubtype_stop (wpAny_pure (hQ _ k1)))
end
def IteT (K : PySem.W.Frag) (a : Addr) : It :=
  ⟨fun i H => ∃ (xs : List V) (x : V), SqT K H a xs ∧ xs[i]? = some x, fun i H v H' => ∃ T x, v = .ref T ∧ H T = none ∧ H' = upd H T (.tup [.int ((i + 1 : Nat) : Int), x]) ∧ ∀ xs, SqT K H a xs → xs[i]? = some x, fun i H => ∃ xs : List V, SqT K H a xs ∧ xs.length ≤ i⟩
theorem turn_enumT {P : Program} {w : World} {K : PySem.W.Frag} {elts : List Expr} {kk : Nat} {tpos : Pos} (a e it : Addr) :
    Turn P w K (.Tuple elts kk tpos) (IteT K a) [e, it] e (fun i h => (∃ old, IsEnum h e it ((i + 1 : Nat) : Int) old) ∧ h.IsTupleIter it a i ∧ e ≠ it) where
  mem := List.mem_cons_self
  obj := fun i h st b hb => by
    obtain ⟨⟨old, he⟩, ⟨o, ho, hc, hd⟩, _⟩ := st
    rcases List.mem_cons.mp hb with rfl | hb
    · exact ⟨_, he, fun v q => nomatch q⟩
    · rcases List.mem_singleton.mp hb with rfl
      exact ⟨o, ho, fun v q => by rw [hd] at q; cases q⟩
  keep := fun i h h' st k => by
    obtain ⟨⟨old, he⟩, ⟨o, ho, r⟩, hne⟩ := st
    exact ⟨⟨old, k e List.mem_cons_self _ he⟩, ⟨o, k it (by simp) o ho, r⟩, hne⟩
  item := by
    intro X hP hw hK hc i pins s σ H E I hf st hg
    subst hP hw hK
    obtain ⟨⟨old, he⟩, hit, hne⟩ := st
    obtain ⟨xs, x, hq, hx⟩ := hg
    obtain ⟨its, rv, p, hz⟩ := I.tuple hq
    obtain ⟨u, hu, ru⟩ := rv.get hx
    have lt1 : e < s.heap.objs.size := Heap.lt_size he
    have lt2 : it < s.heap.objs.size := by
      obtain ⟨_, q, _⟩ := hit
      exact Heap.lt_size q
    refine eT_step he hit p (x := u) (by simpa using hu) hne fun h1 ho hit1 hT hk => ⟨_, rfl, wpAny_letOwnedTupleGo_enum (s := { s with heap := h1, toks := s.toks + 1 }) ho fun h2 he2 sb => ?_⟩
    have hT2 := (sb.2 _ (Nat.ne_of_gt lt1)).trans hT
    have nw : ObjOk X.prog X.w (upd H s.heap.objs.size (.tup [.int ((i + 1 : Nat) : Int), x])) h2 s.heap.objs.size (.tup [.int ((i + 1 : Nat) : Int), x]) :=
      ⟨by show 2 ≤ 2 ^ 24; decide, _, .cons ⟨_, rfl⟩ (.cons ru .nil), ⟨_, hT2, rfl, _, rfl⟩⟩
    have I1 : Inv X pins σ (upd H s.heap.objs.size (.tup [.int ((i + 1 : Nat) : Int), x])) { s with heap := h2, toks := s.toks + 1 } :=
      I.turnedNew (ch := [e, it]) (fun b ob hb q => (sb.2 b fun z => hb (by simp [z])).trans (hk b ob (fun z => hb (by simp [z])) (fun z => hb (by simp [z])) q)) hf (Nat.le_refl _) nw
    refine ⟨.ref s.heap.objs.size, _, I1, rfl, ⟨_, x, rfl, I.hok.fresh (Nat.le_refl _), rfl, fun ys hy => by rw [I.tuple_inj hy hq]; exact hx⟩, ⟨⟨u, ?_⟩, hit1.at fun o q => (sb.2 it (Ne.symm hne)).trans q, hne⟩, fun b hb => ?_⟩
    · rw [show ((i + 1 + 1 : Nat) : Int) = ((i + 1 : Nat) : Int) + 1 by omega]
      exact he2
    · have hb' : b < s.heap.objs.size := by
        rcases List.mem_cons.mp hb with rfl | hb
        · exact lt1
        · rcases List.mem_singleton.mp hb with rfl
          exact lt2
      rw [upd_ne (Nat.ne_of_lt hb')]
      exact (hf b hb).1
  done := by
    intro X hP hw hK hc i pins s σ H E I hf st hg
    subst hP hw hK
    obtain ⟨⟨old, he⟩, hit, hne⟩ := st
    obtain ⟨xs, hq, hx⟩ := hg
    obtain ⟨its, rv, p, hz⟩ := I.tuple hq
    obtain ⟨f0, f1, f2, f3, f4, f5⟩ := hf it (by simp)
    have hl := rv.length
    exact eT_end (I.ok.hd hc) he hit p (by simp; omega) fun h' eb => ⟨rfl, I.turned (t' := s.toks) (fun b o hb q => eb b o hb q) f0 f1 f3 f4 f5⟩
  self := fun A i s Q E st h => by
    obtain ⟨⟨_, he⟩, _⟩ := st
    exact wpAny_pyIter_enum he h
def iEnumT (K : PySem.W.Frag) (ta : TE) : TI := fun σ H R => ta σ H fun v H1 => ∃ a xs, v = .ref a ∧ SqT K H1 a xs ∧ R (IteT K a) H1
theorem cw_typeK {M : Model} {A : Around} {E : Value → Shared → Prop} {s : Shared} {env : Env} {pos : Pos} {T : String} {e : Expr} {kws : List Keyword} {Q : Value → Shared → Prop}
    (h : wpAny M A (spliced (backTo pos (starEach [e] env))) (fun vs s₁ => wpAny M A (evalAll ((backToKw pos (keywordEach kws env)).map (·.2))) (fun kvs s₂ => wpAny M A (call (.type T) vs (((backToKw pos (keywordEach kws env)).filterMap (·.1)).zip kvs)) Q E s₂) E s₁) E s)
    (he : backTo pos (starEach [e] env) = [(false, eval e env)]) (hall : (backToKw pos (keywordEach kws env)).all (·.1.isSome) = true) (hkw : (backToKw pos (keywordEach kws env)).any (·.1.isNone) = false) :
    wpAny M A (callWith pos (.type T) [] (backTo pos (starEach [e] env)) (backToKw pos (keywordEach kws env))) Q E s := by
  rw [he] at h ⊢
  unfold callWith
  refine wpAny_bind (wpAny_holding (wpAny_mono (evalArgs_kwB (f := .type T) (Q := fun a s1 => wpAny M A (call (.type T) ([] ++ a.pos) a.kw) Q E s1) hall h) (fun a s1 h1 => wpAny_bind (wpAny_standAt ?_)) fun _ _ x => x))
  simp only [hkw, List.any_cons, List.any_nil, Bool.or_false]
  exact wpAny_bind (wpAny_pure (wpAny_bind (wpAny_mono h1 (fun r s2 hr => wpAny_bind (wpAny_holding (wpAny_point (wpAny_pure hr)))) fun _ _ x => x)))
theorem pi_enumT {X : Cx} {e : Expr} {ta : TE} {p pos tpos kp cp : Pos} {ck : Nat} {elts : List Expr} {kk : Nat} (hg : Gl X "enumerate") (hm : X.mg "enumerate" = none) (ha : PE X e ta) (hs : starEach [e] X.env = [(false, eval e X.env)] := by rfl) :
    PI X (.Tuple elts kk tpos) (.Call (.Name "enumerate" p) [e] [⟨some "start", .Constant (.int 1) ck cp, kp⟩] pos) (iEnumT X.K ta) := by
  intro pins s σ H R I h
  refine wpAny_Call_Name_kw (ld_blt I hg hm boot_enumerate (cw_typeK (thn ((pa_cons ha pa_nil hs) pos pins s σ H (fun vs H1 => ∃ a xs, vs = [.ref a] ∧ SqT X.K H1 a xs ∧ R (IteT X.K a) H1) I ?_) fun us s1 ⟨vs, H1, I1, r1, q1⟩ => ?_) (by rw [hs]; rfl) rfl rfl))
  · show ta σ H _
    have e : (fun x H1 => tNil σ H1 fun xs H2 => ∃ a xs', (x :: xs : List V) = [.ref a] ∧ SqT X.K H2 a xs' ∧ R (IteT X.K a) H2) = fun v H1 => ∃ a xs, v = .ref a ∧ SqT X.K H1 a xs ∧ R (IteT X.K a) H1 := by
      funext x H1
      show (∃ a xs', ([x] : List V) = [.ref a] ∧ SqT X.K H1 a xs' ∧ R (IteT X.K a) H1) = _
      simp
    rw [e]
    exact h
  · obtain ⟨a, xs, ex, hq, q⟩ := q1
    subst ex
    cases r1 with
    | cons r rr =>
      cases rr
      cases r
      refine kws_cons (thn (pe_int (X := X) pins s1 σ H1 (fun v H2 => v = .int 1 ∧ H2 = H1) I1 ⟨rfl, rfl⟩) fun u s2 ⟨x, H2, I2, r2, e1, e2⟩ => kws_nil ?_)
      subst e1 e2
      obtain ⟨tk, rfl⟩ := r2
      obtain ⟨its, rv, p', hz⟩ := I2.tuple hq
      refine eT_call (items := its.toArray) p' fun h' he hit hk => wpAny_pyIter_enum he ?_
      have I3 : Inv X pins σ H2 { s2 with heap := h' } := I2.kept (t' := s2.toks) hk
      refine ⟨s2.heap.objs.size + 1, [s2.heap.objs.size + 1, s2.heap.objs.size], _, _, H2, rfl, I3, turn_enumT a (s2.heap.objs.size + 1) s2.heap.objs.size, ⟨⟨.none, he⟩, hit, Nat.succ_ne_self _⟩, fun b hb => ?_, q⟩
      have hle : s2.heap.objs.size ≤ b := by
        rcases List.mem_cons.mp hb with rfl | hb
        · exact Nat.le_add_right _ _
        · rcases List.mem_singleton.mp hb with rfl
          exact Nat.le_refl _
      exact I2.fpOk hle (I2.hok.fresh hle)
theorem for_enumT {K : PySem.W.Frag} {a : Addr} {xs : List V} {g : TG} {tb : TS} {D : Ends} {σ : St} {H : Hp} (Pv : Nat → St → Hp → Prop) (h0 : Pv 0 σ H) (hl : ∀ H, SqT K H a xs)
    (hs : ∀ i x σ H T, xs[i]? = some x → Pv i σ H → H T = none → g (.ref T) σ (upd H T (.tup [.int ((i + 1 : Nat) : Int), x])) fun σ2 H2 => tb { D with nx := Pv (i + 1), ct := Pv (i + 1), bk := D.nx } σ2 H2)
    (hd : ∀ σ H, Pv xs.length σ H → D.nx σ H) :
    ∃ W : Nat → Nat → St → Hp → Prop, (∃ m, W 0 m σ H) ∧ ∀ i m σ H, W i m σ H →
      ((IteT K a).stop i H ∧ D.nx σ H) ∨ ((IteT K a).go i H ∧ ∃ N : St → Hp → Prop, (∀ σ' H', N σ' H' → ∃ m', m' < m ∧ W (i + 1) m' σ' H') ∧ ∀ x H', (IteT K a).yld i H x H' → g x σ H' fun σ2 H2 => tb { D with nx := N, ct := N, bk := D.nx } σ2 H2) := by
  refine ⟨fun i m σ H => i + m = xs.length ∧ Pv i σ H, ⟨xs.length, Nat.zero_add _, h0⟩, ?_⟩
  rintro i m σ H ⟨e, p⟩
  cases m with
  | zero =>
    obtain rfl : i = xs.length := by omega
    exact .inl ⟨⟨xs, hl H, Nat.le_refl _⟩, hd σ H p⟩
  | succ m =>
    have hlt : i < xs.length := by omega
    refine .inr ⟨⟨xs, xs[i], hl H, List.getElem?_eq_getElem hlt⟩, Pv (i + 1), fun σ' H' p' => ⟨m, Nat.lt_succ_self m, by omega, p'⟩, ?_⟩
    rintro v H' ⟨T, x, rfl, hT, rfl, hx⟩
    exact hs i x σ H T (hx xs (hl H)) p hT
end L2
end
section
set_option Elab.async false
set_option linter.all false
set_option maxRecDepth 100000
set_option maxHeartbeats 1000000
namespace L2
open PySem PySem.Spec PyProof.Rows
theorem lc_pure {K : PySem.W.Frag} {a : Addr} {xs : List V} {g : TG} {tt : TT} {te : TE} {vs : List Nat} {σ : St} {H1 : Hp} {D : Addr} {Qd : Hp → Prop} (sel : V → Option V) (hS : SqL K H1 a xs) (hD : H1 D = none) (hl : xs.length < 2 ^ 24)
    (each : ∀ (x : V) (H' : Hp), x ∈ xs → Same H1 H' → ∀ (Q1 : V → Hp → Prop) (Q2 : Hp → Prop), (∀ y, sel x = some y → Q1 y H') → (sel x = none → Q2 H') → g x (wipe σ vs) H' fun σ2 H2 => wipe σ2 vs = wipe σ vs ∧ tt σ2 H2 fun b H3 => if b = true then te σ2 H3 Q1 else Q2 H3)
    (hd : Qd (upd H1 D (.lst (xs.filterMap sel)))) :
    ∃ W : Nat → Nat → Hp → Prop, (∃ m, W 0 m (upd H1 D (.lst []))) ∧ ∀ i m H, W i m H →
      ((Itl K a).stop i H ∧ Qd H) ∨ ((Itl K a).go i H ∧ ∃ Nx : Hp → Prop, (∀ H', Nx H' → ∃ m', m' < m ∧ W (i + 1) m' H') ∧ ∀ x H', (Itl K a).yld i H x H' → g x (wipe σ vs) H' fun σ2 H2 => wipe σ2 vs = wipe σ vs ∧ tt σ2 H2 fun b H3 =>
        if b = true then te σ2 H3 fun y H4 => ∃ acc, H4 D = some (.lst acc) ∧ acc.length < sizeLine ∧ Nx (upd H4 D (.lst (acc ++ [y]))) else Nx H3) := by
  refine lc_list (K := K) (a := a) (xs := xs) (fun i H => H = upd H1 D (.lst ((xs.take i).filterMap sel))) rfl ?_ ?_ ?_
  · rintro i H _ rfl
    exact (Same.upd hD).seq hS
  · rintro i x H hx rfl
    have et : xs.take (i + 1) = xs.take i ++ [x] := by
      rw [List.take_succ, hx]
      rfl
    refine each x _ (List.mem_of_getElem? hx) (Same.upd hD) _ _ (fun y hy => ⟨_, upd_same, ?_, ?_⟩) fun hn => ?_
    · have h1 := List.length_filterMap_le sel (xs.take i)
      rw [List.length_take] at h1
      show _ < 2 ^ 24
      omega
    · rw [upd_upd, et, List.filterMap_append]
      simp [hy]
    · rw [et, List.filterMap_append]
      simp [hn]
  · rintro H rfl
    rw [List.take_length]
    exact hd
end L2
end
section
set_option Elab.async false
set_option linter.all false
set_option maxRecDepth 100000
set_option maxHeartbeats 1000000
namespace L2
open PySem PySem.Spec PyProof.Rows
theorem exc_mk {K : PySem.W.Frag} {h : Heap} {mg : Str → Option Value} {x : Str} {C : Addr} {bm : List Value} {newId : String} (X : K.In h) (G : h.Ns mainGlobals mg) (e : PySem.W.nsIn K mainGlobals x = some (some (.ref C))) (q : PySem.W.excIn K C bm newId = true) : OwnCls x C bm newId mg h := by
  refine ⟨PySem.W.mg_of X G e, ?_⟩
  unfold PySem.W.excIn at q
  split at q
  · rename_i dd cd sl lk
    split at q
    · rename_i C1 tl j0 j1 j2 j3 nn j5 mro slots
      simp only [Bool.and_eq_true, beq_iff_eq, Bool.not_eq_true'] at q
      obtain ⟨⟨⟨⟨⟨q1, q2⟩, q3⟩, q4⟩, q5⟩, q6⟩ := q
      subst q1 q2
      have es : sl = #[j0, j1, j2, j3, some (.builtin nn), j5] := by
        cases sl with
        | mk l => exact congrArg Array.mk slots
      subst es
      cases cd with
      | mk nm bs mr ns qn hd sn sub ab col del =>
        cases (show mr = _ from mro)
        cases (show del = _ from q3)
        exact ⟨tl, ns, nm, qn, bs, hd, sn, sub, ab, col, dd, j0, j1, j2, j3, j5, _, X _ _ lk, .of_isNs (PySem.W.isNs_of_in X q5), PySem.W.nsMap_none_of_in X q5 q6, PySem.W.tail_of_in X q4⟩
    · cases q
  · cases q
inductive Ent (w : World) : List DictEntry → List (Key × V) → Prop
  | nil : Ent w [] []
  | cons {e : DictEntry} {k : Key} {v : V} {es : List DictEntry} {kvs : List (Key × V)} : keyIs k e.key = true → e.hash = keyH w k → RelV v e.val → Ent w es kvs → Ent w (e :: es) ((k, v) :: kvs)
theorem ent_go {P : Program} {w : World} {es : List DictEntry} {kvs : List (Key × V)} (h : Ent w es kvs) : (∀ e ∈ es, ∃ k, keyIs k e.key = true ∧ e.hash = keyH w k) ∧ ∃ vs : List (Key × Value), Pairs (mixKind P w) es vs ∧ vs.map (·.1) = kvs.map (·.1) ∧ KV kvs vs := by
  induction h with
  | nil => exact ⟨(fun _ h => by cases h), [], .nil, rfl, .nil⟩
  | @cons e k v es kvs h1 h2 h3 t ih =>
    obtain ⟨i1, vs, i2, i3, i4⟩ := ih
    refine ⟨fun e' he => ?_, (k, e.val) :: vs, .cons h1 rfl i2, by rw [List.map_cons, List.map_cons, i3], .cons ⟨rfl, h3⟩ i4⟩
    rcases List.mem_cons.mp he with z | z
    · exact ⟨k, by rw [z]; exact h1, by rw [z]; exact h2⟩
    · exact i1 e' z
theorem dic_mk {P : Program} {w : World} {K : PySem.W.Frag} {h : Heap} {mg : Str → Option Value} {x : Str} {d : Addr} {es : Array DictEntry} {ep : Nat} {kvs : List (Key × V)} (X : K.In h) (G : h.Ns mainGlobals mg) (a : PySem.W.nsIn K mainGlobals x = some (some (.ref d)))
    (l : K.lookup d = some ⟨.type "dict", none, .dict es ep, #[]⟩) (ns : (d == sysModules) = false) (few : kvs.length ≤ 1000) (nd : (kvs.map (·.1)).Nodup) (en : Ent w es.toList kvs) : ∃ a, mg x = some (.ref a) ∧ DicK P w K a kvs := by
  obtain ⟨i1, vs, i2, i3, i4⟩ := ent_go (P := P) en
  refine ⟨d, PySem.W.mg_of X G a, ns, (by show _ ≤ 2 ^ 24; omega), _, es, ep, vs, l, ⟨rfl, rfl, rfl⟩, rfl, fun e he => i1 e (by simpa using he), i2, by rw [i3]; exact nd, i4⟩
abbrev VEB : List Value := [.type "ValueError", .type "Exception", .type "BaseException", .type "object"]
abbrev OwnExX {K : PySem.W.Frag} {h : Heap} (X : K.In h) (x : Str) (C : Addr) : Prop := PySem.W.nsIn K mainGlobals x = some (some (.ref C)) ∧ PySem.W.excIn K C VEB "ValueError.__new__" = true
theorem ownEx_mk {K : PySem.W.Frag} {h : Heap} {x : Str} {C : Addr} (X : K.In h) (a : PySem.W.nsIn K mainGlobals x = some (some (.ref C))) (q : PySem.W.excIn K C VEB "ValueError.__new__" = true) : ∃ C, OwnExX X x C := ⟨C, a, q⟩
abbrev DicX {K : PySem.W.Frag} {h : Heap} (X : K.In h) (P : Program) (w : World) (mg : Str → Option Value) (x : Str) (kvs : List (Key × V)) : Prop := ∃ a, mg x = some (.ref a) ∧ DicK P w K a kvs
end L2
end
section
set_option Elab.async false
set_option linter.all false
set_option maxRecDepth 100000
set_option maxHeartbeats 1000000
namespace L2
open PySem PySem.Spec PyProof.Rows
section
variable {X : Cx}
def CDivL (i j : Int) : Prop := 0 < j ∧ j < 2 ^ 1000
theorem op_fdivL : OpR X (binaryOp .FloorDiv) (rI CDivL fun i j => .int (i / j)) := opI fun i j _ _ _ _ _ hc q => by
  have h1 : (0 : Int) < j := hc.1
  have h2 : j < 2 ^ 1000 := hc.2
  refine floordiv_int (by omega) (by rw [Int.fdiv_eq_ediv_of_nonneg i (by omega)]; exact q) (.inl (PyProof.noPylong_of_log2 ?_))
  have h3 : j.natAbs < 2 ^ 1000 := by omega
  have := (Nat.log2_lt (show j.natAbs ≠ 0 by omega)).mpr h3
  omega
def CMulL (i j : Int) : Prop := i.natAbs < 2 ^ 1000 ∧ j.natAbs < 2 ^ 1000
theorem op_mulL : OpR X (binaryOp .Mult) (rI CMulL fun i j => .int (i * j)) := opI fun _ _ _ _ _ _ _ hc q => mul_int q (IntMulOk.of_le (m := 1000) (n := 1000) (intBits_le_iff.mpr hc.1) (intBits_le_iff.mpr hc.2) (by decide))
def rCatL (K : PySem.W.Frag) : R2 := fun x y H Q => ∃ l b xs zs, x = .ref l ∧ y = .ref b ∧ SqL K H l xs ∧ SqL K H b zs ∧ xs.length + zs.length ≤ sizeLine ∧ ∀ p, H p = none → Q (.ref p) (upd H p (.lst (xs ++ zs)))
theorem op_catL : OpR X (binaryOp .Add) (rCatL X.K) := by
  intro pins s σ H x y v u Q I rx ry h
  obtain ⟨l, b, xs, zs, rfl, rfl, hH, hB, hz, q⟩ := h
  cases rx
  cases ry
  obtain ⟨its, r, ⟨⟨cls, dd, data, sl⟩, n, ho, hc, hdn, hd⟩, z1⟩ := I.list hH
  obtain ⟨its2, r2, ⟨⟨cls2, dd2, data2, sl2⟩, n2, ho2, hc2, hdn2, hd2⟩, z2⟩ := I.list hB
  simp only at hc hd hc2 hd2
  subst hc hd hc2 hd2
  have hl := r.length
  have hl2 := r2.length
  refine concat_meets ⟨_, ho, rfl⟩ ⟨_, ho2, rfl⟩ noFill_list_add seq_list_add PySem.F.slot_list_add PySem.F.entry_list_add (PySem.F.args_list_add_2 _ _) (list_addW l b its.toArray its2.toArray n n2 dd dd2 sl sl2 (by rw [List.size_toArray, List.size_toArray]; omega)) ⟨ho, ho2, ?_⟩
  have ea : its.toArray ++ its2.toArray = (its ++ its2).toArray := by simp
  rw [ea]
  exact ⟨.ref _, _, I.lnew (t' := s.toks) (r.append r2) (by rw [List.length_append]; omega), rfl, q _ I.fresh⟩
def rNotInD (K : PySem.W.Frag) : R2 := fun x y H Q => ∃ d es, Dp K H x d ∧ Dp K H y (.tuple es) ∧ SeqAt.shaped d = true ∧ SeqAt.shaped (.tuple es) = true ∧ Q (.bl (!(es.any fun e => PyData.eqv e d))) H
theorem op_notInD (hu : X.A.units + 65 < cLine) : OpR X (compareOp .NotIn) (rNotInD X.K) := by
  intro pins s σ H x y v u Q I rx ry h
  obtain ⟨d, es, hd, he, sd, se, q⟩ := h
  obtain ⟨as, r1⟩ := Dp.reads I d x v hd rx
  obtain ⟨bs, r2⟩ := Dp.reads I _ y u he ry
  cases he with
  | tup a b =>
    cases ry
    exact SeqAt.notIn_tuple_reads r2 r1 (SeqAt.canLay_of_shaped se) (SeqAt.canLay_of_shaped sd) (PyProof.Rows.room_in_shaped sd hu) ⟨.bl _, H, I, rfl, q⟩
end
abbrev SqTX {K : PySem.W.Frag} {h : Heap} (X : K.In h) (a : Addr) (xs : List V) : Prop := ∀ H, SqT K H a xs
theorem tupl_mk {K : PySem.W.Frag} {c : Addr} {od : Option Addr} {its : Array Value} {n : Nat} {osl : Array (Option Value)} {xs : List V} (l : K.lookup c = some ⟨.type "tuple", od, .seq its n, osl⟩) (z : its.size ≤ sizeLine) (v : Vals xs its.toList) : ∀ H, SqT K H c xs :=
  fun _ => .inr ⟨_, its, n, l, rfl, rfl, z, v⟩
end L2
end
section
set_option linter.all false
set_option maxRecDepth 10000
set_option maxHeartbeats 1000000
namespace DY
open Sv68
theorem leap_iff (y : Nat) : leap y = true ↔ (y % 4 = 0 ∧ (y % 100 ≠ 0 ∨ y % 400 = 0)) := by
  unfold leap
  simp [bne]
theorem div_up (k y : Nat) (hk : 0 < k) (hy : 1 ≤ y) : y / k = (y - 1) / k + (if y % k = 0 then 1 else 0) := by
  obtain ⟨z, rfl⟩ : ∃ z, y = z + 1 := ⟨y - 1, by omega⟩
  rw [show z + 1 - 1 = z by omega, Nat.succ_div]
  congr 1
  by_cases h : k ∣ z + 1
  · rw [if_pos h, if_pos (Nat.mod_eq_zero_of_dvd h)]
  · rw [if_neg h, if_neg fun e => h (Nat.dvd_of_mod_eq_zero e)]
theorem yearStart_succ {y : Nat} (h : 1900 ≤ y) : yearStart (y + 1) = yearStart y + (if leap y = true then 366 else 365) := by
  have hl := leap_iff y
  have d1 := div_up 4 y (by decide) (by omega)
  have d2 := div_up 100 y (by decide) (by omega)
  have d3 := div_up 400 y (by decide) (by omega)
  have g1 : 25 * ((y - 1) / 100) ≤ (y - 1) / 4 := by omega
  have g2 : 474 ≤ (y - 1) / 4 := by omega
  have g3 : 4 ≤ (y - 1) / 400 := by omega
  have m1 : y % 100 = 0 → y % 4 = 0 := by omega
  have m2 : y % 400 = 0 → y % 100 = 0 := by omega
  unfold yearStart
  rw [show y + 1 - 1 = y by omega, d1, d2, d3]
  generalize (y - 1) / 4 = a at *
  generalize (y - 1) / 100 = b at *
  generalize (y - 1) / 400 = c at *
  by_cases q4 : y % 4 = 0
  · by_cases q1 : y % 100 = 0
    · by_cases q0 : y % 400 = 0
      · rw [if_pos q4, if_pos q1, if_pos q0, if_pos (hl.mpr ⟨q4, .inr q0⟩)]
        omega
      · rw [if_pos q4, if_pos q1, if_neg q0, if_neg fun z => (hl.mp z).2.elim (fun w => w q1) q0]
        omega
    · rw [if_pos q4, if_neg q1, if_neg fun z => q1 (m2 z), if_pos (hl.mpr ⟨q4, .inl q1⟩)]
      omega
  · rw [if_neg q4, if_neg fun z => q4 (m1 z), if_neg fun z => q4 (m1 (m2 z)), if_neg fun z => q4 (hl.mp z).1]
    omega
theorem yearStart_lt {y : Nat} (h : 1900 ≤ y) : ∀ k, yearStart y + k ≤ yearStart (y + k)
  | 0 => Nat.le_refl _
  | k + 1 => by
    have := yearStart_lt h k
    have e := yearStart_succ (y := y + k) (by omega)
    rw [show y + (k + 1) = y + k + 1 by omega, e]
    split <;> omega
theorem monthStart_1 (y : Nat) : monthStart y 1 = 0 := rfl
theorem monthStart_succ {y m : Nat} (h : 1 ≤ m) : monthStart y (m + 1) = monthStart y m + monthDays y m := by
  unfold monthStart
  obtain ⟨k, rfl⟩ : ∃ k, m = k + 1 := ⟨m - 1, by omega⟩
  rw [show k + 1 + 1 - 1 = k + 1 by omega, show k + 1 - 1 = k by omega, List.range_succ, List.map_append, List.sum_append]
  simp
theorem monthDays_le {y m : Nat} : 28 ≤ monthDays y m ∧ monthDays y m ≤ 31 := by
  unfold monthDays
  repeat' split
  all_goals omega
theorem monthStart_le {y m : Nat} (h : 1 ≤ m) : ∀ k, monthStart y m + k ≤ monthStart y (m + k)
  | 0 => Nat.le_refl _
  | k + 1 => by
    have := monthStart_le (y := y) h k
    have e := monthStart_succ (y := y) (m := m + k) (by omega)
    have := monthDays_le (y := y) (m := m + k)
    rw [show m + (k + 1) = m + k + 1 by omega, e]
    omega
theorem monthStart_13 (y : Nat) : monthStart y 13 = if leap y = true then 366 else 365 := by
  unfold monthStart monthDays
  cases leap y <;> rfl
def Real (y m d : Nat) : Prop := 1900 ≤ y ∧ y ≤ 9999 ∧ 1 ≤ m ∧ m ≤ 12 ∧ 1 ≤ d ∧ d ≤ monthDays y m
theorem month_in {y m d : Nat} (h : 1 ≤ m) (h2 : m ≤ 12) (hd : d ≤ monthDays y m) : monthStart y m + d ≤ monthStart y 13 := by
  have e := monthStart_succ (y := y) h
  have := monthStart_le (y := y) (m := m + 1) (by omega) (12 - m)
  rw [show m + 1 + (12 - m) = 13 by omega] at this
  omega
theorem real_day {y m d : Nat} (h : Real y m d) : 1 ≤ dayOf y m d ∧ dayOf y m d ≤ LASTDAY := by
  obtain ⟨h1, h2, h3, h4, h5, h6⟩ := h
  have hin := month_in h3 h4 h6
  rw [monthStart_13, ] at hin
  have ys := yearStart_succ h1
  have := yearStart_lt (y := y + 1) (by omega) (9999 - y)
  rw [show y + 1 + (9999 - y) = 10000 by omega, show yearStart 10000 = 2958464 by decide] at this
  have hL : LASTDAY = 2958464 := rfl
  unfold dayOf
  rw [hL]
  constructor <;> omega
end DY
end
section
set_option linter.all false
set_option maxRecDepth 10000
set_option maxHeartbeats 1000000
namespace TY
open Sv68
abbrev Bytes := List UInt8
theorem sp_cons (c x : UInt8) (xs : Bytes) : (x :: xs).splitOn c = if x = c then [] :: xs.splitOn c else (xs.splitOn c).modifyHead (List.cons x) := by
  have h := List.splitOnP_cons_eq_if_modifyHead (p := fun y : UInt8 => y == c) x xs
  show List.splitOnP (fun y => y == c) (x :: xs) = _
  rw [h]
  by_cases e : x = c
  · rw [if_pos e, if_pos (by simpa using e)]
    rfl
  · rw [if_neg e, if_neg (by simpa using e)]
    rfl
theorem sp_free {c : UInt8} : ∀ {t : Bytes}, c ∉ t → t.splitOn c = [t]
  | [], _ => List.splitOn_nil c
  | x :: t, h => by
    rw [sp_cons, if_neg (show ¬ x = c from fun e => h (by rw [e]; exact List.mem_cons_self)), sp_free fun z => h (List.mem_cons_of_mem _ z)]
    rfl
theorem sp_at {c : UInt8} {r : Bytes} : ∀ {t : Bytes}, c ∉ t → (t ++ c :: r).splitOn c = t :: r.splitOn c
  | [], _ => by
    show (c :: r).splitOn c = _
    rw [sp_cons, if_pos rfl]
  | x :: t, h => by
    show (x :: (t ++ c :: r)).splitOn c = _
    rw [sp_cons, if_neg (show ¬ x = c from fun e => h (by rw [e]; exact List.mem_cons_self)), sp_at fun z => h (List.mem_cons_of_mem _ z)]
    rfl
theorem sp_split {c : UInt8} : ∀ {t : Bytes}, c ∈ t → ∃ a r, t = a ++ c :: r ∧ c ∉ a
  | x :: t, h => by
    by_cases e : x = c
    · exact ⟨[], t, by rw [e]; rfl, by simp⟩
    · have h' : c ∈ t := (List.mem_cons.mp h).resolve_left fun z => e z.symm
      obtain ⟨a, r, q, n⟩ := sp_split h'
      exact ⟨x :: a, r, by rw [q]; rfl, fun z => (List.mem_cons.mp z).elim (fun y => e y.symm) n⟩
theorem sp_one {c : UInt8} {l x : Bytes} (h : l.splitOn c = [x]) : l = x ∧ c ∉ x := by
  by_cases m : c ∈ l
  · obtain ⟨a, r, rfl, n⟩ := sp_split m
    rw [sp_at n] at h
    exact absurd (List.cons.inj h).2 (List.splitOn_ne_nil _ _)
  · rw [sp_free m] at h
    have := (List.cons.inj h).1
    subst this
    exact ⟨rfl, m⟩
theorem sp_more {c : UInt8} {l x y : Bytes} {ls : List Bytes} (h : l.splitOn c = x :: y :: ls) : ∃ r, l = x ++ c :: r ∧ c ∉ x ∧ r.splitOn c = y :: ls := by
  by_cases m : c ∈ l
  · obtain ⟨a, r, rfl, n⟩ := sp_split m
    rw [sp_at n] at h
    obtain ⟨e1, e2⟩ := List.cons.inj h
    subst e1
    exact ⟨r, rfl, n, e2⟩
  · rw [sp_free m] at h
    cases (List.cons.inj h).2
theorem sp_two {c : UInt8} {l x y : Bytes} (h : l.splitOn c = [x, y]) : l = x ++ c :: y ∧ c ∉ x ∧ c ∉ y := by
  obtain ⟨r, e, n, h2⟩ := sp_more h
  obtain ⟨e2, n2⟩ := sp_one h2
  subst e2
  exact ⟨e, n, n2⟩
theorem sp_flat {c : UInt8} : ∀ l : Bytes, (l.splitOn c).flatten = l.filter fun x => x != c
  | [] => by rw [List.splitOn_nil]; rfl
  | x :: t => by
    have ih := sp_flat (c := c) t
    rw [sp_cons]
    by_cases e : x = c
    · rw [if_pos e, List.filter_cons, if_neg (by simpa using e)]
      simpa using ih
    · rw [if_neg e, List.filter_cons, if_pos (by simpa using e)]
      cases h : t.splitOn c with
      | nil => exact absurd h (List.splitOn_ne_nil _ _)
      | cons a r =>
        rw [h] at ih
        show (x :: a) ++ r.flatten = _
        rw [← ih]
        rfl
theorem sp_mem {c z : UInt8} (hz : z ≠ c) : ∀ {l : Bytes}, z ∈ l → ∃ p ∈ l.splitOn c, z ∈ p := fun {l} h => by
  have : z ∈ (l.splitOn c).flatten := by
    rw [sp_flat]
    exact List.mem_filter.mpr ⟨h, by simpa using hz⟩
  obtain ⟨p, hp, q⟩ := List.mem_flatten.mp this
  exact ⟨p, hp, q⟩
theorem all_u8 {p : UInt8 → Prop} (h : ∀ k : Fin 256, p (UInt8.ofNat k.val)) (c : UInt8) : p c := by
  have := h ⟨c.toNat, c.toNat_lt⟩
  simpa only [UInt8.ofNat_toNat] using this
theorem low_id (c : UInt8) : isDigit c = true → lower c = c := all_u8 (p := fun c => isDigit c = true → lower c = c) (by decide +kernel) c
theorem low_id' (c : UInt8) : isDigit (lower c) = true → lower c = c := all_u8 (p := fun c => isDigit (lower c) = true → lower c = c) (by decide +kernel) c
theorem low_sign (c : UInt8) : (lower c = 43 ↔ c = 43) ∧ (lower c = 45 ↔ c = 45) ∧ (lower c = 46 ↔ c = 46) ∧ (lower c = 44 ↔ c = 44) ∧ (lower c = 32 ↔ c = 32) ∧ (lower c = 58 ↔ c = 58) := all_u8 (p := fun c => (lower c = 43 ↔ c = 43) ∧ (lower c = 45 ↔ c = 45) ∧ (lower c = 46 ↔ c = 46) ∧ (lower c = 44 ↔ c = 44) ∧ (lower c = 32 ↔ c = 32) ∧ (lower c = 58 ↔ c = 58)) (by decide +kernel) c
theorem e_not (c : UInt8) : lower c = 101 → isDigit c = false ∧ c ≠ 44 ∧ c ≠ 46 := all_u8 (p := fun c => lower c = 101 → isDigit c = false ∧ c ≠ 44 ∧ c ≠ 46) (by decide +kernel) c
theorem low_map_id : ∀ {l : Bytes}, l.all isDigit = true → l.map lower = l
  | [], _ => rfl
  | c :: l, h => by
    rw [List.all_cons, Bool.and_eq_true] at h
    rw [List.map_cons, low_id c h.1, low_map_id h.2]
theorem low_map_id' : ∀ {l : Bytes}, (l.map lower).all isDigit = true → l.map lower = l
  | [], _ => rfl
  | c :: l, h => by
    rw [List.map_cons, List.all_cons, Bool.and_eq_true] at h
    rw [List.map_cons, low_id' c h.1, low_map_id' h.2]
end TY
end
section
set_option linter.all false
set_option maxRecDepth 10000
set_option maxHeartbeats 1000000
namespace TY
open Sv68
def dg (b : Bytes) (lo hi : Nat) : Bool := decide (lo ≤ b.length) && (decide (b.length ≤ hi) && b.all isDigit)
theorem dg_iff {b : Bytes} {lo hi : Nat} : dg b lo hi = true ↔ lo ≤ b.length ∧ b.length ≤ hi ∧ b.all isDigit = true := by
  unfold dg
  rw [Bool.and_eq_true, Bool.and_eq_true, decide_eq_true_iff, decide_eq_true_iff]
theorem small_eq (lo hi : Nat) (b : Bytes) : small lo hi b = if dg b lo hi = true then some (number b) else none := by
  unfold small dg
  congr 1
  simp
structure Fig where
  digits : Bytes
  decimals : Bytes
  scale : Int
  commas : Bool
def stripE (t : Bytes) : Bytes := if t.head? = some 43 ∨ t.head? = some 45 then t.drop 1 else t
def isExp (t : Bytes) : Bool := dg (stripE t) 1 2
def expOf (t : Bytes) : Int := if t.head? = some 45 then -(number (stripE t) : Int) else (number (stripE t) : Int)
def areGroups : List Bytes → Bool
  | [] => false
  | [_] => true
  | g :: r => decide (1 ≤ g.length) && (decide (g.length ≤ 3) && r.all fun x => decide (x.length = 3))
def figW (h d : Bytes) (e : Int) : Option Fig :=
  if areGroups (h.splitOn 44) = true ∧ dg ((h.filter fun x => x != 44) ++ d) 1 60 = true then some ⟨(h.filter fun x => x != 44) ++ d, d, e - (d.length : Int), decide (1 < (h.splitOn 44).length)⟩ else none
def figH (p : Bytes) (e : Int) : Option Fig := match p.splitOn 46 with
  | [h] => figW h [] e
  | [h, d] => figW h d e
  | _ => none
def figF (b : Bytes) : Option Fig := match (b.map lower).splitOn 101 with
  | [p] => figH p 0
  | [p, t] => if isExp t = true then figH p (expOf t) else none
  | _ => none
def valF (f : Fig) : Int := if 0 ≤ f.scale + 12 then (number f.digits : Int) * 10 ^ (f.scale + 12).toNat else Wbk.nearest (number f.digits) (10 ^ (-(f.scale + 12)).toNat)
def pt : Option Bytes → Bytes
  | none => []
  | some d => 46 :: d
def ex : Option (UInt8 × Bytes) → Bytes
  | none => []
  | some (c, t) => c :: t
def dc (c : UInt8) : Bool := isDigit c || c == 44
structure Form (b w : Bytes) (od : Option Bytes) (oe : Option (UInt8 × Bytes)) : Prop where
  eq : b = w ++ (pt od ++ ex oe)
  hw : w.all dc = true
  hd : ∀ d, od = some d → d.all isDigit = true
  he : ∀ c t, oe = some (c, t) → lower c = 101 ∧ isExp t = true
def eOf : Option (UInt8 × Bytes) → Int
  | none => 0
  | some (_, t) => expOf t
def figOf (w : Bytes) (od : Option Bytes) (oe : Option (UInt8 × Bytes)) : Option Fig := figW w (od.getD []) (eOf oe)
theorem tw {α : Type} {p : α → Bool} : ∀ {w r : List α}, w.all p = true → (∀ x, r.head? = some x → p x = false) → (w ++ r).takeWhile p = w
  | [], [], _, _ => rfl
  | [], x :: r, _, h => by
    show (x :: r).takeWhile p = []
    rw [List.takeWhile_cons, h x rfl]
    rfl
  | x :: w, r, hw, h => by
    rw [List.all_cons, Bool.and_eq_true] at hw
    show (x :: (w ++ r)).takeWhile p = _
    rw [List.takeWhile_cons, if_pos hw.1, tw hw.2 h]
theorem tw_drop {α : Type} (p : α → Bool) : ∀ b : List α, b = b.takeWhile p ++ b.drop (b.takeWhile p).length
  | [] => rfl
  | x :: b => by
    rw [List.takeWhile_cons]
    cases h : p x with
    | true =>
      show x :: b = x :: (b.takeWhile p ++ b.drop (b.takeWhile p).length)
      rw [← tw_drop p b]
    | false => rfl
theorem exp_sign {t : Bytes} (h : isExp t = true) : (∀ c ∈ t, isDigit c = true ∨ c = 43 ∨ c = 45) ∧ t ≠ [] := by
  unfold isExp at h
  rw [dg_iff] at h
  unfold stripE at h
  split at h
  · rename_i q
    cases t with
    | nil => simp at q
    | cons a t =>
      have ha : a = 43 ∨ a = 45 := by simpa using q
      refine ⟨fun c hc => ?_, by simp⟩
      rcases List.mem_cons.mp hc with rfl | hc
      · exact .inr ha
      · exact .inl (List.all_eq_true.mp h.2.2 c hc)
  · refine ⟨fun c hc => .inl (List.all_eq_true.mp h.2.2 c hc), fun e => ?_⟩
    rw [e] at h
    exact absurd h.1 (by decide)
theorem exp_low {t : Bytes} (h : isExp t = true) : t.map lower = t := by
  conv => rhs; rw [← List.map_id t]
  refine List.map_congr_left fun c hc => ?_
  rcases (exp_sign h).1 c hc with q | rfl | rfl
  · exact low_id c q
  · decide
  · decide
theorem exp_low' {t : Bytes} (h : isExp (t.map lower) = true) : t.map lower = t := by
  conv => rhs; rw [← List.map_id t]
  refine List.map_congr_left fun c hc => ?_
  rcases (exp_sign h).1 (lower c) (List.mem_map_of_mem hc) with q | q | q
  · exact low_id' c q
  · rw [q, (low_sign c).1.mp q]
    rfl
  · rw [q, (low_sign c).2.1.mp q]
    rfl
theorem exp_no_e {t : Bytes} (h : isExp t = true) : (101 : UInt8) ∉ t := fun m => by
  rcases (exp_sign h).1 _ m with q | q | q
  · exact absurd q (by decide)
  · exact absurd q (by decide)
  · exact absurd q (by decide)
theorem dc_cases {c : UInt8} (h : dc c = true) : isDigit c = true ∨ c = 44 := by
  unfold dc at h
  rw [Bool.or_eq_true] at h
  exact h.imp id fun q => by simpa using q
theorem dc_low : ∀ {w : Bytes}, w.all dc = true → w.map lower = w
  | [], _ => rfl
  | c :: w, h => by
    rw [List.all_cons, Bool.and_eq_true] at h
    rw [List.map_cons, dc_low h.2]
    rcases dc_cases h.1 with q | rfl
    · rw [low_id c q]
    · rfl
theorem dc_not {w : Bytes} (h : w.all dc = true) : (101 : UInt8) ∉ w ∧ (46 : UInt8) ∉ w := by
  constructor <;> intro m <;> rcases dc_cases (List.all_eq_true.mp h _ m) with q | q <;> exact absurd q (by decide)
theorem dig_no {d : Bytes} (h : d.all isDigit = true) {c : UInt8} (hc : isDigit c = false) : c ∉ d := fun m => by
  have := List.all_eq_true.mp h _ m
  rw [hc] at this
  cases this
theorem code_form {b w : Bytes} {od : Option Bytes} {oe : Option (UInt8 × Bytes)} (F : Form b w od oe) : figF b = figOf w od oe := by
  obtain ⟨rfl, hw, hd, he⟩ := F
  have n1 := dc_not hw
  have lo : (pt od).map lower = pt od := by
    cases od with
    | none => rfl
    | some d => show (46 :: d).map lower = 46 :: d; rw [List.map_cons, low_map_id (hd d rfl)]; rfl
  have no : (101 : UInt8) ∉ w ++ pt od := fun m => by
    rcases List.mem_append.mp m with m | m
    · exact n1.1 m
    · cases od with
      | none => cases m
      | some d =>
        rcases List.mem_cons.mp m with q | q
        · exact absurd q (by decide)
        · exact dig_no (hd d rfl) (by decide) q
  have hh : ∀ e, figH (w ++ pt od) e = figW w (od.getD []) e := fun e => by
    unfold figH
    cases od with
    | none =>
      show (match (w ++ []).splitOn 46 with | [h] => figW h [] e | [h, d] => figW h d e | _ => none) = _
      rw [List.append_nil, sp_free n1.2]
      rfl
    | some d =>
      show (match (w ++ 46 :: d).splitOn 46 with | [h] => figW h [] e | [h, d] => figW h d e | _ => none) = _
      rw [sp_at n1.2, sp_free (dig_no (hd d rfl) (by decide))]
      rfl
  unfold figF figOf
  cases oe with
  | none =>
    show (match ((w ++ (pt od ++ [])).map lower).splitOn 101 with | [p] => figH p 0 | [p, t] => if isExp t = true then figH p (expOf t) else none | _ => none) = _
    rw [List.append_nil, List.map_append, lo, dc_low hw, sp_free no]
    exact hh 0
  | some x =>
    obtain ⟨c, t⟩ := x
    obtain ⟨e1, e2⟩ := he c t rfl
    show (match ((w ++ (pt od ++ c :: t)).map lower).splitOn 101 with | [p] => figH p 0 | [p, t] => if isExp t = true then figH p (expOf t) else none | _ => none) = _
    rw [← List.append_assoc, List.map_append, List.map_append, lo, dc_low hw, List.map_cons, e1, exp_low e2, sp_at no, sp_free (exp_no_e e2)]
    show (if isExp t = true then figH (w ++ pt od) (expOf t) else none) = _
    rw [if_pos e2]
    exact hh _
theorem map_split {l x y : Bytes} {k : UInt8} (h : l.map lower = x ++ k :: y) : ∃ l1 c l2, l = l1 ++ c :: l2 ∧ l1.map lower = x ∧ lower c = k ∧ l2.map lower = y := by
  obtain ⟨l1, l2, e, h1, h2⟩ := List.map_eq_append_iff.mp h
  obtain ⟨c, l3, e2, h3, h4⟩ := List.map_eq_cons_iff.mp h2
  subst e2
  exact ⟨l1, c, l3, e, h1, h3, h4⟩
theorem figW_some {h d : Bytes} {e : Int} {f : Fig} (q : figW h d e = some f) : h.all dc = true ∧ d.all isDigit = true := by
  unfold figW at q
  split at q
  · rename_i z
    have z2 := (dg_iff.mp z.2).2.2
    rw [List.all_append, Bool.and_eq_true] at z2
    refine ⟨List.all_eq_true.mpr fun c hc => ?_, z2.2⟩
    unfold dc
    by_cases e : c = 44
    · rw [e]
      rfl
    · rw [List.all_eq_true.mp z2.1 c (List.mem_filter.mpr ⟨hc, by simpa using e⟩)]
      rfl
  · cases q
theorem dc_low' {w : Bytes} (h : (w.map lower).all dc = true) : w.map lower = w := by
  conv => rhs; rw [← List.map_id w]
  refine List.map_congr_left fun c hc => ?_
  rcases dc_cases (List.all_eq_true.mp h (lower c) (List.mem_map_of_mem hc)) with q | q
  · exact low_id' c q
  · rw [q, (low_sign c).2.2.2.1.mp q]
    rfl
theorem figH_form {p : Bytes} {e : Int} {f : Fig} {l : Bytes} (hl : l.map lower = p) (q : figH p e = some f) : ∃ w od, l = w ++ pt od ∧ w.all dc = true ∧ ∀ d, od = some d → d.all isDigit = true := by
  unfold figH at q
  split at q
  · rename_i h hs
    obtain ⟨rfl, n⟩ := sp_one hs
    obtain ⟨a, b⟩ := figW_some q
    rw [← hl] at a
    have e1 := dc_low' a
    rw [e1] at a
    exact ⟨l, none, (List.append_nil _).symm, a, fun d z => by cases z⟩
  · rename_i h d hs
    obtain ⟨e2, n, n2⟩ := sp_two hs
    obtain ⟨a, b⟩ := figW_some q
    rw [e2] at hl
    obtain ⟨l1, c, l2, e3, h1, h2, h3⟩ := map_split hl
    rw [← h1] at a
    rw [← h3] at b
    have e4 := dc_low' a
    have e5 := low_map_id' b
    rw [e4] at a
    rw [e5] at b
    have e6 := (low_sign c).2.2.1.mp h2
    subst e6
    refine ⟨l1, some l2, e3, a, fun d z => ?_⟩
    cases z
    exact b
  · cases q
theorem code_some {b : Bytes} {f : Fig} (h : figF b = some f) : ∃ w od oe, Form b w od oe := by
  unfold figF at h
  split at h
  · rename_i p hs
    obtain ⟨e, n⟩ := sp_one hs
    obtain ⟨w, od, e2, hw, hd⟩ := figH_form e h
    exact ⟨w, od, none, by rw [e2]; show _ = w ++ (pt od ++ []); rw [List.append_nil], hw, hd, fun c t z => by cases z⟩
  · rename_i p t hs
    split at h
    · rename_i hx
      obtain ⟨e, n, n2⟩ := sp_two hs
      obtain ⟨l1, c, l2, e3, h1, h2, h3⟩ := map_split e
      obtain ⟨w, od, e2, hw, hd⟩ := figH_form h1 h
      rw [← h3] at hx
      have e4 := exp_low' hx
      rw [e4] at hx
      refine ⟨w, od, some (c, l2), by rw [e3, e2, List.append_assoc]; rfl, hw, hd, fun c' t' z => ?_⟩
      cases z
      exact ⟨h2, hx⟩
    · cases h
  · cases h
theorem groups_eq {w : Bytes} (hw : w.all dc = true) : (if (w.all isDigit) = true then some (w, false) else (groups w).map fun x => (x, true)) = if areGroups (w.splitOn 44) = true then some ((w.filter fun x => x != 44), decide (1 < (w.splitOn 44).length)) else none := by
  by_cases m : (44 : UInt8) ∈ w
  · have nd : ¬ (w.all isDigit) = true := fun z => dig_no z (by decide) m
    obtain ⟨a, r, rfl, n⟩ := sp_split m
    rw [if_neg nd]
    have alld : (((a ++ 44 :: r).splitOn 44).all fun x => x.all isDigit) = true := by
      refine List.all_eq_true.mpr fun x hx => List.all_eq_true.mpr fun c hc => ?_
      have : c ∈ (a ++ 44 :: r).filter fun x => x != 44 := by
        rw [← sp_flat]
        exact List.mem_flatten.mpr ⟨x, hx, hc⟩
      obtain ⟨h1, h2⟩ := List.mem_filter.mp this
      rcases dc_cases (List.all_eq_true.mp hw c h1) with q | q
      · exact q
      · rw [q] at h2
        exact absurd h2 (by decide)
    have hf := sp_flat (c := 44) (a ++ 44 :: r)
    rw [sp_at n] at alld hf ⊢
    rw [← hf]
    unfold groups
    rw [sp_at n]
    obtain ⟨g, gs, eg⟩ : ∃ g gs, r.splitOn 44 = g :: gs := by
      cases h : r.splitOn 44 with
      | nil => exact absurd h (List.splitOn_ne_nil _ _)
      | cons g gs => exact ⟨g, gs, rfl⟩
    rw [eg] at alld ⊢
    show (if g :: gs = [] ∨ a.length = 0 ∨ 3 < a.length ∨ ((a :: g :: gs).all fun x => x.all isDigit) = false ∨ ((g :: gs).all fun x => x.length == 3) = false then none else some (a :: g :: gs).flatten).map (fun x => (x, true)) = if (decide (1 ≤ a.length) && (decide (a.length ≤ 3) && (g :: gs).all fun x => decide (x.length = 3))) = true then _ else none
    have e3 : ((g :: gs).all fun x => x.length == 3) = (g :: gs).all fun x => decide (x.length = 3) := by
      congr 1
    rw [alld, e3]
    by_cases q : (decide (1 ≤ a.length) && (decide (a.length ≤ 3) && (g :: gs).all fun x => decide (x.length = 3))) = true
    · rw [if_pos q]
      rw [Bool.and_eq_true, Bool.and_eq_true, decide_eq_true_iff, decide_eq_true_iff] at q
      rw [if_neg (fun z => by
        rcases z with z | z | z | z | z
        · cases z
        · omega
        · omega
        · cases z
        · rw [q.2.2] at z
          cases z)]
      show some ((a :: g :: gs).flatten, true) = some ((a :: g :: gs).flatten, decide (1 < (a :: g :: gs).length))
      rw [decide_eq_true (by simp)]
    · rw [if_neg q]
      rw [if_pos]
      · rfl
      · by_cases q1 : a.length = 0
        · exact .inr (.inl q1)
        · by_cases q2 : 3 < a.length
          · exact .inr (.inr (.inl q2))
          · refine .inr (.inr (.inr (.inr ?_)))
            rw [Bool.eq_false_iff]
            intro z
            exact q (by rw [z, decide_eq_true (show 1 ≤ a.length by omega), decide_eq_true (show a.length ≤ 3 by omega)]; rfl)
  · have ad : w.all isDigit = true := List.all_eq_true.mpr fun c hc => (dc_cases (List.all_eq_true.mp hw c hc)).resolve_right fun e => m (e ▸ hc)
    have ef : (w.filter fun x => x != 44) = w := List.filter_eq_self.mpr fun c hc => by
      have : c ≠ 44 := fun e => m (e ▸ hc)
      simpa using this
    rw [if_pos ad, sp_free m, ef]
    rfl
def expS (q : Bytes) : Option Int := match q with
  | [] => some 0
  | c :: t => if lower c ≠ 101 then none else
    let s := if t.head? = some 45 ∨ t.head? = some 43 then t.drop 1 else t
    if s.length = 0 ∨ 2 < s.length ∨ (s.all isDigit) = false then none else some (if t.head? = some 45 then -(number s : Int) else number s)
theorem expS_eq : ∀ q : Bytes, expS q = match q with
    | [] => some 0
    | c :: t => if lower c = 101 ∧ isExp t = true then some (expOf t) else none
  | [] => rfl
  | c :: t => by
    have es : (if t.head? = some 45 ∨ t.head? = some 43 then t.drop 1 else t) = stripE t := by
      unfold stripE
      by_cases h1 : t.head? = some 45
      · rw [if_pos (.inl h1), if_pos (.inr h1)]
      · by_cases h2 : t.head? = some 43
        · rw [if_pos (.inr h2), if_pos (.inl h2)]
        · rw [if_neg (by simp [h1, h2]), if_neg (by simp [h1, h2])]
    unfold expS
    simp only [es]
    by_cases h1 : lower c = 101
    · rw [if_neg (by simpa using h1)]
      by_cases h2 : isExp t = true
      · rw [if_pos (show lower c = 101 ∧ isExp t = true from ⟨h1, h2⟩)]
        unfold isExp at h2
        rw [dg_iff] at h2
        rw [if_neg (fun z => by
          rcases z with z | z | z
          · omega
          · omega
          · rw [h2.2.2] at z
            cases z)]
        rfl
      · rw [if_neg (show ¬ (lower c = 101 ∧ isExp t = true) from fun z => h2 z.2)]
        refine if_pos ?_
        unfold isExp at h2
        rw [dg_iff] at h2
        by_cases q1 : (stripE t).length = 0
        · exact .inl q1
        · by_cases q2 : 2 < (stripE t).length
          · exact .inr (.inl q2)
          · refine .inr (.inr ?_)
            rw [Bool.eq_false_iff]
            intro z
            exact h2 ⟨by omega, by omega, z⟩
    · rw [if_pos h1, if_neg (show ¬ (lower c = 101 ∧ isExp t = true) from fun z => h1 z.1)]
def decS (r : Bytes) : Bytes := if r.head? = some 46 then (r.drop 1).takeWhile isDigit else []
def resS (r : Bytes) : Bytes := if r.head? = some 46 then r.drop ((decS r).length + 1) else r
theorem uns_unf (b : Bytes) : unsignedIn b = (if ((b.takeWhile dc).all isDigit) = true then some (b.takeWhile dc, false) else (groups (b.takeWhile dc)).map fun x => (x, true)).bind fun x =>
    (expS (resS (b.drop (b.takeWhile dc).length))).bind fun e => if x.1.length + (decS (b.drop (b.takeWhile dc).length)).length = 0 ∨ 60 < x.1.length + (decS (b.drop (b.takeWhile dc).length)).length then none else
      some (if 0 ≤ (12 + e - ((decS (b.drop (b.takeWhile dc).length)).length : Int)) then (number (x.1 ++ decS (b.drop (b.takeWhile dc).length)) : Int) * 10 ^ (12 + e - ((decS (b.drop (b.takeWhile dc).length)).length : Int)).toNat else Wbk.nearest (number (x.1 ++ decS (b.drop (b.takeWhile dc).length))) (10 ^ (-(12 + e - ((decS (b.drop (b.takeWhile dc).length)).length : Int))).toNat), x.2, decide (0 < (decS (b.drop (b.takeWhile dc).length)).length)) := rfl
def uns (f : Fig) : Int × Bool × Bool := (valF f, f.commas, decide (0 < f.decimals.length))
theorem filt_dig {w : Bytes} (hw : w.all dc = true) : (w.filter fun x => x != 44).all isDigit = true := List.all_eq_true.mpr fun c hc => by
  obtain ⟨h1, h2⟩ := List.mem_filter.mp hc
  rcases dc_cases (List.all_eq_true.mp hw c h1) with q | q
  · exact q
  · rw [q] at h2
    exact absurd h2 (by decide)
theorem spec_form {b w : Bytes} {od : Option Bytes} {oe : Option (UInt8 × Bytes)} (F : Form b w od oe) : unsignedIn b = (figOf w od oe).map uns := by
  obtain ⟨rfl, hw, hd, he⟩ := F
  have ht : (w ++ (pt od ++ ex oe)).takeWhile dc = w := by
    refine tw hw fun x hx => ?_
    cases od with
    | some d => cases hx; decide
    | none =>
      cases oe with
      | none => cases hx
      | some y =>
        obtain ⟨c, t⟩ := y
        obtain rfl : c = x := Option.some.inj hx
        have := e_not c (he c t rfl).1
        unfold dc
        rw [this.1]
        simpa using this.2.1
  have hdr : (w ++ (pt od ++ ex oe)).drop w.length = pt od ++ ex oe := List.drop_left
  have hdec : decS (pt od ++ ex oe) = od.getD [] := by
    unfold decS
    cases od with
    | some d =>
      refine (if_pos rfl).trans ?_
      refine tw (hd d rfl) fun x hx => ?_
      cases oe with
      | none => cases hx
      | some y =>
        obtain ⟨c, t⟩ := y
        obtain rfl : c = x := Option.some.inj hx
        exact (e_not c (he c t rfl).1).1
    | none =>
      rw [if_neg]
      · rfl
      · cases oe with
        | none => intro z; cases z
        | some y =>
          obtain ⟨c, t⟩ := y
          intro z
          exact (e_not c (he c t rfl).1).2.2 (Option.some.inj z)
  have hres : resS (pt od ++ ex oe) = ex oe := by
    unfold resS
    rw [hdec]
    cases od with
    | some d =>
      refine (if_pos rfl).trans ?_
      show (46 :: (d ++ ex oe)).drop (d.length + 1) = _
      rw [List.drop_succ_cons, List.drop_left]
    | none =>
      rw [if_neg]
      · rfl
      · cases oe with
        | none => intro z; cases z
        | some y =>
          obtain ⟨c, t⟩ := y
          intro z
          exact (e_not c (he c t rfl).1).2.2 (Option.some.inj z)
  have hexp : expS (ex oe) = some (eOf oe) := by
    rw [expS_eq]
    cases oe with
    | none => rfl
    | some y =>
      obtain ⟨c, t⟩ := y
      exact if_pos (he c t rfl)
  rw [uns_unf, ht, hdr, hdec, hres, hexp, groups_eq hw]
  unfold figOf figW
  generalize hD : od.getD [] = d
  have hdd : d.all isDigit = true := by
    cases od with
    | none => rw [← hD]; rfl
    | some d' => rw [← hD]; exact hd d' rfl
  by_cases q : areGroups (w.splitOn 44) = true
  · rw [if_pos q]
    show (if (w.filter fun x => x != 44).length + d.length = 0 ∨ 60 < (w.filter fun x => x != 44).length + d.length then none else _) = _
    by_cases q2 : dg ((w.filter fun x => x != 44) ++ d) 1 60 = true
    · rw [if_pos (show areGroups (w.splitOn 44) = true ∧ dg ((w.filter fun x => x != 44) ++ d) 1 60 = true from ⟨q, q2⟩)]
      rw [dg_iff, List.length_append] at q2
      rw [if_neg (by omega)]
      show _ = some (uns _)
      unfold uns valF
      dsimp only
      rw [show 12 + eOf oe - (d.length : Int) = eOf oe - (d.length : Int) + 12 by omega]
    · rw [if_neg (show ¬ (areGroups (w.splitOn 44) = true ∧ dg ((w.filter fun x => x != 44) ++ d) 1 60 = true) from fun z => q2 z.2)]
      refine (if_pos ?_).trans rfl
      · rw [dg_iff, List.length_append, List.all_append, filt_dig hw, hdd] at q2
        by_cases z : (w.filter fun x => x != 44).length + d.length = 0
        · exact .inl z
        · exact .inr (by
            rcases Nat.lt_or_ge 60 ((w.filter fun x => x != 44).length + d.length) with y | y
            · exact y
            · exact absurd ⟨by omega, y, rfl⟩ q2)
  · rw [if_neg q, if_neg fun z => q z.1]
    rfl
theorem spec_some {b : Bytes} {x : Int × Bool × Bool} (h : unsignedIn b = some x) : ∃ w od oe, Form b w od oe := by
  rw [uns_unf] at h
  obtain ⟨y, h1, h⟩ := Option.bind_eq_some_iff.mp h
  obtain ⟨e, h2, h⟩ := Option.bind_eq_some_iff.mp h
  have hw : (b.takeWhile dc).all dc = true := List.all_takeWhile
  have hb := tw_drop dc b
  rw [expS_eq] at h2
  have hoe : ∃ oe, resS (b.drop (b.takeWhile dc).length) = ex oe ∧ ∀ c t, oe = some (c, t) → lower c = 101 ∧ isExp t = true := by
    split at h2
    · rename_i hr
      exact ⟨none, hr, fun c t z => by cases z⟩
    · rename_i c t hr
      split at h2
      · rename_i q
        exact ⟨some (c, t), hr, fun c' t' z => by cases z; exact q⟩
      · cases h2
  obtain ⟨oe, hoe, hoe2⟩ := hoe
  generalize b.takeWhile dc = w at hb hw hoe
  generalize b.drop w.length = r at hb hoe
  unfold resS at hoe
  split at hoe
  · rename_i h46
    refine ⟨w, some (decS r), oe, ?_, hw, fun d z => ?_, hoe2⟩
    · rw [hb]
      congr 1
      rw [← hoe]
      cases r with
      | nil => cases h46
      | cons c r =>
        cases h46
        show 46 :: r = (46 :: decS (46 :: r)) ++ r.drop (decS (46 :: r)).length
        show _ = 46 :: (decS (46 :: r) ++ r.drop (decS (46 :: r)).length)
        congr 1
        show r = r.takeWhile isDigit ++ r.drop (r.takeWhile isDigit).length
        exact tw_drop isDigit r
    · cases z
      unfold decS
      rw [if_pos h46]
      exact List.all_takeWhile
  · exact ⟨w, none, oe, (by rw [hb, hoe]; rfl), hw, (fun d z => nomatch z), hoe2⟩
theorem fig_eq (b : Bytes) : unsignedIn b = (figF b).map uns := by
  by_cases h : ∃ w od oe, Form b w od oe
  · obtain ⟨w, od, oe, F⟩ := h
    rw [spec_form F, code_form F]
  · cases h1 : unsignedIn b with
    | some x => exact absurd (spec_some h1) h
    | none =>
      cases h2 : figF b with
      | some f => exact absurd (code_some h2) h
      | none => rfl
end TY
end
section
set_option linter.all false
set_option maxRecDepth 10000
set_option maxHeartbeats 1000000
namespace TY
open Sv68
def brk (b : Bytes) : Bool := decide (2 < b.length) && (b.head? == some 40 && b.getLast? == some 41)
def noSign (b : Bytes) : Bytes := if brk b = true then (b.drop 1).dropLast else if b.head? = some 45 ∨ b.head? = some 43 then b.drop 1 else b
def below (b : Bytes) : Bool := brk b || b.head? == some 45
def isPc (c : Bytes) : Bool := c.getLast? == some 37
def noPc (c : Bytes) : Bytes := if isPc c = true then c.dropLast else c
def picF (f : Fig) (pc : Bool) : Bytes := if pc = true then (if f.decimals ≠ [] then str "0.00%" else str "0%") else if f.commas = true then (if f.decimals ≠ [] then str "#,##0.00" else str "#,##0") else []
def absF (f : Fig) (pc : Bool) : Int := if pc = true then Wbk.nearest (valF f) 100 else valF f
def numF (b : Bytes) : Option (Int × Bytes) := (figF (noPc (noSign b))).bind fun f =>
  if Wbk.fits (absF f (isPc (noSign b))) = false then none else some (if below b = true then -absF f (isPc (noSign b)) else absF f (isPc (noSign b)), picF f (isPc (noSign b)))
theorem num_eq (b : Bytes) : numberIn b = numF b := by
  have e : numberIn b = (unsignedIn (noPc (noSign b))).bind fun x =>
    if Wbk.fits (if isPc (noSign b) = true then Wbk.nearest x.1 100 else x.1) = false then none else some (if below b = true then -(if isPc (noSign b) = true then Wbk.nearest x.1 100 else x.1) else (if isPc (noSign b) = true then Wbk.nearest x.1 100 else x.1), if isPc (noSign b) = true then (if x.2.2 = true then str "0.00%" else str "0%") else if x.2.1 = true then (if x.2.2 = true then str "#,##0.00" else str "#,##0") else []) := rfl
  rw [e, fig_eq]
  unfold numF
  cases figF (noPc (noSign b)) with
  | none => rfl
  | some f =>
    show (if Wbk.fits (absF f (isPc (noSign b))) = false then none else some (_, _)) = (if Wbk.fits (absF f (isPc (noSign b))) = false then none else some (_, _))
    have ed : (uns f).2.2 = decide (f.decimals ≠ []) := by
      show decide (0 < f.decimals.length) = _
      cases f.decimals <;> simp
    have ep : (if isPc (noSign b) = true then (if (uns f).2.2 = true then str "0.00%" else str "0%") else if (uns f).2.1 = true then (if (uns f).2.2 = true then str "#,##0.00" else str "#,##0") else []) = picF f (isPc (noSign b)) := by
      unfold picF
      rw [ed]
      simp only [decide_eq_true_eq]
      rfl
    rw [ep]
    rfl
theorem number_lt : ∀ {b : Bytes}, b.all isDigit = true → number b < 10 ^ b.length := by
  intro b
  have key : ∀ (l : Bytes) (n : Nat), l.all isDigit = true → l.foldl (fun n c => 10 * n + (c.toNat - 48)) n < (n + 1) * 10 ^ l.length := by
    intro l
    induction l with
    | nil => intro n _; simp
    | cons c l ih =>
      intro n h
      rw [List.all_cons, Bool.and_eq_true] at h
      have hc : c.toNat ≤ 57 := by
        have := h.1
        unfold isDigit at this
        simp at this
        omega
      have := ih (10 * n + (c.toNat - 48)) h.2
      rw [List.foldl_cons, List.length_cons, Nat.pow_succ]
      refine Nat.lt_of_lt_of_le this ?_
      rw [Nat.mul_comm (10 ^ l.length) 10, ← Nat.mul_assoc]
      exact Nat.mul_le_mul_right _ (by omega)
  intro h
  have := key b 0 h
  simpa [number] using this
instance (y m d : Nat) : Decidable (DY.Real y m d) := by unfold DY.Real; infer_instance
def findDay (y m d : Bytes) : Nat := if dg y 4 4 = true ∧ dg m 1 2 = true ∧ dg d 1 2 = true ∧ DY.Real (number y) (number m) (number d) then dayOf (number y) (number m) (number d) else 0
def dayF (b : Bytes) : Nat := match b.splitOn 45, b.splitOn 46, b.splitOn 47 with
  | [y, m, d], _, _ => findDay y m d
  | _, [d, m, y], _ => findDay y m d
  | _, _, [m, d, y] => findDay y m d
  | _, _, _ => 0
def optN (n : Nat) : Option Nat := if n = 0 then none else some n
def makeD (y m d : Bytes) : Option Nat := (small 4 4 y).bind fun y => (small 1 2 m).bind fun m => (small 1 2 d).bind fun d => if 1900 ≤ y ∧ 1 ≤ m ∧ m ≤ 12 ∧ 1 ≤ d ∧ d ≤ monthDays y m then some (dayOf y m d) else none
theorem makeD_eq (y m d : Bytes) : makeD y m d = optN (findDay y m d) := by
  unfold makeD findDay optN
  rw [small_eq, small_eq, small_eq]
  by_cases h1 : dg y 4 4 = true
  · by_cases h2 : dg m 1 2 = true
    · by_cases h3 : dg d 1 2 = true
      · rw [if_pos h1, if_pos h2, if_pos h3]
        show (if 1900 ≤ number y ∧ 1 ≤ number m ∧ number m ≤ 12 ∧ 1 ≤ number d ∧ number d ≤ monthDays (number y) (number m) then some (dayOf (number y) (number m) (number d)) else none) = _
        have hy : number y ≤ 9999 := by
          have q := dg_iff.mp h1
          have := number_lt q.2.2
          have e : y.length = 4 := by omega
          rw [e] at this
          omega
        by_cases h4 : DY.Real (number y) (number m) (number d)
        · rw [if_pos ⟨h4.1, h4.2.2⟩, if_pos (show dg y 4 4 = true ∧ dg m 1 2 = true ∧ dg d 1 2 = true ∧ DY.Real (number y) (number m) (number d) from ⟨h1, h2, h3, h4⟩)]
          have := (DY.real_day h4).1
          rw [if_neg (by omega)]
        · rw [if_neg fun z => h4 ⟨z.1, hy, z.2⟩, if_neg (show ¬ (dg y 4 4 = true ∧ dg m 1 2 = true ∧ dg d 1 2 = true ∧ DY.Real (number y) (number m) (number d)) from fun z => h4 z.2.2.2)]
          rfl
      · rw [if_neg h3, if_neg (show ¬ (dg y 4 4 = true ∧ dg m 1 2 = true ∧ dg d 1 2 = true ∧ DY.Real (number y) (number m) (number d)) from fun z => h3 z.2.2.1), if_pos h1, if_pos h2]
        rfl
    · rw [if_neg h2, if_neg (show ¬ (dg y 4 4 = true ∧ dg m 1 2 = true ∧ dg d 1 2 = true ∧ DY.Real (number y) (number m) (number d)) from fun z => h2 z.2.1), if_pos h1]
      rfl
  · rw [if_neg h1, if_neg (show ¬ (dg y 4 4 = true ∧ dg m 1 2 = true ∧ dg d 1 2 = true ∧ DY.Real (number y) (number m) (number d)) from fun z => h1 z.1)]
    rfl
theorem day_eq (b : Bytes) : dayIn b = optN (dayF b) := by
  have e : dayIn b = match b.splitOn 45, b.splitOn 46, b.splitOn 47 with
    | [y, m, d], _, _ => makeD y m d
    | _, [d, m, y], _ => makeD y m d
    | _, _, [m, d, y] => makeD y m d
    | _, _, _ => none := rfl
  rw [e]
  unfold dayF
  split
  · exact makeD_eq ..
  · exact makeD_eq ..
  · exact makeD_eq ..
  · rfl
def secF (s : Bytes) : Option Nat := match s.splitOn 46 with
  | [x] => if dg x 1 2 = true ∧ number x < 60 then some (number x * 1000) else none
  | [x, f] => if dg x 1 2 = true ∧ number x < 60 ∧ dg f 1 3 = true then some (number x * 1000 + number ((f ++ [48, 48]).take 3)) else none
  | _ => none
def hourF (h : Nat) : Option Bytes → Option Nat
  | none => if h < 24 then some h else none
  | some w => if (w.map lower = str "am" ∨ w.map lower = str "pm") ∧ 1 ≤ h ∧ h ≤ 12 then some (if w.map lower = str "pm" then h % 12 + 12 else h % 12) else none
def mkF (h m : Bytes) (ow : Option Bytes) (os : Option Nat) (has : Bool) : Option (Nat × Bool) :=
  if dg h 1 2 = true ∧ dg m 1 2 = true then (hourF (number h) ow).bind fun x => os.bind fun s => if number m < 60 then some ((x * 60 + number m) * 60000 + s, has) else none else none
def tmF (a : Bytes) (ow : Option Bytes) : Option (Nat × Bool) := match a.splitOn 58 with
  | [h, m] => mkF h m ow (some 0) false
  | [h, m, s] => mkF h m ow (secF s) true
  | _ => none
def timeF (b : Bytes) : Option (Nat × Bool) := match b.splitOn 32 with
  | [a] => tmF a none
  | [a, x] => tmF a (some x)
  | _ => none
def halfOf (b : Bytes) : Option Bool := if 3 < (b.map lower).length ∧ (b.map lower).drop ((b.map lower).length - 3) = str " am" then some false else if 3 < (b.map lower).length ∧ (b.map lower).drop ((b.map lower).length - 3) = str " pm" then some true else none
def secS (s : Bytes) : Option Nat := match s.splitOn 46 with
  | [x] => (small 1 2 x).map fun n => 1000 * n
  | [x, f] => (small 1 2 x).bind fun n => (small 1 3 f).map fun k => 1000 * n + k * 10 ^ (3 - f.length)
  | _ => none
def hourS (half : Option Bool) (h : Nat) : Option Nat := match half with
  | none => if h < 24 then some h else none
  | some late => if 1 ≤ h ∧ h ≤ 12 then some (h % 12 + if late = true then 12 else 0) else none
def mkS (half : Option Bool) (h m : Bytes) (s : Nat) (has : Bool) : Option (Nat × Bool) := (small 1 2 h).bind fun h => (small 1 2 m).bind fun m => (hourS half h).bind fun h => if 60 ≤ m ∨ 60000 ≤ s then none else some (3600000 * h + (60000 * m + s), has)
def tmS (half : Option Bool) (c : Bytes) : Option (Nat × Bool) := match c.splitOn 58 with
  | [h, m] => mkS half h m 0 false
  | [h, m, s] => (secS s).bind fun s => mkS half h m s true
  | _ => none
theorem time_unf (b : Bytes) : timeIn b = tmS (halfOf b) (if (halfOf b).isSome = true then b.take (b.length - 3) else b) := rfl
theorem small_blank {lo hi : Nat} {b : Bytes} (h : (32 : UInt8) ∈ b) : small lo hi b = none := by
  rw [small_eq, if_neg]
  intro z
  exact dig_no (dg_iff.mp z).2.2 (by decide) h
theorem tmS_blank {half : Option Bool} {c : Bytes} (h : (32 : UInt8) ∈ c) : tmS half c = none := by
  unfold tmS
  obtain ⟨p, hp, q⟩ := sp_mem (c := 58) (by decide) h
  split
  · rename_i x y e
    rw [e] at hp
    unfold mkS
    rcases List.mem_cons.mp hp with rfl | hp
    · rw [small_blank q]
      rfl
    · obtain rfl := List.mem_singleton.mp hp
      rw [small_blank q]
      cases small 1 2 x <;> rfl
  · rename_i x y s e
    rw [e] at hp
    unfold mkS
    rcases List.mem_cons.mp hp with rfl | hp
    · rw [small_blank q]
      cases secS s <;> rfl
    · rcases List.mem_cons.mp hp with rfl | hp
      · rw [small_blank q]
        cases secS s
        · rfl
        · show (small 1 2 x).bind _ = none
          cases small 1 2 x <;> rfl
      · obtain rfl := List.mem_singleton.mp hp
        have : secS p = none := by
          unfold secS
          obtain ⟨p', hp', q'⟩ := sp_mem (c := 46) (by decide) q
          split
          · rename_i x' e'
            rw [e'] at hp'
            obtain rfl := List.mem_singleton.mp hp'
            rw [small_blank q']
            rfl
          · rename_i x' f' e'
            rw [e'] at hp'
            rcases List.mem_cons.mp hp' with rfl | hp'
            · rw [small_blank q']
              rfl
            · obtain rfl := List.mem_singleton.mp hp'
              rw [small_blank q']
              cases small 1 2 x' <;> rfl
          · rfl
        rw [this]
        rfl
  · rfl
theorem sec_val {f : Bytes} (h : dg f 1 3 = true) : number ((f ++ [48, 48]).take 3) = number f * 10 ^ (3 - f.length) ∧ number f * 10 ^ (3 - f.length) < 1000 := by
  obtain ⟨h1, h2, h3⟩ := dg_iff.mp h
  have hl := number_lt h3
  match f, h1, h2, hl with
  | [a], _, _, hl =>
    refine ⟨?_, ?_⟩
    · show number [a, 48, 48] = number [a] * 10 ^ 2
      simp [number]
      omega
    · show number [a] * 10 ^ 2 < 1000
      have : number [a] < 10 := hl
      omega
  | [a, b], _, _, hl =>
    refine ⟨?_, ?_⟩
    · show number [a, b, 48] = number [a, b] * 10 ^ 1
      simp [number]
      omega
    · show number [a, b] * 10 ^ 1 < 1000
      have : number [a, b] < 100 := hl
      omega
  | [a, b, c], _, _, hl =>
    refine ⟨?_, ?_⟩
    · show number [a, b, c] = number [a, b, c] * 10 ^ 0
      omega
    · show number [a, b, c] * 10 ^ 0 < 1000
      have : number [a, b, c] < 1000 := hl
      omega
theorem secS_eq (s : Bytes) : secF s = (secS s).bind fun n => if n < 60000 then some n else none := by
  unfold secF secS
  split
  · rename_i x e
    rw [small_eq]
    by_cases h : dg x 1 2 = true
    · rw [if_pos h]
      show _ = if 1000 * number x < 60000 then some (1000 * number x) else none
      by_cases h2 : number x < 60
      · rw [if_pos (show dg x 1 2 = true ∧ number x < 60 from ⟨h, h2⟩), if_pos (by omega), Nat.mul_comm]
      · rw [if_neg (show ¬ (dg x 1 2 = true ∧ number x < 60) from fun z => h2 z.2), if_neg (by omega)]
    · rw [if_neg h, if_neg (show ¬ (dg x 1 2 = true ∧ number x < 60) from fun z => h z.1)]
      rfl
  · rename_i x f e
    rw [small_eq, small_eq]
    by_cases h : dg x 1 2 = true
    · by_cases h3 : dg f 1 3 = true
      · rw [if_pos h, if_pos h3]
        obtain ⟨v1, v2⟩ := sec_val h3
        show _ = if 1000 * number x + number f * 10 ^ (3 - f.length) < 60000 then some (1000 * number x + number f * 10 ^ (3 - f.length)) else none
        by_cases h2 : number x < 60
        · rw [if_pos (show dg x 1 2 = true ∧ number x < 60 ∧ dg f 1 3 = true from ⟨h, h2, h3⟩), if_pos (by omega), v1, Nat.mul_comm]
        · rw [if_neg (show ¬ (dg x 1 2 = true ∧ number x < 60 ∧ dg f 1 3 = true) from fun z => h2 z.2.1), if_neg (by omega)]
      · rw [if_neg h3, if_pos h, if_neg (show ¬ (dg x 1 2 = true ∧ number x < 60 ∧ dg f 1 3 = true) from fun z => h3 z.2.2)]
        rfl
    · rw [if_neg h, if_neg (show ¬ (dg x 1 2 = true ∧ number x < 60 ∧ dg f 1 3 = true) from fun z => h z.1)]
      rfl
  · rfl
def Says (half : Option Bool) (ow : Option Bytes) : Prop := (half = none ∧ ow = none) ∨ ∃ w late, half = some late ∧ ow = some w ∧ w.map lower = if late = true then str "pm" else str "am"
theorem hour_eq {half : Option Bool} {ow : Option Bytes} (h : Says half ow) (n : Nat) : hourF n ow = hourS half n := by
  rcases h with ⟨rfl, rfl⟩ | ⟨w, late, rfl, rfl, hw⟩
  · rfl
  · unfold hourF hourS
    dsimp only
    rw [hw]
    cases late with
    | true =>
      by_cases q : 1 ≤ n ∧ n ≤ 12
      · rw [if_pos ⟨.inr rfl, q⟩, if_pos q]
        rfl
      · rw [if_neg fun z => q z.2, if_neg q]
    | false =>
      by_cases q : 1 ≤ n ∧ n ≤ 12
      · rw [if_pos ⟨.inl rfl, q⟩, if_pos q]
        rfl
      · rw [if_neg fun z => q z.2, if_neg q]
theorem mk_eq {half : Option Bool} {ow : Option Bytes} (h : Says half ow) (x y : Bytes) (s : Nat) (has : Bool) : mkF x y ow (if s < 60000 then some s else none) has = mkS half x y s has := by
  unfold mkF mkS
  rw [small_eq, small_eq]
  by_cases h1 : dg x 1 2 = true
  · by_cases h2 : dg y 1 2 = true
    · rw [if_pos (show dg x 1 2 = true ∧ dg y 1 2 = true from ⟨h1, h2⟩), if_pos h1, if_pos h2, hour_eq h]
      show _ = (hourS half (number x)).bind fun h => if 60 ≤ number y ∨ 60000 ≤ s then none else some (3600000 * h + (60000 * number y + s), has)
      cases hourS half (number x) with
      | none => rfl
      | some z =>
        show (if s < 60000 then some s else none).bind _ = if 60 ≤ number y ∨ 60000 ≤ s then none else some (3600000 * z + (60000 * number y + s), has)
        by_cases h3 : s < 60000
        · rw [if_pos h3]
          show (if number y < 60 then some ((z * 60 + number y) * 60000 + s, has) else none) = _
          by_cases h4 : number y < 60
          · rw [if_pos h4, if_neg (by omega)]
            congr 2
            omega
          · rw [if_neg h4, if_pos (by omega)]
        · rw [if_neg h3, if_pos (.inr (by omega))]
          rfl
    · rw [if_neg (show ¬ (dg x 1 2 = true ∧ dg y 1 2 = true) from fun z => h2 z.2), if_pos h1, if_neg h2]
      rfl
  · rw [if_neg (show ¬ (dg x 1 2 = true ∧ dg y 1 2 = true) from fun z => h1 z.1), if_neg h1]
    rfl
theorem mkF_none (x y : Bytes) (ow : Option Bytes) (has : Bool) : mkF x y ow none has = none := by
  unfold mkF
  split
  · cases hourF (number x) ow <;> rfl
  · rfl
theorem tm_eq {half : Option Bool} {ow : Option Bytes} (h : Says half ow) (a : Bytes) : tmF a ow = tmS half a := by
  unfold tmF tmS
  split
  · exact mk_eq h _ _ 0 _
  · rename_i x y s e
    rw [secS_eq]
    cases secS s with
    | none => exact mkF_none _ _ _ _
    | some n => exact mk_eq h _ _ n _
  · rfl
theorem half_some {b : Bytes} {late : Bool} (h : halfOf b = some late) : ∃ c x y, b = c ++ [32, x, y] ∧ c ≠ [] ∧ [x, y].map lower = if late = true then str "pm" else str "am" := by
  have key : ∀ w : Bytes, 3 < (b.map lower).length → (b.map lower).drop ((b.map lower).length - 3) = 32 :: w → ∃ c x r, b = c ++ x :: r ∧ c ≠ [] ∧ x = 32 ∧ r.map lower = w := by
    intro w h3 hd
    rw [List.length_map] at h3 hd
    rw [← List.map_drop] at hd
    obtain ⟨x, r, e, e1, e2⟩ := List.map_eq_cons_iff.mp hd
    refine ⟨b.take (b.length - 3), x, r, ?_, ?_, (low_sign x).2.2.2.2.1.mp e1, e2⟩
    · rw [← e, List.take_append_drop]
    · intro z
      have := congrArg List.length z
      rw [List.length_take] at this
      simp at this
      omega
  unfold halfOf at h
  split at h
  · rename_i q
    obtain ⟨c, x, r, e, hc, rfl, hr⟩ := key _ q.1 q.2
    obtain ⟨a1, r1, rfl, h1, hr⟩ := List.map_eq_cons_iff.mp hr
    obtain ⟨a2, r2, rfl, h2, hr⟩ := List.map_eq_cons_iff.mp hr
    obtain rfl := List.map_eq_nil_iff.mp hr
    cases h
    exact ⟨c, a1, a2, e, hc, by rw [List.map_cons, List.map_cons, h1, h2]; rfl⟩
  · split at h
    · rename_i q
      obtain ⟨c, x, r, e, hc, rfl, hr⟩ := key _ q.1 q.2
      obtain ⟨a1, r1, rfl, h1, hr⟩ := List.map_eq_cons_iff.mp hr
      obtain ⟨a2, r2, rfl, h2, hr⟩ := List.map_eq_cons_iff.mp hr
      obtain rfl := List.map_eq_nil_iff.mp hr
      cases h
      exact ⟨c, a1, a2, e, hc, by rw [List.map_cons, List.map_cons, h1, h2]; rfl⟩
    · cases h
theorem half_of {c r : Bytes} {late : Bool} (hc : c ≠ []) (hr : r.map lower = if late = true then str "pm" else str "am") : halfOf (c ++ 32 :: r) = some late := by
  have hl : r.length = 2 := by
    have := congrArg List.length hr
    rw [List.length_map] at this
    cases late <;> exact this
  have h3 : 3 < ((c ++ 32 :: r).map lower).length := by
    have : 0 < c.length := List.length_pos_iff.mpr hc
    rw [List.length_map, List.length_append, List.length_cons, hl]
    omega
  have hd : ((c ++ 32 :: r).map lower).drop (((c ++ 32 :: r).map lower).length - 3) = 32 :: r.map lower := by
    rw [List.map_append, List.length_append, List.map_cons, List.length_cons, List.length_map, List.length_map, hl, show c.length + (2 + 1) - 3 = (c.map lower).length by rw [List.length_map]; omega, List.drop_left]
    rfl
  unfold halfOf
  rw [hd, hr]
  cases late with
  | false => exact if_pos ⟨h3, rfl⟩
  | true => exact (if_neg fun z => absurd z.2 (by decide)).trans (if_pos ⟨h3, rfl⟩)
theorem am_no {x y : UInt8} {late : Bool} (h : [x, y].map lower = if late = true then str "pm" else str "am") : (32 : UInt8) ∉ [x, y] := fun m => by
  have m2 : lower 32 ∈ [x, y].map lower := List.mem_map_of_mem m
  rw [h] at m2
  cases late <;> exact absurd m2 (by decide)
theorem tw_last {c r c' r' : Bytes} (e : c ++ 32 :: r = c' ++ 32 :: r') (h : (32 : UInt8) ∉ r) (h' : (32 : UInt8) ∉ r') : c = c' ∧ r = r' := by
  have : ∀ (c r : Bytes), (32 : UInt8) ∉ r → (c ++ 32 :: r).reverse.takeWhile (fun x => x != 32) = r.reverse := fun c r h => by
    rw [List.reverse_append, List.reverse_cons, List.append_assoc]
    refine tw (List.all_eq_true.mpr fun z hz => ?_) fun x hx => ?_
    · have : z ≠ 32 := fun e => h (e ▸ List.mem_reverse.mp hz)
      simpa using this
    · obtain rfl : 32 = x := Option.some.inj hx
      rfl
  have e2 := this c r h
  rw [e, this c' r' h'] at e2
  have e3 : r = r' := by
    have := congrArg List.reverse e2
    rw [List.reverse_reverse, List.reverse_reverse] at this
    exact this.symm
  subst e3
  exact ⟨List.append_cancel_right e, rfl⟩
theorem time_eq (b : Bytes) : timeIn b = timeF b := by
  rw [time_unf]
  by_cases m : (32 : UInt8) ∈ b
  · obtain ⟨a, r, rfl, na⟩ := sp_split m
    unfold timeF
    rw [sp_at na]
    cases hh : halfOf (a ++ 32 :: r) with
    | none =>
      rw [if_neg (by decide), tmS_blank m]
      split
      · rename_i e
        exact absurd (List.cons.inj e).2 (List.splitOn_ne_nil _ _)
      · rename_i a' x e
        obtain ⟨rfl, e'⟩ := List.cons.inj e
        obtain ⟨rfl, nr⟩ := sp_one e'
        by_cases ha : a = []
        · rw [ha]
          rfl
        · have hw : ∀ late, ¬ r.map lower = if late = true then str "pm" else str "am" := fun late z => by
            rw [half_of ha z] at hh
            cases hh
          have hn : ∀ n, hourF n (some r) = none := fun n => if_neg fun z => z.1.elim (hw false) (hw true)
          unfold tmF mkF
          split
          · rw [hn]
            split <;> rfl
          · rw [hn]
            split <;> rfl
          · rfl
      · rfl
    | some late =>
      obtain ⟨c, x, y, e, hc, hw⟩ := half_some hh
      have nxy := am_no hw
      have et : (a ++ 32 :: r).take ((a ++ 32 :: r).length - 3) = c := by
        rw [e, List.length_append]
        show (c ++ [32, x, y]).take (c.length + 3 - 3) = c
        rw [Nat.add_sub_cancel, List.take_left]
      rw [if_pos (by rfl), et]
      by_cases mr : (32 : UInt8) ∈ r
      · have mc : (32 : UInt8) ∈ c := by
          rcases Classical.em ((32 : UInt8) ∈ c) with q | q
          · exact q
          · have h2 := congrArg (List.splitOn 32) e
            rw [sp_at na, show c ++ [32, x, y] = c ++ 32 :: [x, y] from rfl, sp_at q] at h2
            obtain rfl := (List.cons.inj h2).1
            have h3 := List.append_cancel_left e
            rw [(List.cons.inj h3).2] at mr
            exact absurd mr nxy
        rw [tmS_blank mc]
        split
        · rename_i e'
          exact absurd (List.cons.inj e').2 (List.splitOn_ne_nil _ _)
        · rename_i a' x' e'
          obtain ⟨_, n2⟩ := sp_one (List.cons.inj e').2
          obtain ⟨e3, _⟩ := sp_one (List.cons.inj e').2
          exact absurd (e3 ▸ mr) n2
        · rfl
      · obtain ⟨rfl, rfl⟩ := tw_last e mr nxy
        rw [sp_free mr]
        exact (tm_eq (.inr ⟨_, late, rfl, rfl, hw⟩) a).symm
  · have hh : halfOf b = none := by
      cases hh : halfOf b with
      | none => rfl
      | some late =>
        obtain ⟨c, x, y, e, hc, hw⟩ := half_some hh
        exact absurd (by rw [e]; simp) m
    rw [hh, if_neg (by decide)]
    unfold timeF
    rw [sp_free m]
    exact (tm_eq (.inl ⟨rfl, rfl⟩) b).symm
end TY
end
section
set_option linter.all false
set_option maxRecDepth 10000
set_option maxHeartbeats 1000000
namespace TY
open Sv68
def tpic (has : Bool) : Bytes := if has = true then str "h:mm:ss" else str "h:mm"
def momF (b : Bytes) : Option (Int × Bytes) :=
  if 0 < dayF b then some ((dayF b : Int) * Wbk.ONE, str "yyyy-mm-dd") else
  match timeF b with
  | some t => some (Wbk.nearest ((0 * 86400000 + (t.1 : Int)) * Wbk.ONE) 86400000, tpic t.2)
  | none => if dayF (b.takeWhile fun c => c != 32) = 0 then none else
    match timeF (b.drop ((b.takeWhile fun c => c != 32).length + 1)) with
    | none => none
    | some t => some (Wbk.nearest (((dayF (b.takeWhile fun c => c != 32) : Int) * 86400000 + (t.1 : Int)) * Wbk.ONE) 86400000, str "yyyy-mm-dd " ++ tpic t.2)
theorem mom_day (d : Nat) : moment d 0 = (d : Int) * Wbk.ONE := by
  unfold moment Wbk.nearest
  have e : ((86400000 * d + 0 : Nat) : Int) * Wbk.ONE = 86400000 * ((d : Int) * Wbk.ONE) := by
    rw [show ((86400000 * d + 0 : Nat) : Int) = 86400000 * (d : Int) by omega, Int.mul_assoc]
  have e1 : (86400000 * ((d : Int) * Wbk.ONE)) / 86400000 = (d : Int) * Wbk.ONE := Int.mul_ediv_cancel_left _ (by decide)
  have e2 : (86400000 * ((d : Int) * Wbk.ONE)) % 86400000 = 0 := Int.mul_emod_right ..
  show (if (86400000 : Int) < 2 * ((((86400000 * d + 0 : Nat) : Int) * Wbk.ONE) % 86400000) ∨ _ then _ else _) = _
  rw [e, e1, e2, if_neg]
  intro z
  rcases z with z | z
  · exact absurd z (by decide)
  · exact absurd z.1 (by decide)
theorem moment_eq (d ms : Nat) : moment d ms = Wbk.nearest (((d : Int) * 86400000 + (ms : Int)) * Wbk.ONE) 86400000 := by
  unfold moment
  rw [show ((86400000 * d + ms : Nat) : Int) = (d : Int) * 86400000 + (ms : Int) by omega]
theorem mom_eq (b : Bytes) : clockIn b = momF b := by
  unfold clockIn momF
  rw [day_eq, time_eq]
  unfold optN
  by_cases h : dayF b = 0
  · rw [if_pos h, if_neg (by omega)]
    dsimp only
    cases ht : timeF b with
    | some t =>
      dsimp only
      rw [moment_eq]
      rfl
    | none =>
      dsimp only
      rw [day_eq, time_eq]
      unfold optN
      by_cases h2 : dayF (b.takeWhile fun c => c != 32) = 0
      · rw [if_pos h2, if_pos h2]
      · rw [if_neg h2, if_neg h2]
        cases timeF (b.drop ((b.takeWhile fun c => c != 32).length + 1)) with
        | none => rfl
        | some t =>
          dsimp only
          rw [moment_eq]
          unfold tpic
          cases t.2 <;> rfl
  · rw [if_neg h, if_pos (by omega)]
    dsimp only
    rw [mom_day]
def wordF (t : Bytes) : Option (List Int) :=
  if t.map lower = str "true" then some [3, 1] else if t.map lower = str "false" then some [3, 0] else
  match (List.range 8).find? fun k => errorName (k + 1) == t with
  | some k => some [4, (k : Int) + 1]
  | none => none
def bi (b : Bytes) : List Int := b.map fun c => (c.toNat : Int)
def textF (b : Bytes) : List Int := [2, (b.length : Int)] ++ bi b
def entF (b : Bytes) : List Int × Bytes :=
  if trimmed b = [] then ([0], []) else if b.head? = some 39 then (textF (b.drop 1), []) else
  match wordF (trimmed b) with
  | some v => (v, [])
  | none => match numF (trimmed b) with
    | some x => ([1, x.1], x.2)
    | none => match momF (trimmed b) with
      | some x => ([1, x.1], x.2)
      | none => (textF b, [])
def tyF (b : Bytes) : List Int := if b.length ≤ 4096 ∧ Wbk.utf8 b = true then [0] ++ (entF b).1 ++ [((entF b).2.length : Int)] ++ bi (entF b).2 else [-1]
theorem ent_eq (b : Bytes) : (valueOut (typed b).1, (typed b).2) = entF b := by
  unfold typed entF
  dsimp only
  by_cases h0 : trimmed b = []
  · rw [if_pos h0, if_pos h0]
    rfl
  · rw [if_neg h0, if_neg h0]
    by_cases h1 : b.head? = some 39
    · rw [if_pos h1, if_pos h1]
      rfl
    · rw [if_neg h1, if_neg h1]
      unfold wordF
      by_cases h2 : (trimmed b).map lower = str "true"
      · rw [if_pos h2, if_pos h2]
        rfl
      · rw [if_neg h2, if_neg h2]
        by_cases h3 : (trimmed b).map lower = str "false"
        · rw [if_pos h3, if_pos h3]
          rfl
        · rw [if_neg h3, if_neg h3]
          cases (List.range 8).find? fun k => errorName (k + 1) == trimmed b with
          | some k =>
            show ([4, ((k + 1 : Nat) : Int)], []) = ([4, (k : Int) + 1], [])
            rw [show ((k + 1 : Nat) : Int) = (k : Int) + 1 by omega]
          | none =>
            dsimp only
            rw [num_eq]
            cases numF (trimmed b) with
            | some x => rfl
            | none =>
              dsimp only
              rw [mom_eq]
              cases momF (trimmed b) with
              | some x => rfl
              | none => rfl
theorem ty_eq (b : Bytes) : tyF b = (let a := Sv68.does (.typed b); a.v :: a.l) := by
  unfold tyF Sv68.does
  dsimp only
  by_cases h : b.length ≤ 4096 ∧ Wbk.utf8 b = true
  · rw [if_pos h, if_neg (fun z => by
      rcases z with z | z
      · exact absurd z (by show ¬ 4096 < b.length; omega)
      · rw [h.2] at z
        cases z), ← ent_eq]
    show [0] ++ valueOut (typed b).1 ++ [((typed b).2.length : Int)] ++ bi (typed b).2 = 0 :: (valueOut (typed b).1 ++ ofBytes (typed b).2)
    rw [List.append_assoc, List.append_assoc]
    rfl
  · rw [if_neg h, if_pos]
    · rfl
    · by_cases z : b.length ≤ 4096
      · exact .inr (by
          cases y : Wbk.utf8 b with
          | false => rfl
          | true => exact absurd ⟨z, y⟩ h)
      · exact .inl (by show 4096 < b.length; omega)
end TY
end
section
namespace NP
open PySem PySem.Spec PyProof.Rows L2
abbrev PR : Program := PySem.Challenge.pw_numberpictures_s03_typed
def top (i : Nat) : Stmt := PR.main.body.getD i (.Pass ⟨0, 0, 0, 0⟩)
structure TX (P : Program) (w : World) (K : PySem.W.Frag) (mg : Str → Option Value) : Prop where
  n_len : mg "len" = none
  n_ord : mg "ord" = none
  n_range : mg "range" = none
  n_enumerate : mg "enumerate" = none
  n_all : mg "all" = none
  c_FIRST_YEAR : GI mg "FIRST_YEAR" 1900
  c_LAST_YEAR : GI mg "LAST_YEAR" 9999
  c_MONTH_LENGTHS : ∃ a, mg "MONTH_LENGTHS" = some (.ref a) ∧ ∀ H, SqT K H a [.int 31, .int 28, .int 31, .int 30, .int 31, .int 30, .int 31, .int 31, .int 30, .int 31, .int 30, .int 31]
  c_FEBRUARY : GI mg "FEBRUARY" 2
  c_BLANK : GI mg "BLANK" 32
  c_PERCENT : GI mg "PERCENT" 37
  c_APOSTROPHE : GI mg "APOSTROPHE" 39
  c_OPENING : GI mg "OPENING" 40
  c_CLOSING : GI mg "CLOSING" 41
  c_PLUS : GI mg "PLUS" 43
  c_COMMA : GI mg "COMMA" 44
  c_MINUS : GI mg "MINUS" 45
  c_POINT : GI mg "POINT" 46
  c_SLASH : GI mg "SLASH" 47
  c_ZERO : GI mg "ZERO" 48
  c_NINE : GI mg "NINE" 57
  c_COLON : GI mg "COLON" 58
  c_LARGE_A : GI mg "LARGE_A" 65
  c_LARGE_Z : GI mg "LARGE_Z" 90
  c_SMALL_E : GI mg "SMALL_E" 101
  c_LAST_CHARACTER : GI mg "LAST_CHARACTER" 1114111
  c_FIRST_SURROGATE : GI mg "FIRST_SURROGATE" 55296
  c_LAST_SURROGATE : GI mg "LAST_SURROGATE" 57343
  c_LEAST_BY_SIZE : ∃ a, mg "LEAST_BY_SIZE" = some (.ref a) ∧ ∀ H, SqT K H a [.int 0, .int 0, .int 128, .int 2048, .int 65536]
  c_EMPTY : GI mg "EMPTY" 0
  c_NUMBER : GI mg "NUMBER" 1
  c_TEXT : GI mg "TEXT" 2
  c_TRUTH : GI mg "TRUTH" 3
  c_ERROR : GI mg "ERROR" 4
  c_DECIMALS : GI mg "DECIMALS" 12
  c_ONE : GI mg "ONE" 1000000000000
  c_TOO_LARGE : GI mg "TOO_LARGE" 1000000000000000000000000000000000000
  c_LONGEST_TEXT : GI mg "LONGEST_TEXT" 4096
  c_ERROR_NAMES : ∃ a, mg "ERROR_NAMES" = some (.ref a) ∧ ∀ H, SqT K H a [.str "#DIV/0!", .str "#VALUE!", .str "#REF!", .str "#NAME?", .str "#NUM!", .str "#N/A", .str "#RING!", .str "#ROOM!"]
  c_MOST_DIGITS : GI mg "MOST_DIGITS" 60
  c_OF_DAY : GI mg "OF_DAY" 86400000
  c_DAY_PICTURE : GS mg "DAY_PICTURE" "yyyy-mm-dd"
  c_ORDERS : ∃ t0 t1 t2 : Addr, (∃ a, mg "ORDERS" = some (.ref a) ∧ DicK P w K a [(.inl 45, .ref t0), (.inl 46, .ref t1), (.inl 47, .ref t2)]) ∧ (∀ H, SqT K H t0 [.int 0, .int 1, .int 2]) ∧ (∀ H, SqT K H t1 [.int 2, .int 1, .int 0]) ∧ (∀ H, SqT K H t2 [.int 2, .int 0, .int 1])
  c_WRONG_ARGUMENT : GI mg "WRONG_ARGUMENT" (-1)
end NP
end
section
set_option Elab.async false
set_option linter.all false
set_option maxRecDepth 100000
set_option maxHeartbeats 1000000
namespace NP
open PySem PySem.Spec PyProof.Rows L2
def csize (n : Int) : Int := if n < 128 then 1 else if n < 192 then 0 else if n < 224 then 2 else if n < 240 then 3 else if n < 248 then 4 else 0
def charNum : Int → List Int → Option Int
  | n, [] => some n
  | n, c :: r => if Builtin.bitAnd c 192 = 128 then charNum (n * 64 + c % 64) r else none
def charOk (k : Nat) (n : Int) : Bool := decide ([0, 0, 128, 2048, 65536].getD k 0 ≤ n) && (decide (n ≤ 1114111) && !(decide (55296 ≤ n) && decide (n ≤ 57343)))
def charFin (k : Nat) : Option Int → Bool
  | some n => charOk k n
  | none => false
def isChar (ns : List Int) : Bool := match ns with
  | [] => false
  | c :: r => charFin (r.length + 1) (charNum (if r.length = 0 then c else Builtin.bitAnd c (127 / 2 ^ (r.length + 1))) r)
theorem isChar_cons (c : Int) (r : List Int) : isChar (c :: r) = charFin (r.length + 1) (charNum (if r.length = 0 then c else Builtin.bitAnd c (127 / 2 ^ (r.length + 1))) r) := rfl
theorem bitAnd_bound (c m : Int) (h : 0 ≤ c) (hm : 0 ≤ m) : 0 ≤ Builtin.bitAnd c m ∧ Builtin.bitAnd c m ≤ c := by
  rw [bitAnd_pp h hm]
  have := Nat.and_le_left (n := c.toNat) (m := m.toNat)
  omega
section
variable {P : Program} {w : World} {K : PySem.W.Frag} {mg : Str → Option Value} {base : Heap}
def spCsize : Sp := fun vs H Q _ => ∃ n, vs = [.int n] ∧ Q (.int (csize n)) H
def spIsChar (K : PySem.W.Frag) : Sp := fun vs H Q _ => ∃ a ns, vs = [.ref a] ∧ SqL K H a (ns.map V.int) ∧ 1 ≤ ns.length ∧ ns.length ≤ 4 ∧ (∀ n ∈ ns, 0 ≤ n ∧ n ≤ 255) ∧ ∀ H', Same H H' → Q (.bl (isChar ns)) H'
abbrev sCsize : Stmt := top 39
abbrev sIsChar : Stmt := top 40
theorem scCsize : FnScope ["first"] ["first"] (defScope sCsize) := ⟨rfl, rfl, rfl, by decide +kernel, rfl, by decide +kernel, by decide +kernel⟩
theorem ok_csize {f : Addr} {fd : FuncData} (F : Fun K "character_size" "character_size" sCsize f fd) : FnOk P w K mg base CX0 1 f fd ["first"] spCsize := by
  refine F.ok scCsize (fun vs H Q E h => ?_) (fun cdv A outer s H vs Q E hr h => ?_)
  · obtain ⟨n, rfl, _⟩ := h
    rfl
  · obtain ⟨n, rfl, k⟩ := h
    refine ⟨_, (pss_cons (ps_if (pt_cmpR op_lt (pv 0) pe_int (nomark _)) (pss_one (ps_ret pe_int)) pss_nil)
      (pss_cons (ps_if (pt_cmpR op_lt (pv 0) pe_int (nomark _)) (pss_one (ps_ret pe_int)) pss_nil)
      (pss_cons (ps_if (pt_cmpR op_lt (pv 0) pe_int (nomark _)) (pss_one (ps_ret pe_int)) pss_nil)
      (pss_cons (ps_if (pt_cmpR op_lt (pv 0) pe_int (nomark _)) (pss_one (ps_ret pe_int)) pss_nil)
      (pss_one (ps_ret (pe_ifExp (pt_cmpR op_lt (pv 0) pe_int (nomark _)) pe_int pe_int))))))), ?_⟩
    unfold csize at k
    simp only [tSeq, tIfS, tTest, tOp, rI0, tVar, tC, tRet, tIf, tNext, L2.start]
    simp
    repeat' split
    all_goals (simp_all)
theorem scIsChar : FnScope ["codes", "size", "number", "code", "is_surrogate"] ["codes"] (defScope sIsChar) := ⟨rfl, rfl, rfl, by decide +kernel, rfl, by decide +kernel, by decide +kernel⟩
theorem ok_isChar {f : Addr} {fd : FuncData} (T : TX P w K mg) (F : Fun K "is_character" "is_character" sIsChar f fd) : FnOk P w K mg base CX0 1 f fd ["codes"] (spIsChar K) := by
  refine F.ok scIsChar (fun vs H Q E h => ?_) (fun cdv A outer s H vs Q E hr h => ?_)
  · obtain ⟨a, ns, rfl, _⟩ := h
    rfl
  · obtain ⟨a, ns, rfl, hS, hl1, hl4, hb, k⟩ := h
    obtain ⟨aL, gL, sL⟩ := T.c_LEAST_BY_SIZE
    have nd := scIsChar.nd
    obtain ⟨c, r, rfl⟩ : ∃ c r, ns = c :: r := match ns, hl1 with | c :: r, _ => ⟨c, r, rfl⟩
    have hrl : r.length ≤ 3 := by simpa using hl4
    have hbr : ∀ n ∈ r, 0 ≤ n ∧ n ≤ 255 := fun n hn => hb n (List.mem_cons_of_mem _ hn)
    obtain ⟨tR, hR, qR⟩ : ∃ tR, PSs (cxOf CX0 P w K mg base ["codes", "size", "number", "code", "is_surrogate"] "is_character" (defScope sIsChar) f cdv A outer s H E).nox ((defBody sIsChar).drop 2) tR ∧
        ∀ n0 : Int, 0 ≤ n0 → n0 < 256 → (∀ H', Same H H' → Q (.bl (charFin (r.length + 1) (charNum n0 r))) H') →
          tR { nx := fun _ H' => Q .non H', rt := Q } [some (.ref a), some (.int ((c :: r).map V.int).length), some (.int n0), none, none] H := by
      refine ⟨_, (pss_cons (ps_for PassesOwn.never rfl (pi_list (pe_slice sl_list (pv 0) (po_some pe_int) po_none)) (pg_name (i := 3) nd rfl (Or.inl rfl)) (pss_cons (ps_if (pt_cmpR op_ne (pe_op op_and (pv 3) pe_int) pe_int (nomark _)) (pss_one (ps_ret pe_bl)) pss_nil)
        (pss_one (ps_set (i := 2) nd rfl (Or.inl rfl) (pe_op op_add (pe_op op_mul (pv 2) pe_int) (pe_op op_mod (pv 3) pe_int))))))
        (pss_cons (ps_set (i := 4) nd rfl (Or.inl rfl) (pe_chain op_le op_le (pe_gi T.c_FIRST_SURROGATE) (pv 2) (pe_gi T.c_LAST_SURROGATE)))
        (pss_one (ps_ret (pe_and (pe_chain op_le op_le (pe_ix ix_tup (pe_gr gL) (pv 1) (fun _ _ => rfl)) (pv 2) (pe_gi T.c_LAST_CHARACTER)) (pe_one (pe_not (pv 4)))))))), fun n0 h0 h1 kk => ?_⟩
      refine ⟨_, rfl, 1, rfl, a, _, rfl, hS, fun p hp => ?_⟩
      have ecut : cutV ((c :: r).map V.int) (some 1) none = r.map V.int := by
        unfold cutV
        have e1 : HT.sIx ((c :: r).map V.int).length 0 (some 1) = 1 := by
          have := HT.sIx_nat ((c :: r).map V.int).length 0 1
          simp at this
          simpa using this
        rw [e1]
        show ((V.int c :: r.map V.int).drop 1).take _ = _
        rw [List.drop_one, List.tail_cons]
        exact List.take_of_length_le (by simp [HT.sIx])
      rw [ecut]
      have sm : Same H (upd H p (.lst (r.map V.int))) := fun b o e => by rw [upd_ne (ne_of_none e hp)]; exact e
      refine ⟨p, rfl, ⟨_, SqL.of upd_same⟩, for_list (K := K) (a := p) (xs := r.map V.int) (fun i σ H' => ∃ (n : Int) (v : Option V), σ = [some (.ref a), some (.int ((c :: r).map V.int).length), some (.int n), v, none] ∧ H' = upd H p (.lst (r.map V.int)) ∧ 0 ≤ n ∧ n < 256 * 64 ^ i ∧ charNum n0 r = charNum n (r.drop i))
        ⟨n0, none, rfl, rfl, h0, by simpa using h1, rfl⟩ (fun i σ H' _ ⟨_, _, _, e, _⟩ => by subst e; exact SqL.of upd_same) ?_ ?_⟩
      · rintro i y σ H' hi ⟨n, v, rfl, rfl, hn0, hn1, hc⟩
        obtain ⟨z, hz, rfl⟩ : ∃ z, r[i]? = some z ∧ y = V.int z := by
          rw [List.getElem?_map] at hi
          obtain ⟨z, hz, e⟩ := Option.map_eq_some_iff.mp hi
          exact ⟨z, hz, e.symm⟩
        have hil : i < r.length := (List.getElem?_eq_some_iff.mp hz).1
        have edrop : r.drop i = z :: r.drop (i + 1) := by
          rw [List.drop_eq_getElem_cons hil]
          congr 1
          exact (List.getElem?_eq_some_iff.mp hz).2
        have p64 : (64 : Int) ^ i ≤ 4096 := by
          have : i ≤ 2 := by omega
          match i, this with
          | 0, _ => decide
          | 1, _ => decide
          | 2, _ => decide
        refine ⟨_, rfl, _, _, rfl, rfl, rfl, _, rfl, ite2 (fun q => ?_) (fun q => ?_)⟩
        · -- not a byte that goes on
          have q' : ¬ Builtin.bitAnd z 192 = 128 := by simpa using q
          have e : charNum n0 r = none := by rw [hc, edrop, charNum, if_neg q']
          have := kk (upd H p (.lst (r.map V.int))) sm
          rw [e] at this
          exact this
        · have q' : Builtin.bitAnd z 192 = 128 := by simpa using q
          have hm1 : 0 ≤ z % 64 := Int.emod_nonneg _ (by decide)
          have hm2 : z % 64 < 64 := Int.emod_lt_of_pos _ (by decide)
          refine ⟨_, rfl, _, _, rfl, rfl, .inl ⟨by omega, ?_⟩, _, rfl, _, _, rfl, rfl, (by show (0 : Int) < 64; decide), _, _, rfl, rfl, _, _, rfl, rfl, by omega, ?_, ?_⟩
          · show n < 2 ^ 64
            have : (2 : Int) ^ 64 = 18446744073709551616 := by decide
            omega
          · rw [Int.pow_succ]
            omega
          · rw [hc, edrop, charNum, if_pos q']
      · rintro σ H' ⟨n, v, rfl, rfl, hn0, hn1, hc⟩
        have hc' : charNum n0 r = some n := by
          rw [hc, List.length_map, List.drop_length, charNum]
        have kk' := kk (upd H p (.lst (r.map V.int))) sm
        rw [hc'] at kk'
        have kk' : Q (.bl (charOk (r.length + 1) n)) (upd H p (.lst (r.map V.int))) := kk'
        obtain ⟨lv, hlv, hat⟩ : ∃ lv, ([0, 0, 128, 2048, 65536] : List Int).getD (r.length + 1) 0 = lv ∧ atI [V.int 0, V.int 0, V.int 128, V.int 2048, V.int 65536] (((c :: r).map V.int).length : Int) = some (V.int lv) := by
          refine ⟨_, rfl, at_of (j := r.length + 1) (by simp) ?_⟩
          generalize r.length = m at hrl ⊢
          match m, hrl with
          | 0, _ => rfl
          | 1, _ => rfl
          | 2, _ => rfl
          | 3, _ => rfl
        unfold charOk at kk'
        rw [hlv] at kk'
        refine ⟨_, rfl, _, _, rfl, rfl, _, rfl, ite2 (fun q1 => ?_) (fun q1 => ?_)⟩
        · refine ⟨_, _, rfl, rfl, ?_⟩
          refine ⟨_, rfl, aL, _, _, _, rfl, rfl, sL _, hat, _, rfl, _, _, rfl, rfl, _, rfl, ite2 (fun q2 => ?_) (fun q2 => ?_)⟩
          · refine ⟨_, _, rfl, rfl, _, rfl, ite2 (fun q3 => ?_) (fun q3 => ?_)⟩
            · refine ⟨_, rfl, _, rfl, ?_⟩
              simp at q1 q2 q3
              simpa [q1, q2, q3] using kk'
            · simp at q1 q2 q3
              have : ¬ n ≤ 1114111 := by omega
              simpa [q1, q2, this] using kk'
          · refine ⟨_, rfl, iteF ?_⟩
            simp at q1 q2
            have : ¬ lv ≤ n := by omega
            simpa [this] using kk'
        · refine ⟨_, rfl, aL, _, _, _, rfl, rfl, sL _, hat, _, rfl, _, _, rfl, rfl, _, rfl, ite2 (fun q2 => ?_) (fun q2 => ?_)⟩
          · refine ⟨_, _, rfl, rfl, _, rfl, ite2 (fun q3 => ?_) (fun q3 => ?_)⟩
            · refine ⟨_, rfl, _, rfl, ?_⟩
              simp at q1 q2 q3
              have : ¬ 55296 ≤ n := by omega
              simpa [this, q2, q3] using kk'
            · simp at q1 q2 q3
              have : ¬ n ≤ 1114111 := by omega
              simpa [q2, this] using kk'
          · refine ⟨_, rfl, iteF ?_⟩
            simp at q1 q2
            have : ¬ lv ≤ n := by omega
            simpa [this] using kk'
    refine ⟨_, pss_cons (ps_set (i := 1) nd rfl (Or.inl rfl) (pe_callB call_len_seq rfl T.n_len PySem.boot_len (pa_cons (pv 0) pa_nil)))
      (pss_cons (ps_set (i := 2) nd rfl (Or.inl rfl) (pe_ifExp (pt_cmpR op_eq (pv 1) pe_int (nomark _)) (pe_ix ix_list (pv 0) pe_int (fun _ _ => rfl)) (pe_op op_and (pe_ix ix_list (pv 0) pe_int (fun _ _ => rfl)) (pe_op op_shr pe_int (pv 1))))) hR), ?_⟩
    have hc0 := hb c (List.mem_cons_self)
    refine ⟨_, rfl, a, _, rfl, .inl hS, _, rfl, rfl, _, rfl, ite2 (fun q => ?_) (fun q => ?_)⟩
    · have hr0 : r.length = 0 := by
        have q1 := of_decide_eq_true q
        injection q1 with q1
        simp at q1
        omega
      refine ⟨_, rfl, a, _, _, _, rfl, rfl, hS, atI_nat (j := 0) rfl, qR c hc0.1 (by omega) fun H' sm => ?_⟩
      have := k H' sm
      rw [isChar_cons, if_pos hr0] at this
      exact this
    · have hr0 : ¬ r.length = 0 := fun z => q (decide_eq_true (by simp [z]))
      have hbnd := bitAnd_bound c (127 / 2 ^ (r.length + 1)) hc0.1 (Int.ediv_nonneg (by decide) (Int.le_of_lt (Int.pow_pos (by decide))))
      refine ⟨_, rfl, a, _, _, _, rfl, rfl, hS, atI_nat (j := 0) rfl, _, rfl, _, _, rfl, rfl, ?_, _, _, rfl, rfl, ?_⟩
      · show (0 : Int) ≤ (((c :: r).map V.int).length : Nat)
        omega
      · have e : (127 : Int) / 2 ^ ((((c :: r).map V.int).length : Nat) : Int).toNat = 127 / 2 ^ (r.length + 1) := by simp
        rw [e]
        refine qR _ hbnd.1 (by omega) fun H' sm => ?_
        have := k H' sm
        rw [isChar_cons, if_neg hr0] at this
        exact this
end
end NP
end
section
set_option Elab.async false
set_option linter.all false
set_option maxRecDepth 100000
set_option maxHeartbeats 4000000
namespace NP
open PySem
abbrev oct (l : List Int) : List UInt8 := Sv68Neutral.octets l
def Byt (l : List Int) : Prop := ∀ n ∈ l, 0 ≤ n ∧ n ≤ 255
theorem oct_cons (c : Int) (r : List Int) : oct (c :: r) = UInt8.ofNat c.toNat :: oct r := rfl
theorem u8n {c : Int} (h : 0 ≤ c ∧ c ≤ 255) : (UInt8.ofNat c.toNat).toNat = c.toNat := by
  rw [UInt8.toNat_ofNat']
  omega
theorem and192 {b : Int} (h : 0 ≤ b ∧ b ≤ 255) : (Builtin.bitAnd b 192 = 128) ↔ (128 ≤ b ∧ b ≤ 191) := by
  have key : ∀ k : Fin 256, (k.val &&& 192 = 128) ↔ (128 ≤ k.val ∧ k.val ≤ 191) := by decide +kernel
  have e : Builtin.bitAnd b 192 = ((b.toNat &&& 192 : Nat) : Int) := PyProof.Rows.bitAnd_pp h.1 (by decide)
  have := key ⟨b.toNat, by omega⟩
  simp only at this
  rw [e]
  omega
def goU (c : UInt8) (lo hi : Nat) : Bool := decide (lo ≤ c.toNat) && decide (c.toNat ≤ hi)
theorem utf8_cons (a : UInt8) (r : List UInt8) : Wbk.utf8 (a :: r) =
    (if a.toNat < 0x80 then Wbk.utf8 r
    else if 0xC2 ≤ a.toNat ∧ a.toNat < 0xE0 then (match r with
      | b :: q => goU b 0x80 0xBF && Wbk.utf8 q
      | _ => false)
    else if 0xE0 ≤ a.toNat ∧ a.toNat < 0xF0 then (match r with
      | b :: c :: q => goU b (if a.toNat = 0xE0 then 0xA0 else 0x80) (if a.toNat = 0xED then 0x9F else 0xBF) && (goU c 0x80 0xBF && Wbk.utf8 q)
      | _ => false)
    else if 0xF0 ≤ a.toNat ∧ a.toNat < 0xF5 then (match r with
      | b :: c :: d :: q => goU b (if a.toNat = 0xF0 then 0x90 else 0x80) (if a.toNat = 0xF4 then 0x8F else 0xBF) && (goU c 0x80 0xBF && (goU d 0x80 0xBF && Wbk.utf8 q))
      | _ => false)
    else false) := by
  rw [Wbk.utf8.eq_def]
  rfl
theorem csize_1 {c : Int} (h : c < 128) : csize c = 1 := by unfold csize; rw [if_pos h]
theorem csize_0 {c : Int} (h : 128 ≤ c) (h2 : c < 192) : csize c = 0 := by unfold csize; rw [if_neg (by omega), if_pos h2]
theorem csize_2 {c : Int} (h : 192 ≤ c) (h2 : c < 224) : csize c = 2 := by unfold csize; rw [if_neg (by omega), if_neg (by omega), if_pos h2]
theorem csize_3 {c : Int} (h : 224 ≤ c) (h2 : c < 240) : csize c = 3 := by unfold csize; rw [if_neg (by omega), if_neg (by omega), if_neg (by omega), if_pos h2]
theorem csize_4 {c : Int} (h : 240 ≤ c) (h2 : c < 248) : csize c = 4 := by unfold csize; rw [if_neg (by omega), if_neg (by omega), if_neg (by omega), if_neg (by omega), if_pos h2]
theorem csize_9 {c : Int} (h : 248 ≤ c) : csize c = 0 := by unfold csize; rw [if_neg (by omega), if_neg (by omega), if_neg (by omega), if_neg (by omega), if_neg (by omega)]
theorem num_cons {n c : Int} {r : List Int} (h : 0 ≤ c ∧ c ≤ 255) : charNum n (c :: r) = if 128 ≤ c ∧ c ≤ 191 then charNum (n * 64 + c % 64) r else none := by
  rw [charNum]
  by_cases q : 128 ≤ c ∧ c ≤ 191
  · rw [if_pos q, if_pos ((and192 h).mpr q)]
  · rw [if_neg q, if_neg fun z => q ((and192 h).mp z)]
theorem goU_n {b : Int} (h : 0 ≤ b ∧ b ≤ 255) (lo hi : Nat) : goU (UInt8.ofNat b.toNat) lo hi = (decide ((lo : Int) ≤ b) && decide (b ≤ hi)) := by
  unfold goU
  rw [u8n h]
  congr 1
  · exact decide_eq_decide.mpr (by omega)
  · exact decide_eq_decide.mpr (by omega)
theorem bool_ext {a b : Bool} (h : a = true ↔ b = true) : a = b := by cases a <;> cases b <;> simp_all
theorem utf8_step {c : Int} {r : List Int} (hb : Byt (c :: r)) :
    (csize c = 0 ∨ (r.length : Int) + 1 < csize c → Wbk.utf8 (oct (c :: r)) = false) ∧
    (1 ≤ csize c → csize c ≤ (r.length : Int) + 1 → Wbk.utf8 (oct (c :: r)) = (isChar ((c :: r).take (csize c).toNat) && Wbk.utf8 (oct ((c :: r).drop (csize c).toNat)))) := by
  have hc := hb c List.mem_cons_self
  have hr : Byt r := fun n hn => hb n (List.mem_cons_of_mem _ hn)
  have U := utf8_cons (UInt8.ofNat c.toNat) (oct r)
  rw [u8n hc] at U
  rw [oct_cons]
  by_cases h1 : c < 128
  · rw [csize_1 h1]
    rw [if_pos (by omega)] at U
    refine ⟨by omega, fun _ _ => ?_⟩
    have : isChar [c] = true := by
      rw [isChar_cons]
      simp [charNum, charFin, charOk]
      omega
    show _ = (isChar [c] && _)
    rw [this, U]
    rfl
  rw [if_neg (by omega)] at U
  by_cases h2 : c < 192
  · rw [csize_0 (by omega) h2]
    rw [if_neg (by omega), if_neg (by omega), if_neg (by omega)] at U
    exact ⟨fun _ => U, by omega⟩
  by_cases h3 : c < 224
  · rw [csize_2 (by omega) h3]
    match r, hr, hb, U with
    | [], _, _, U =>
      refine ⟨fun _ => ?_, fun _ h => absurd h (by simp)⟩
      rw [U]
      by_cases q : 0xC2 ≤ c.toNat ∧ c.toNat < 0xE0
      · rw [if_pos q]
        rfl
      · rw [if_neg q, if_neg (by omega), if_neg (by omega)]
    | b :: q, hr, _, U =>
      have h0 := hr b List.mem_cons_self
      refine ⟨fun h => absurd h (by simp; omega), fun _ _ => ?_⟩
      show _ = (isChar [c, b] && Wbk.utf8 (oct q))
      have e : isChar [c, b] = (decide (194 ≤ c) && (decide (128 ≤ b) && decide (b ≤ 191))) := by
        have e1 : Builtin.bitAnd c (127 / 2 ^ ([b].length + 1)) = c % 32 := by
          rw [show (127 : Int) / 2 ^ ([b].length + 1) = 31 by simp]
          exact PyProof.Rows.bitAnd_m5 c
        rw [isChar_cons, if_neg (show ¬ [b].length = 0 by simp), e1, num_cons h0]
        apply bool_ext
        by_cases z : 128 ≤ b ∧ b ≤ 191
        · rw [if_pos z]
          simp [charNum, charFin, charOk]
          omega
        · rw [if_neg z]
          simp [charFin]
          omega
      rw [e, U, oct_cons]
      by_cases z : 0xC2 ≤ c.toNat ∧ c.toNat < 0xE0
      · rw [if_pos z]
        show (goU _ _ _ && _) = _
        rw [goU_n h0, decide_eq_true (show 194 ≤ c by omega)]
        rfl
      · rw [if_neg z, if_neg (by omega), if_neg (by omega), decide_eq_false (show ¬ 194 ≤ c by omega)]
        rfl
  by_cases h4 : c < 240
  · rw [csize_3 (by omega) h4]
    rw [if_neg (by omega), if_pos (by omega)] at U
    match r, hr, hb, U with
    | [], _, _, U => exact ⟨fun _ => U, fun _ h => absurd h (by simp)⟩
    | [_], _, _, U => exact ⟨fun _ => U, fun _ h => absurd h (by simp)⟩
    | b :: d :: q, hr, _, U =>
      have h0 := hr b (by simp)
      have hd := hr d (by simp)
      refine ⟨fun h => absurd h (by simp; omega), fun _ _ => ?_⟩
      show _ = (isChar [c, b, d] && Wbk.utf8 (oct q))
      have e : isChar [c, b, d] = ((decide (((if c.toNat = 0xE0 then 0xA0 else 0x80 : Nat) : Int) ≤ b) && decide (b ≤ ((if c.toNat = 0xED then 0x9F else 0xBF : Nat) : Int))) && (decide (128 ≤ d) && decide (d ≤ 191))) := by
        have e1 : Builtin.bitAnd c (127 / 2 ^ ([b, d].length + 1)) = c % 16 := by
          rw [show (127 : Int) / 2 ^ ([b, d].length + 1) = 15 by simp]
          exact PyProof.Rows.bitAnd_m4 c
        rw [isChar_cons, if_neg (show ¬ [b, d].length = 0 by simp), e1, num_cons h0, num_cons hd]
        apply bool_ext
        by_cases z : 128 ≤ b ∧ b ≤ 191
        · rw [if_pos z]
          by_cases y : 128 ≤ d ∧ d ≤ 191
          · rw [if_pos y]
            simp [charNum, charFin, charOk]
            split <;> split <;> omega
          · rw [if_neg y]
            simp [charFin]
            omega
        · rw [if_neg z]
          simp [charFin]
          split <;> split <;> omega
      rw [e, U, oct_cons, oct_cons]
      show (goU _ _ _ && (goU _ _ _ && _)) = _
      rw [goU_n h0, goU_n hd, ← Bool.and_assoc]
      rfl
  by_cases h5 : c < 248
  · rw [csize_4 (by omega) h5]
    rw [if_neg (by omega), if_neg (by omega)] at U
    match r, hr, hb, U with
    | [], _, _, U => exact ⟨fun _ => by rw [U]; split <;> rfl, fun _ h => absurd h (by simp)⟩
    | [_], _, _, U => exact ⟨fun _ => by rw [U]; split <;> rfl, fun _ h => absurd h (by simp)⟩
    | [_, _], _, _, U => exact ⟨fun _ => by rw [U]; split <;> rfl, fun _ h => absurd h (by simp)⟩
    | b :: d :: g :: q, hr, _, U =>
      have h0 := hr b (by simp)
      have hd := hr d (by simp)
      have hg := hr g (by simp)
      refine ⟨fun h => absurd h (by simp; omega), fun _ _ => ?_⟩
      show _ = (isChar [c, b, d, g] && Wbk.utf8 (oct q))
      have e : isChar [c, b, d, g] = (decide (c < 245) && ((decide (((if c.toNat = 0xF0 then 0x90 else 0x80 : Nat) : Int) ≤ b) && decide (b ≤ ((if c.toNat = 0xF4 then 0x8F else 0xBF : Nat) : Int))) && ((decide (128 ≤ d) && decide (d ≤ 191)) && (decide (128 ≤ g) && decide (g ≤ 191))))) := by
        have e1 : Builtin.bitAnd c (127 / 2 ^ ([b, d, g].length + 1)) = c % 8 := by
          rw [show (127 : Int) / 2 ^ ([b, d, g].length + 1) = 7 by simp]
          exact PyProof.Rows.bitAnd_m3 c
        rw [isChar_cons, if_neg (show ¬ [b, d, g].length = 0 by simp), e1, num_cons h0, num_cons hd, num_cons hg]
        apply bool_ext
        by_cases z : 128 ≤ b ∧ b ≤ 191
        · rw [if_pos z]
          by_cases y : 128 ≤ d ∧ d ≤ 191
          · rw [if_pos y]
            by_cases x : 128 ≤ g ∧ g ≤ 191
            · rw [if_pos x]
              simp [charNum, charFin, charOk]
              split <;> split <;> omega
            · rw [if_neg x]
              simp [charFin]
              omega
          · rw [if_neg y]
            simp [charFin]
            omega
        · rw [if_neg z]
          simp [charFin]
          split <;> split <;> omega
      rw [e, U, oct_cons, oct_cons, oct_cons]
      by_cases z : c < 245
      · rw [if_pos (by omega), decide_eq_true z]
        show (goU _ _ _ && (goU _ _ _ && (goU _ _ _ && _))) = _
        rw [goU_n h0, goU_n hd, goU_n hg]
        simp only [Bool.and_assoc, Bool.true_and]
        rfl
      · rw [if_neg (by omega), decide_eq_false z]
        rfl
  · rw [csize_9 (by omega)]
    rw [if_neg (by omega), if_neg (by omega), if_neg (by omega)] at U
    exact ⟨fun _ => U, by omega⟩
end NP
end
section
set_option Elab.async false
set_option linter.all false
set_option maxRecDepth 100000
set_option maxHeartbeats 1000000
namespace NP
open PySem PySem.Spec PyProof.Rows L2
theorem cutV_nat {xs : List V} {i j : Nat} (hij : i ≤ j) (hj : j ≤ xs.length) : cutV xs (some (i : Int)) (some (j : Int)) = (xs.drop i).take (j - i) := by
  unfold cutV
  rw [HT.sIx_nat, HT.sIx_nat, Nat.min_eq_left (Nat.le_trans hij hj), Nat.min_eq_left hj]
theorem Byt.drop {l : List Int} (h : Byt l) (i : Nat) : Byt (l.drop i) := fun n hn => h n (List.mem_of_mem_drop hn)
theorem Byt.take {l : List Int} (h : Byt l) (i : Nat) : Byt (l.take i) := fun n hn => h n (List.mem_of_mem_take hn)
theorem csize_le (c : Int) : 0 ≤ csize c ∧ csize c ≤ 4 := by
  unfold csize
  repeat' split
  all_goals omega
section
variable {P : Program} {w : World} {K : PySem.W.Frag} {mg : Str → Option Value} {base : Heap}
def spWell (K : PySem.W.Frag) : Sp := fun vs H Q _ => ∃ a ns, vs = [.ref a] ∧ SqL K H a (ns.map V.int) ∧ Byt ns ∧ ∀ H', Same H H' → Q (.bl (Wbk.utf8 (oct ns))) H'
abbrev sWell : Stmt := top 41
theorem scWell : FnScope ["codes", "at", "size"] ["codes"] (defScope sWell) := ⟨rfl, rfl, rfl, by decide +kernel, rfl, by decide +kernel, by decide +kernel⟩
theorem ok_well {f : Addr} {fd : FuncData} (T : TX P w K mg) (O_cs : Own P w K mg base CX0 1 "character_size" ["first"] spCsize) (O_ic : Own P w K mg base CX0 1 "is_character" ["codes"] (spIsChar K))
    (F : Fun K "is_well_made" "is_well_made" sWell f fd) : FnOk P w K mg base CX0 2 f fd ["codes"] (spWell K) := by
  refine F.ok scWell (fun vs H Q E h => ?_) (fun cdv A outer s H vs Q E hr h => ?_)
  · obtain ⟨a, ns, rfl, _⟩ := h
    rfl
  · obtain ⟨a, ns, rfl, hS, hb, k⟩ := h
    have nd := scWell.nd
    refine ⟨_, (pss_cons (ps_set (i := 1) nd rfl (Or.inl rfl) pe_int)
      (pss_cons (ps_while PassesOwn.never (pt_cmpR op_lt (pv 1) (pe_callB call_len_seq rfl T.n_len PySem.boot_len (pa_cons (pv 0) pa_nil)) (nomark _)) (pss_cons (ps_set (i := 2) nd rfl (Or.inl rfl) (pe_own O_cs (hr.mono (by decide)) pass0 (pa_cons (pe_ix ix_list (pv 0) (pv 1) (fun _ _ => rfl)) pa_nil)))
      (pss_cons (ps_if (PW.pt (pw_or (pt_cmpR op_eq (pv 2) pe_int (nomark _)) (pw_or (pt_cmpR op_gt (pe_op op_add (pv 1) (pv 2)) (pe_callB call_len_seq rfl T.n_len PySem.boot_len (pa_cons (pv 0) pa_nil)) (nomark _)) (pw_or1 (pt_not (pt_val (pe_own O_ic (hr.mono (by decide)) pass0 (pa_cons (pe_slice sl_list (pv 0) (po_some (pv 1)) (po_some (pe_op op_add (pv 1) (pv 2)))) pa_nil)))))))) (pss_one (ps_ret pe_bl)) pss_nil)
      (pss_one (ps_aug (i := 1) nd rfl (Or.inl rfl) (pv 2) ip_add)))))
      (pss_one (ps_ret pe_bl)))), ?_⟩
    refine while_by (fun σ H' => ∃ (j : Nat) (v : Option V), σ = [some (.ref a), some (.int j), v] ∧ Same H H' ∧ j ≤ ns.length ∧ Wbk.utf8 (oct ns) = Wbk.utf8 (oct (ns.drop j)))
      (fun σ _ => match σ with | [_, some (.int j), _] => ns.length - j.toNat | _ => 0) ⟨0, none, rfl, fun _ _ z => z, Nat.zero_le _, rfl⟩ ?_ ?_
    · rintro σ H' ⟨j, v, rfl, sm, hj, hu⟩
      have hS' := sm.seq hS
      refine ⟨_, rfl, _, rfl, a, _, rfl, .inl hS', _, _, rfl, rfl, _, rfl, ite2 (fun q => ?_) (fun q => ?_)⟩
      · have hlt : j < ns.length := by
          have := of_decide_eq_true q
          rw [List.length_map] at this
          omega
        obtain ⟨c, hc⟩ : ∃ c, ns[j]? = some c := ⟨_, List.getElem?_eq_getElem hlt⟩
        have ed : ns.drop j = c :: ns.drop (j + 1) := by
          rw [List.drop_eq_getElem_cons hlt]
          congr 1
          exact (List.getElem?_eq_some_iff.mp hc).2
        have hbd := hb.drop j
        rw [ed] at hbd hu
        obtain ⟨U0, U1⟩ := utf8_step hbd
        have hl : ((ns.drop (j + 1)).length : Int) + 1 = (ns.length : Int) - j := by
          rw [List.length_drop]
          omega
        rw [hl] at U0 U1
        have cl := csize_le c
        refine ⟨_, rfl, _, rfl, a, _, _, _, rfl, rfl, hS', atI_nat (j := j) (v := V.int c) (by rw [List.getElem?_map, hc]; rfl), c, rfl, ?_⟩
        refine ⟨_, rfl, rfl, _, rfl, ite2 (fun q0 => ?_) (fun q0 => ?_)⟩
        · have e0 : csize c = 0 := by
            have := of_decide_eq_true q0
            injection this
          refine iteT ?_
          have kk := k H' sm
          rw [hu, U0 (.inl e0)] at kk
          exact kk
        · have e0 : ¬ csize c = 0 := fun z => q0 (by rw [z]; rfl)
          refine ⟨_, rfl, _, rfl, _, _, rfl, rfl, _, rfl, a, _, rfl, .inl hS', _, _, rfl, rfl, _, rfl, ite2 (fun q1 => ?_) (fun q1 => ?_)⟩
          · have e1 : (ns.length : Int) < j + csize c := by
              have := of_decide_eq_true q1
              rw [List.length_map] at this
              exact this
            refine iteT ?_
            have kk := k H' sm
            rw [hu, U0 (.inr (by omega))] at kk
            exact kk
          · have e1 : (j : Int) + csize c ≤ ns.length := by
              have z : ¬ _ := fun z => q1 (decide_eq_true z)
              rw [List.length_map] at z
              omega
            have U2 := U1 (by omega) (by omega)
            obtain ⟨m, hm⟩ : ∃ m : Nat, csize c = (m : Int) := ⟨(csize c).toNat, by omega⟩
            rw [hm] at e1 e0 U2 cl ⊢
            rw [Int.toNat_natCast] at U2
            refine ⟨_, rfl, _, rfl, (j : Int), rfl, _, rfl, _, rfl, _, _, rfl, rfl, (j : Int) + m, rfl, a, _, rfl, hS', fun p hp => ?_⟩
            have ec : cutV (ns.map V.int) (some (j : Int)) (some ((j : Int) + m)) = ((c :: ns.drop (j + 1)).take m).map V.int := by
              have := cutV_nat (xs := ns.map V.int) (i := j) (j := j + m) (by omega) (by rw [List.length_map]; omega)
              rw [show ((j + m : Nat) : Int) = (j : Int) + m by omega] at this
              rw [this, ← ed, List.map_take, List.map_drop, Nat.add_sub_cancel_left]
            rw [ec]
            have sm2 : Same H' (upd H' p (.lst (((c :: ns.drop (j + 1)).take m).map V.int))) := fun b o e => by rw [upd_ne (ne_of_none e hp)]; exact e
            have lt : ((c :: ns.drop (j + 1)).take m).length = m := by
              rw [List.length_take, List.length_cons]
              have : (ns.drop (j + 1)).length + 1 = ns.length - j := by rw [List.length_drop]; omega
              omega
            refine ⟨p, _, rfl, SqL.of upd_same, by omega, by omega, hbd.take m, fun H2 sm3 => ?_⟩
            have smT : Same H H2 := (sm.trans sm2).trans sm3
            refine ⟨_, rfl, ite2 (fun q2 => ?_) (fun q2 => ?_)⟩
            · have e2 : isChar ((c :: ns.drop (j + 1)).take m) = false := by simpa using q2
              have kk := k H2 smT
              rw [hu, U2, e2] at kk
              exact kk
            · have e2 : isChar ((c :: ns.drop (j + 1)).take m) = true := by simpa using q2
              rw [e2, Bool.true_and] at U2
              refine ⟨_, rfl, _, rfl, _, _, rfl, rfl, ⟨j + m, some (V.int m), ?_, smT, by omega, ?_⟩, ?_⟩
              · show _ = [_, some (V.int ((j + m : Nat) : Int)), _]
                rw [show ((j + m : Nat) : Int) = (j : Int) + m by omega]
                rfl
              · rw [hu, U2, ← ed, List.drop_drop]
              · show ns.length - ((j : Int) + m).toNat < ns.length - (j : Int).toNat
                omega
      · have hge : ns.length ≤ j := by
          have z : ¬ _ := fun z => q (decide_eq_true z)
          rw [List.length_map] at z
          omega
        have kk := k H' sm
        rw [hu, List.drop_eq_nil_of_le hge] at kk
        exact kk
    · rintro σ H' Q1 Q2 hq ⟨v, e, v2, e2, a2, xs, e3, h4, i, i2, e5, e6, z, e7, q⟩
      exact ⟨v, e, v2, e2, a2, xs, e3, h4, i, i2, e5, e6, z, e7, hq _ _ q⟩
end
end NP
end
section
set_option Elab.async false
set_option linter.all false
set_option maxRecDepth 100000
set_option maxHeartbeats 1000000
namespace NP
open PySem PySem.Spec PyProof.Rows L2
def lowI (n : Int) : Int := if 65 ≤ n ∧ n ≤ 90 then n + 32 else n
def codesI (z : Str) : List Int := z.cps.toList.map fun (c : Nat) => (c : Int)
section
variable {P : Program} {w : World} {K : PySem.W.Frag} {mg : Str → Option Value} {base : Heap}
def spSmall : Sp := fun vs H Q _ => ∃ n, vs = [.int n] ∧ Q (.int (lowI n)) H
abbrev sSmall : Stmt := top 28
theorem scSmall : FnScope ["code"] ["code"] (defScope sSmall) := ⟨rfl, rfl, rfl, by decide +kernel, rfl, by decide +kernel, by decide +kernel⟩
theorem ok_small {f : Addr} {fd : FuncData} (T : TX P w K mg) (F : Fun K "small" "small" sSmall f fd) : FnOk P w K mg base CX0 1 f fd ["code"] spSmall := by
  refine F.ok scSmall (fun vs H Q E h => ?_) (fun cdv A outer s H vs Q E hr h => ?_)
  · obtain ⟨n, rfl, _⟩ := h
    rfl
  · obtain ⟨n, rfl, k⟩ := h
    refine ⟨_, (pss_one (ps_ret (pe_ifExp (pt_chain op_le op_le (pe_gi T.c_LARGE_A) (pv 0) (pe_gi T.c_LARGE_Z)) (pe_op op_add (pv 0) pe_int) (pv 0)))), ?_⟩
    unfold lowI at k
    refine ⟨_, rfl, _, _, rfl, rfl, _, rfl, ite2 (fun q1 => ?_) (fun q1 => ?_)⟩
    · have q1 := of_decide_eq_true q1
      refine ⟨_, _, rfl, rfl, _, rfl, ite2 (fun q2 => ?_) (fun q2 => ?_)⟩
      · have q2 := of_decide_eq_true q2
        rw [if_pos ⟨q1, q2⟩] at k
        exact ⟨_, rfl, _, _, rfl, rfl, k⟩
      · have q2 : ¬ n ≤ 90 := fun z => q2 (decide_eq_true z)
        rw [if_neg fun z => q2 z.2] at k
        exact ⟨_, rfl, k⟩
    · have q1 : ¬ 65 ≤ n := fun z => q1 (decide_eq_true z)
      rw [if_neg fun z => q1 z.1] at k
      exact ⟨_, rfl, iteF ⟨_, rfl, k⟩⟩
def spCodes : Sp := fun vs H Q _ => ∃ z, vs = [.str z] ∧ z.length ≤ 100 ∧ ∀ p, H p = none → Q (.ref p) (upd H p (.lst ((codesI z).map V.int)))
abbrev sCodes : Stmt := top 29
theorem scCodes : FnScope ["word", "sign"] ["word"] (defScope sCodes) := ⟨rfl, rfl, rfl, by decide +kernel, rfl, by decide +kernel, by decide +kernel⟩
theorem ok_codes {f : Addr} {fd : FuncData} (T : TX P w K mg) (F : Fun K "codes_of" "codes_of" sCodes f fd) : FnOk P w K mg base CX0 1 f fd ["word"] spCodes := by
  refine F.ok scCodes (fun vs H Q E h => ?_) (fun cdv A outer s H vs Q E hr h => ?_)
  · obtain ⟨n, rfl, _⟩ := h
    rfl
  · obtain ⟨z, rfl, hz, k⟩ := h
    have nd := scCodes.nd
    refine ⟨_, (pss_one (ps_ret (pe_lc rfl nd (pi_str (pv 0)) (blkOk_by (N := ["word", "sign"]) (sc := defScope sCodes) (own := [("sign", 1)]) (by decide +kernel)) (fun _ _ _ _ _ => pg_name (i := 1) nd rfl (Or.inl rfl) (.inr rfl)) (fun _ _ _ _ _ => pts_nil) (fun _ _ _ _ _ => (pe_callB call_ord rfl T.n_ord (by decide +kernel) (pa_cons (pv 1) pa_nil)))))), ?_⟩
    refine ⟨_, rfl, z, rfl, fun D hD => lc_plain (plain_str z) (fun i H' => H' = upd H D (.lst (((codesI z).take i).map V.int))) rfl ?_ ?_⟩
    · rintro i x H' hx rfl
      rw [List.getElem?_map] at hx
      obtain ⟨c, hc, rfl⟩ := Option.map_eq_some_iff.mp hx
      refine ⟨rfl, _, rfl, _, rfl, rfl, _, upd_same, ?_, ?_⟩
      · rw [List.length_map, List.length_take]
        have : (codesI z).length ≤ 100 := by unfold codesI; rw [List.length_map, Array.length_toList]; exact hz
        exact small1000 (by omega)
      · rw [upd_upd]
        have e : (codesI z).take (i + 1) = (codesI z).take i ++ [(c : Int)] := by
          rw [List.take_succ, show (codesI z)[i]? = some (c : Int) by unfold codesI; rw [List.getElem?_map, hc]; rfl]
          rfl
        rw [e, List.map_append]
        rfl
    · rintro H' rfl
      have e : (codesI z).take (z.cps.toList.map fun c => V.str ⟨#[c]⟩).length = codesI z := List.take_of_length_le (by unfold codesI; simp)
      rw [e]
      exact k D hD
end
end NP
end
section
set_option Elab.async false
set_option linter.all false
set_option maxRecDepth 100000
set_option maxHeartbeats 1000000
namespace NP
open PySem PySem.Spec PyProof.Rows L2
open Sv68 (isDigit lower)
abbrev Bytes := List UInt8
def bi (b : Bytes) : List Int := b.map fun c => (c.toNat : Int)
abbrev bv (b : Bytes) : List V := (bi b).map V.int
theorem bi_length (b : Bytes) : (bi b).length = b.length := List.length_map ..
theorem bv_length (b : Bytes) : (bv b).length = b.length := by simp [bi_length]
theorem bi_byt (b : Bytes) : Byt (bi b) := fun n hn => by
  obtain ⟨c, _, rfl⟩ := List.mem_map.mp hn
  have := c.toNat_lt
  omega
theorem oct_bi (b : Bytes) : oct (bi b) = b := by
  unfold oct Sv68Neutral.octets bi
  rw [List.map_map]
  conv => rhs; rw [← List.map_id b]
  refine List.map_congr_left fun c _ => ?_
  show UInt8.ofNat ((c.toNat : Int)).toNat = c
  rw [Int.toNat_natCast]
  exact UInt8.ofNat_toNat
theorem bi_oct {ns : List Int} (h : Byt ns) : bi (oct ns) = ns := by
  unfold oct Sv68Neutral.octets bi
  rw [List.map_map]
  conv => rhs; rw [← List.map_id ns]
  refine List.map_congr_left fun c hc => ?_
  show (((UInt8.ofNat c.toNat).toNat : Nat) : Int) = c
  rw [u8n (h c hc)]
  have := h c hc
  omega
theorem bi_inj {a b : Bytes} (h : bi a = bi b) : a = b := by rw [← oct_bi a, ← oct_bi b, h]
theorem bv_get {b : Bytes} {i : Nat} {c : UInt8} (h : b[i]? = some c) : (bv b)[i]? = some (V.int (c.toNat : Int)) := by
  unfold bv bi
  rw [List.getElem?_map, List.getElem?_map, h]
  rfl
theorem bv_got {b : Bytes} {i : Nat} {y : V} (h : (bv b)[i]? = some y) : ∃ c, b[i]? = some c ∧ y = V.int (c.toNat : Int) := by
  unfold bv bi at h
  rw [List.getElem?_map, List.getElem?_map] at h
  cases e : b[i]? with
  | none =>
    rw [e] at h
    cases h
  | some c =>
    rw [e] at h
    exact ⟨c, rfl, (Option.some.inj h).symm⟩
theorem cut_nat (xs : List V) (i j : Nat) : cutV xs (some (i : Int)) (some (j : Int)) = (xs.drop i).take (j - i) := by
  unfold cutV
  rw [HT.sIx_nat, HT.sIx_nat]
  by_cases hi : i ≤ xs.length
  · rw [Nat.min_eq_left hi]
    by_cases hj : j ≤ xs.length
    · rw [Nat.min_eq_left hj]
    · rw [Nat.min_eq_right (by omega), List.take_of_length_le (by simp), List.take_of_length_le (by simp; omega)]
  · rw [show min i xs.length = xs.length by omega, List.drop_of_length_le (Nat.le_refl _), List.drop_of_length_le (by omega)]
    simp
theorem cut_from (xs : List V) (i : Nat) : cutV xs (some (i : Int)) none = xs.drop i := by
  have h := cut_nat xs i xs.length
  have e : cutV xs (some (i : Int)) none = cutV xs (some (i : Int)) (some (xs.length : Int)) := by
    unfold cutV
    rw [HT.sIx_nat xs.length xs.length xs.length, Nat.min_self]
    rfl
  rw [e, h]
  exact List.take_of_length_le (by simp)
theorem cut_to (xs : List V) (j : Nat) : cutV xs none (some (j : Int)) = xs.take j := by
  have h := cut_nat xs 0 j
  have e : cutV xs none (some (j : Int)) = cutV xs (some ((0 : Nat) : Int)) (some (j : Int)) := by
    unfold cutV
    rw [HT.sIx_nat xs.length 0 0, Nat.zero_min]
    rfl
  rw [e, h]
  rfl
theorem bv_drop (b : Bytes) (i : Nat) : (bv b).drop i = bv (b.drop i) := by unfold bv bi; rw [List.map_drop, List.map_drop]
theorem bv_take (b : Bytes) (i : Nat) : (bv b).take i = bv (b.take i) := by unfold bv bi; rw [List.map_take, List.map_take]
theorem bcut (b : Bytes) (i j : Nat) : cutV (bv b) (some (i : Int)) (some (j : Int)) = bv ((b.drop i).take (j - i)) := by rw [cut_nat, bv_drop, bv_take]
theorem bcut_from (b : Bytes) (i : Nat) : cutV (bv b) (some (i : Int)) none = bv (b.drop i) := by rw [cut_from, bv_drop]
theorem bcut_to (b : Bytes) (j : Nat) : cutV (bv b) none (some (j : Int)) = bv (b.take j) := by rw [cut_to, bv_take]
theorem drop_get {α : Type} {b : List α} {i : Nat} {c : α} (h : b[i]? = some c) : b.drop i = c :: b.drop (i + 1) := by
  obtain ⟨hl, e⟩ := List.getElem?_eq_some_iff.mp h
  rw [List.drop_eq_getElem_cons hl, e]
theorem u8_eq {a b : UInt8} : a = b ↔ ((a.toNat : Int) = (b.toNat : Int)) := by
  rw [Int.ofNat_inj]
  exact ⟨fun h => by rw [h], UInt8.toNat_inj.mp⟩
theorem low_lower (c : UInt8) : lowI (c.toNat : Int) = ((lower c).toNat : Int) := by
  have key : ∀ k : Fin 256, lowI (k.val : Int) = ((lower (UInt8.ofNat k.val)).toNat : Int) := by decide +kernel
  have := key ⟨c.toNat, c.toNat_lt⟩
  simp only [UInt8.ofNat_toNat] at this
  exact this
theorem dig_iff (c : UInt8) : isDigit c = true ↔ (48 ≤ (c.toNat : Int) ∧ (c.toNat : Int) ≤ 57) := by
  unfold isDigit
  simp
  omega
section
variable {P : Program} {w : World} {K : PySem.W.Frag} {mg : Str → Option Value} {base : Heap}
def digEnd (b : Bytes) (i : Nat) : Nat := i + ((b.drop i).takeWhile isDigit).length
abbrev sEod : Stmt := top 30
def spEod (K : PySem.W.Frag) : Sp := fun vs H Q _ => ∃ a b, ∃ (i : Nat), vs = [.ref a, .int i] ∧ SqL K H a (bv b) ∧ i ≤ b.length ∧ Q (.int (digEnd b i)) H
theorem scEod : FnScope ["codes", "begin", "end"] ["codes", "begin"] (defScope sEod) := ⟨rfl, rfl, rfl, by decide +kernel, rfl, by decide +kernel, by decide +kernel⟩
theorem ok_eod {f : Addr} {fd : FuncData} (T : TX P w K mg) (F : Fun K "end_of_digits" "end_of_digits" sEod f fd) : FnOk P w K mg base CX0 1 f fd ["codes", "begin"] (spEod K) := by
  refine F.ok scEod (fun vs H Q E h => ?_) (fun cdv A outer s H vs Q E hr h => ?_)
  · obtain ⟨a, b, i, rfl, _⟩ := h
    rfl
  · obtain ⟨a, b, i, rfl, hS, hi, k⟩ := h
    have nd := scEod.nd
    refine ⟨_, (pss_cons (ps_set (i := 2) nd rfl (Or.inl rfl) (pv 1))
      (pss_cons (ps_while PassesOwn.never (PW.pt (pw_and (pt_cmpR op_lt (pv 2) (pe_callB call_len_seq rfl T.n_len PySem.boot_len (pa_cons (pv 0) pa_nil)) (nomark _)) (pw_and1 (pt_chain op_le op_le (pe_gi T.c_ZERO) (pe_ix ix_list (pv 0) (pv 2) (fun _ _ => rfl)) (pe_gi T.c_NINE))))) (pss_one (ps_aug (i := 2) nd rfl (Or.inl rfl) pe_int ip_add)))
      (pss_one (ps_ret (pv 2))))), ?_⟩
    refine ⟨_, rfl, ?_⟩
    refine ⟨fun m σ H' => ∃ j : Nat, σ = [some (.ref a), some (.int i), some (.int j)] ∧ H = H' ∧ j ≤ b.length ∧ digEnd b j = digEnd b i ∧ m = b.length - j, ⟨_, i, rfl, rfl, hi, rfl, rfl⟩, ?_⟩
    rintro m σ H' ⟨j, rfl, rfl, hj, hd, rfl⟩
    refine ⟨_, rfl, _, rfl, a, _, rfl, .inl hS, _, _, rfl, rfl, _, rfl, ite2 (fun q => ?_) (fun q => ?_)⟩
    · have hlt : j < b.length := by
        have := of_decide_eq_true q
        rw [bv_length] at this
        omega
      obtain ⟨c, hc⟩ : ∃ c, b[j]? = some c := ⟨_, List.getElem?_eq_getElem hlt⟩
      have ed := drop_get hc
      have stop : isDigit c = false → Q (.int j) H := fun z => by
        have : digEnd b j = j := by
          unfold digEnd
          rw [ed, List.takeWhile_cons, z]
          rfl
        rw [← hd, this] at k
        exact k
      refine ⟨_, rfl, _, rfl, a, _, _, _, rfl, rfl, hS, atI_nat (bv_get hc), _, _, rfl, rfl, _, rfl, ite2 (fun q1 => ?_) (fun q1 => ?_)⟩
      · have q1 : (48 : Int) ≤ c.toNat := of_decide_eq_true q1
        refine ⟨_, _, rfl, rfl, _, rfl, ite2 (fun q2 => ?_) (fun q2 => ?_)⟩
        · have q2 : (c.toNat : Int) ≤ 57 := of_decide_eq_true q2
          refine ⟨_, fun σ' H' z => z, _, rfl, _, _, rfl, rfl, b.length - (j + 1), by omega, j + 1, rfl, rfl, hlt, ?_, rfl⟩
          rw [← hd]
          unfold digEnd
          rw [ed, List.takeWhile_cons, if_pos ((dig_iff c).mpr ⟨q1, q2⟩), List.length_cons]
          omega
        · have q2 : ¬ (c.toNat : Int) ≤ 57 := fun z => q2 (decide_eq_true z)
          exact ⟨_, rfl, stop (by rw [Bool.eq_false_iff]; exact fun z => q2 ((dig_iff c).mp z).2)⟩
      · have q1 : ¬ (48 : Int) ≤ c.toNat := fun z => q1 (decide_eq_true z)
        exact ⟨_, rfl, iteF ⟨_, rfl, stop (by rw [Bool.eq_false_iff]; exact fun z => q1 ((dig_iff c).mp z).1)⟩⟩
    · have hge : b.length ≤ j := by
        have : ¬ (j : Int) < ((bv b).length : Int) := fun z => q (decide_eq_true z)
        rw [bv_length] at this
        omega
      refine iteF ⟨_, rfl, ?_⟩
      have : digEnd b j = j := by
        unfold digEnd
        rw [List.drop_of_length_le hge]
        rfl
      rw [← hd, this] at k
      exact k
abbrev sAred : Stmt := top 31
def areDig (b : Bytes) (lo hi : Nat) : Bool := decide (lo ≤ b.length) && (decide (b.length ≤ hi) && b.all isDigit)
def spAred (K : PySem.W.Frag) : Sp := fun vs H Q _ => ∃ a b, ∃ (lo hi : Nat), vs = [.ref a, .int lo, .int hi] ∧ SqL K H a (bv b) ∧ Q (.bl (areDig b lo hi)) H
theorem scAred : FnScope ["codes", "least", "most"] ["codes", "least", "most"] (defScope sAred) := ⟨rfl, rfl, rfl, by decide +kernel, rfl, by decide +kernel, by decide +kernel⟩
theorem takeWhile_all {α : Type} (p : α → Bool) : ∀ l : List α, (l.takeWhile p).length = l.length ↔ l.all p = true
  | [] => by simp
  | a :: l => by
    rw [List.takeWhile_cons, List.all_cons]
    cases h : p a with
    | true => simpa using takeWhile_all p l
    | false => simp
theorem ok_ared {f : Addr} {fd : FuncData} (T : TX P w K mg) (O_eod : Own P w K mg base CX0 1 "end_of_digits" ["codes", "begin"] (spEod K)) (F : Fun K "are_digits" "are_digits" sAred f fd) : FnOk P w K mg base CX0 2 f fd ["codes", "least", "most"] (spAred K) := by
  refine F.ok scAred (fun vs H Q E h => ?_) (fun cdv A outer s H vs Q E hr h => ?_)
  · obtain ⟨a, b, lo, hi, rfl, _⟩ := h
    rfl
  · obtain ⟨a, b, lo, hi, rfl, hS, k⟩ := h
    refine ⟨_, (pss_one (ps_ret (pe_and (pe_chain op_le op_le (pv 1) (pe_callB call_len_seq rfl T.n_len PySem.boot_len (pa_cons (pv 0) pa_nil)) (pv 2)) (pe_one (pe_cmpR op_eq (pe_own O_eod (hr.mono (by decide)) pass0 (pa_cons (pv 0) (pa_cons pe_int pa_nil))) (pe_callB call_len_seq rfl T.n_len PySem.boot_len (pa_cons (pv 0) pa_nil)) (nomark _)))))), ?_⟩
    unfold areDig at k
    refine ⟨_, rfl, _, rfl, a, _, rfl, .inl hS, _, _, rfl, rfl, _, rfl, ite2 (fun q => ?_) (fun q => ?_)⟩
    · have q1 : lo ≤ b.length := by
        have := of_decide_eq_true q
        rw [bv_length] at this
        omega
      rw [decide_eq_true q1, Bool.true_and] at k
      refine ⟨_, rfl, _, _, rfl, rfl, _, rfl, ite2 (fun q => ?_) (fun q => ?_)⟩
      · have q2 : b.length ≤ hi := by
          have := of_decide_eq_true q
          rw [bv_length] at this
          omega
        rw [decide_eq_true q2, Bool.true_and] at k
        refine ⟨_, rfl, a, b, 0, rfl, hS, Nat.zero_le _, _, rfl, a, _, rfl, .inl hS, rfl, ?_⟩
        have e : decide (V.int ((digEnd b 0 : Nat) : Int) = V.int (((bv b).length : Nat) : Int)) = b.all isDigit := by
          rw [Bool.eq_iff_iff, decide_eq_true_iff, ← takeWhile_all, bv_length]
          unfold digEnd
          rw [List.drop_zero, Nat.zero_add]
          exact ⟨fun z => Int.ofNat_inj.mp (V.int.inj z), fun z => by rw [z]⟩
        rw [← e] at k
        exact k
      · have q2 : ¬ b.length ≤ hi := fun z => q (decide_eq_true (by rw [bv_length]; omega))
        rw [decide_eq_false q2, Bool.false_and] at k
        exact k
    · have q1 : ¬ lo ≤ b.length := fun z => q (decide_eq_true (by rw [bv_length]; omega))
      rw [decide_eq_false q1, Bool.false_and] at k
      exact ⟨_, rfl, iteF k⟩
abbrev sNumof : Stmt := top 33
def spNumof (K : PySem.W.Frag) : Sp := fun vs H Q _ => ∃ a b, vs = [.ref a] ∧ SqL K H a (bv b) ∧ b.all isDigit = true ∧ Q (.int (Sv68.number b)) H
theorem scNumof : FnScope ["digits", "number", "digit"] ["digits"] (defScope sNumof) := ⟨rfl, rfl, rfl, by decide +kernel, rfl, by decide +kernel, by decide +kernel⟩
theorem number_snoc (b : Bytes) (c : UInt8) : Sv68.number (b ++ [c]) = 10 * Sv68.number b + (c.toNat - 48) := by
  unfold Sv68.number
  rw [List.foldl_append]
  rfl
theorem take_snoc {α : Type} {l : List α} {i : Nat} {x : α} (h : l[i]? = some x) : l.take (i + 1) = l.take i ++ [x] := by
  rw [List.take_succ, h]
  rfl
theorem ok_numof {f : Addr} {fd : FuncData} (T : TX P w K mg) (F : Fun K "number_of" "number_of" sNumof f fd) : FnOk P w K mg base CX0 1 f fd ["digits"] (spNumof K) := by
  refine F.ok scNumof (fun vs H Q E h => ?_) (fun cdv A outer s H vs Q E hr h => ?_)
  · obtain ⟨a, b, rfl, _⟩ := h
    rfl
  · obtain ⟨a, b, rfl, hS, hd, k⟩ := h
    have nd := scNumof.nd
    refine ⟨_, (pss_cons (ps_set (i := 1) nd rfl (Or.inl rfl) pe_int)
      (pss_cons (ps_for PassesOwn.never rfl (pi_list (pv 0)) (pg_name (i := 2) nd rfl (Or.inl rfl)) (pss_one (ps_set (i := 1) nd rfl (Or.inl rfl) (pe_op op_sub (pe_op op_add (pe_op op_mul (pv 1) pe_int) (pv 2)) (pe_gi T.c_ZERO)))))
      (pss_one (ps_ret (pv 1))))), ?_⟩
    refine ⟨_, rfl, a, rfl, ⟨_, hS⟩, for_list (K := K) (a := a) (xs := bv b) (fun i σ H' => ∃ v : Option V, σ = [some (.ref a), some (.int (Sv68.number (b.take i) : Nat)), v] ∧ H = H') ⟨none, rfl, rfl⟩ (fun i σ H' _ ⟨_, _, e⟩ => e ▸ hS) ?_ ?_⟩
    · rintro i y σ H' hy ⟨v, rfl, rfl⟩
      obtain ⟨c, hc, rfl⟩ := bv_got hy
      have hdc := (dig_iff c).mp (List.all_eq_true.mp hd c (List.mem_of_getElem? hc))
      refine ⟨_, rfl, _, _, rfl, rfl, .inr ⟨by decide, by decide⟩, _, rfl, _, _, rfl, rfl, _, _, rfl, rfl, some (V.int c.toNat), ?_, rfl⟩
      rw [take_snoc hc, number_snoc]
      show [some (V.ref a), some (V.int ((Sv68.number (b.take i) : Int) * 10 + c.toNat - 48)), some (V.int c.toNat)] = _
      rw [show (Sv68.number (b.take i) : Int) * 10 + c.toNat - 48 = ((10 * Sv68.number (b.take i) + (c.toNat - 48) : Nat) : Int) by omega]
    · rintro σ H' ⟨v, rfl, rfl⟩
      rw [List.take_of_length_le (by rw [bv_length]; exact Nat.le_refl _)]
      exact ⟨_, rfl, k⟩
end
end NP
end
section
set_option Elab.async false
set_option linter.all false
set_option maxRecDepth 100000
set_option maxHeartbeats 1000000
namespace NP
open PySem PySem.Spec PyProof.Rows L2
open Sv68 (isDigit lower)
theorem split_cons (p : UInt8 → Bool) (x : UInt8) (xs : Bytes) : List.splitOnP p (x :: xs) = if p x = true then [] :: List.splitOnP p xs else List.modifyHead (List.cons x) (List.splitOnP p xs) := List.splitOnP_cons_eq_if_modifyHead ..
theorem split_free {c : UInt8} : ∀ {t : Bytes}, (∀ x ∈ t, x ≠ c) → t.splitOn c = [t]
  | [], _ => List.splitOn_nil c
  | x :: t, h => by
    have hx := h x List.mem_cons_self
    have ih : List.splitOnP (fun y => y == c) t = [t] := split_free (c := c) (t := t) fun y hy => h y (List.mem_cons_of_mem _ hy)
    show List.splitOnP (fun y => y == c) (x :: t) = _
    rw [split_cons, if_neg (by simpa using hx), ih]
    rfl
theorem split_at {c : UInt8} {r : Bytes} : ∀ {t : Bytes}, (∀ x ∈ t, x ≠ c) → (t ++ c :: r).splitOn c = t :: r.splitOn c
  | [], _ => by
    show List.splitOnP (fun y => y == c) (c :: r) = _
    rw [split_cons, if_pos (by simp)]
    rfl
  | x :: t, h => by
    have hx := h x List.mem_cons_self
    have ih : List.splitOnP (fun y => y == c) (t ++ c :: r) = t :: r.splitOn c := split_at (c := c) (t := t) fun y hy => h y (List.mem_cons_of_mem _ hy)
    show List.splitOnP (fun y => y == c) (x :: (t ++ c :: r)) = _
    rw [split_cons, if_neg (by simpa using hx), ih]
    rfl
theorem split_len {c : UInt8} : ∀ b : Bytes, (b.splitOn c).length ≤ b.length + 1
  | [] => by rw [List.splitOn_nil]; simp
  | x :: t => by
    have ih : (List.splitOnP (fun y => y == c) t).length ≤ t.length + 1 := split_len (c := c) t
    show (List.splitOnP (fun y => y == c) (x :: t)).length ≤ _
    rw [split_cons]
    split
    · simpa using ih
    · rw [List.length_modifyHead]
      simp
      omega
section
variable {P : Program} {w : World} {K : PySem.W.Frag} {mg : Str → Option Value} {base : Heap}
abbrev sPower : Stmt := top 61
theorem scPower : FnScope ["base", "exponent", "result", "step"] ["base", "exponent"] (defScope sPower) := ⟨rfl, rfl, rfl, by decide +kernel, rfl, by decide +kernel, by decide +kernel⟩
def spPower : Sp := fun vs H Q _ => ∃ (x : Int) (e : Nat), vs = [.int x, .int e] ∧ 0 ≤ x ∧ x < 2 ^ 64 ∧ e < 1000 ∧ Q (.int (x ^ e)) H
theorem ok_power {f : Addr} {fd : FuncData} (T : TX P w K mg) (F : Fun K "power" "power" sPower f fd) : FnOk P w K mg base CX0 1 f fd ["base", "exponent"] spPower := by
  refine F.ok scPower (fun vs H Q E h => ?_) (fun cdv A outer s H vs Q E hr h => ?_)
  · obtain ⟨x, e, rfl, _⟩ := h
    rfl
  · obtain ⟨x, e, rfl, h0, h1, he, k⟩ := h
    have nd := scPower.nd
    refine ⟨_, (pss_cons (ps_set (i := 2) nd rfl (Or.inl rfl) pe_int)
      (pss_cons (ps_for PassesOwn.never rfl (pi_range1 rfl T.n_range (pa_cons (pv 1) pa_nil)) (pg_name (i := 3) nd rfl (Or.inl rfl)) (pss_one (ps_aug (i := 2) nd rfl (Or.inl rfl) (pv 0) iop_mul)))
      (pss_one (ps_ret (pv 2))))), ?_⟩
    refine ⟨_, rfl, (e : Int), rfl, by omega, by omega, ?_⟩
    refine for_range (fun i σ H' => ∃ v, H = H' ∧ σ = [some (.int x), some (.int e), some (.int (x ^ i)), v]) ⟨none, rfl, by rw [Int.pow_zero]; rfl⟩ ?_ ?_
    · rintro i σ H' hi ⟨v, rfl, rfl⟩
      refine ⟨_, rfl, _, rfl, _, _, rfl, rfl, .inr ⟨by omega, h1⟩, some (V.int (0 + (i : Int))), rfl, ?_⟩
      rw [Int.pow_succ]
      rfl
    · rintro σ H' ⟨v, rfl, rfl⟩
      refine ⟨_, rfl, ?_⟩
      rw [Int.toNat_natCast]
      exact k
abbrev sParted : Stmt := top 32
theorem scParted : FnScope ["codes", "sign", "parts", "begin", "at", "code"] ["codes", "sign"] (defScope sParted) := ⟨rfl, rfl, rfl, by decide +kernel, rfl, by decide +kernel, by decide +kernel⟩
def ListsAt (H : Hp) (qs : List Addr) (ls : List Bytes) : Prop := A2 (fun q l => H q = some (.lst (bv l))) qs ls
theorem ListsAt.same {H H' : Hp} {qs : List Addr} {ls : List Bytes} (s : Same H H') (h : ListsAt H qs ls) : ListsAt H' qs ls := A2.imp (fun _ _ e => s _ _ e) h
def spParted (K : PySem.W.Frag) : Sp := fun vs H Q _ => ∃ a b, ∃ (c : UInt8), vs = [.ref a, .int c.toNat] ∧ SqL K H a (bv b) ∧ b.length ≤ 70000 ∧ ∀ (p : Addr) (H' : Hp) (qs : List Addr), Same H H' → H' p = some (.lst (qs.map V.ref)) → ListsAt H' qs (b.splitOn c) → Q (.ref p) H'
theorem ok_parted {f : Addr} {fd : FuncData} (T : TX P w K mg) (F : Fun K "parted" "parted" sParted f fd) : FnOk P w K mg base CX0 1 f fd ["codes", "sign"] (spParted K) := by
  refine F.ok scParted (fun vs H Q E h => ?_) (fun cdv A outer s H vs Q E hr h => ?_)
  · obtain ⟨a, b, c, rfl, _⟩ := h
    rfl
  · obtain ⟨a, b, c, rfl, hS, hlen, k⟩ := h
    have nd := scParted.nd
    refine ⟨_, (pss_cons (ps_set (i := 2) nd rfl (Or.inl rfl) (pe_lst pa_nil))
      (pss_cons (ps_set (i := 3) nd rfl (Or.inl rfl) pe_int)
      (pss_cons (ps_for PassesOwn.never rfl (pi_enum rfl T.n_enumerate (pa_cons (pv 0) pa_nil)) (pg_tup rfl (pgs_cons (pg_name (i := 4) nd rfl (Or.inl rfl)) (pgs_cons (pg_name (i := 5) nd rfl (Or.inl rfl)) pgs_nil))) (pss_one (ps_if (pt_cmpR op_eq (pv 5) (pv 1) (nomark _)) (pss_cons (ps_expr (pe_bm PySem.F.plainAttrs_list PySem.F.slot_list_append PySem.F.type_list_append mt_append (pv 2) (pa_cons (pe_slice sl_list (pv 0) (po_some (pv 3)) (po_some (pv 4))) pa_nil)))
      (pss_one (ps_set (i := 3) nd rfl (Or.inl rfl) (pe_op op_add (pv 4) pe_int)))) pss_nil)))
      (pss_cons (ps_expr (pe_bm PySem.F.plainAttrs_list PySem.F.slot_list_append PySem.F.type_list_append mt_append (pv 2) (pa_cons (pe_slice sl_list (pv 0) (po_some (pv 3)) po_none) pa_nil)))
      (pss_one (ps_ret (pv 2))))))), ?_⟩
    refine ⟨Nat.zero_le _, fun p hp => ?_⟩
    refine ⟨_, rfl, a, _, rfl, (Same.upd hp).seq hS, for_enum (K := K) (a := a) (xs := bv b) (fun i σ H' => ∃ (g : Nat) (qs : List Addr) (ls : List Bytes) (v4 v5 : Option V), σ = [some (.ref a), some (.int c.toNat), some (.ref p), some (.int g), v4, v5] ∧ Same H H' ∧ H' p = some (.lst (qs.map V.ref)) ∧
        A2 (fun q l => q ≠ p ∧ H' q = some (.lst (bv l))) qs ls ∧ g ≤ i ∧ (∀ x ∈ (b.drop g).take (i - g), x ≠ c) ∧ b.splitOn c = ls ++ (b.drop g).splitOn c ∧ qs.length ≤ i)
      ⟨0, [], [], none, none, rfl, Same.upd hp, upd_same, .nil, Nat.le_refl _, by simp, rfl, Nat.le_refl _⟩ (fun i σ H' _ ⟨_, _, _, _, _, _, sm, _⟩ => sm.seq hS) ?_ ?_⟩
    · rintro i y σ H' T' hy ⟨g, qs, ls, v4, v5, rfl, sm, hpl, hA, hg, hf, hs, hq⟩ hT
      obtain ⟨x, hx, rfl⟩ := bv_got hy
      have hil : i < b.length := (List.getElem?_eq_some_iff.mp hx).1
      refine ⟨T', _, rfl, SqT.of upd_same, rfl, _, _, rfl, _, _, rfl, rfl, ?_⟩
      have sT : Same H' (upd H' T' (.tup [.int (i : Nat), .int x.toNat])) := Same.upd hT
      have sm' := sm.trans sT
      refine ⟨_, rfl, _, rfl, rfl, _, rfl, ite2 (fun q => ?_) (fun q => ?_)⟩
      · have exc : x = c := u8_eq.mpr (V.int.inj (of_decide_eq_true q))
        subst exc
        have ep : ((b.drop g).take (i - g)) ++ x :: b.drop (i + 1) = b.drop g := by
          have := List.take_append_drop (i - g) (b.drop g)
          rw [List.drop_drop, show g + (i - g) = i by omega, drop_get hx] at this
          exact this
        have es : (b.drop g).splitOn x = (b.drop g).take (i - g) :: (b.drop (i + 1)).splitOn x := by
          conv => lhs; rw [← ep]
          exact split_at hf
        refine ⟨_, rfl, .inl ⟨rfl, _, SqL.of (sT _ _ hpl)⟩, _, rfl, _, rfl, (g : Int), rfl, _, rfl, (i : Int), rfl, a, _, rfl, sm'.seq hS, fun q hqn => ?_⟩
        rw [bcut]
        have pq : p ≠ q := ne_of_none (sT _ _ hpl) hqn
        refine ⟨p, _, _, rfl, rfl, (by rw [upd_ne pq]; exact sT _ _ hpl), (by rw [List.length_map]; show _ < 2 ^ 24; omega), ?_⟩
        refine ⟨_, rfl, _, _, rfl, rfl, i + 1, qs ++ [q], ls ++ [(b.drop g).take (i - g)], _, _, rfl, ?_, ?_, ?_, by omega, by simp, ?_, ?_⟩
        · exact ((sm'.trans (Same.upd hqn)).off hp)
        · rw [upd_same, List.map_append]
          rfl
        · refine A2.snoc ⟨Ne.symm pq, ?_⟩ (A2.imp (fun q' l' h' => ⟨h'.1, ?_⟩) hA)
          · rw [upd_ne (Ne.symm pq), upd_same]
          · rw [upd_ne h'.1]
            exact (Same.upd hqn) _ _ (sT _ _ h'.2)
        · rw [hs, es, List.append_assoc]
          rfl
        · rw [List.length_append]
          exact Nat.succ_le_succ hq
      · have exc : x ≠ c := fun e => q (decide_eq_true (by rw [e]))
        refine ⟨g, qs, ls, _, _, rfl, sm', sT _ _ hpl, A2.imp (fun q' l' h' => ⟨h'.1, sT _ _ h'.2⟩) hA, by omega, ?_, hs, by omega⟩
        intro z hz
        have e1 : i + 1 - g = (i - g) + 1 := by omega
        have e2 : (b.drop g)[i - g]? = some x := by
          rw [List.getElem?_drop, show g + (i - g) = i by omega]
          exact hx
        rw [e1, take_snoc e2, List.mem_append] at hz
        rcases hz with hz | hz
        · exact hf z hz
        · rw [List.mem_singleton] at hz
          rw [hz]
          exact exc
    · rintro σ H' ⟨g, qs, ls, v4, v5, rfl, sm, hpl, hA, hg, hf, hs, hq⟩
      rw [bv_length] at hg hf hq
      have ef : (b.drop g).take (b.length - g) = b.drop g := List.take_of_length_le (by simp)
      rw [ef] at hf
      refine ⟨_, rfl, .inl ⟨rfl, _, SqL.of hpl⟩, _, rfl, _, rfl, (g : Int), rfl, a, _, rfl, sm.seq hS, fun q hqn => ?_⟩
      rw [bcut_from]
      have pq : p ≠ q := ne_of_none hpl hqn
      refine ⟨p, _, _, rfl, rfl, (by rw [upd_ne pq]; exact hpl), (by rw [List.length_map]; show _ < 2 ^ 24; omega), ?_⟩
      refine ⟨_, rfl, k p _ (qs ++ [q]) ((sm.trans (Same.upd hqn)).off hp) (by rw [upd_same, List.map_append]; rfl) ?_⟩
      rw [hs, split_free hf]
      refine A2.snoc ?_ (A2.imp (fun q' l' h' => ?_) hA)
      · rw [upd_ne (Ne.symm pq), upd_same]
      · rw [upd_ne h'.1]
        exact (Same.upd hqn) _ _ h'.2
end
end NP
end
section
set_option Elab.async false
set_option linter.all false
set_option maxRecDepth 100000
set_option maxHeartbeats 1000000
namespace NP
open PySem PySem.Spec PyProof.Rows L2
open Sv68 (yearStart monthStart monthDays dayOf dateOf LASTDAY leap)
def leapI (y : Int) : Bool := decide (y % 4 = 0) && (!decide (y % 100 = 0) || decide (y % 400 = 0))
theorem leapI_nat (y : Nat) : leapI (y : Int) = leap y := by
  rw [Bool.eq_iff_iff, DY.leap_iff]
  unfold leapI
  simp
  omega
def yI (y : Int) : Int := 365 * (y - 1900) + ((y - 1) / 4 - (y - 1) / 100 + (y - 1) / 400) - 460
theorem yI_nat {y : Nat} (h : 1900 ≤ y) : yI (y : Int) = (yearStart y : Int) := by
  unfold yI yearStart
  omega
section
variable {P : Program} {w : World} {K : PySem.W.Frag} {mg : Str → Option Value} {base : Heap}
def MLENS : List Int := [31, 28, 31, 30, 31, 30, 31, 31, 30, 31, 30, 31]
def spLeap : Sp := fun vs H Q _ => ∃ y : Int, vs = [.int y] ∧ Q (.bl (leapI y)) H
def spMlen : Sp := fun vs H Q _ => ∃ (y : Int) (m : Nat), vs = [.int y, .int m] ∧ 0 ≤ y ∧ 1 ≤ m ∧ m ≤ 12 ∧ Q (.int (monthDays y.toNat m)) H
def spLyb : Sp := fun vs H Q _ => ∃ y : Int, vs = [.int y] ∧ Q (.int ((y - 1) / 4 - (y - 1) / 100 + (y - 1) / 400)) H
def spFirst : Sp := fun vs H Q _ => ∃ y : Int, vs = [.int y] ∧ Q (.int (yI y + 1)) H
abbrev sLeap : Stmt := top 5
abbrev sMlen : Stmt := top 6
abbrev sLyb : Stmt := top 7
abbrev sFirst : Stmt := top 8
theorem scLeap : FnScope ["year"] ["year"] (defScope sLeap) := ⟨rfl, rfl, rfl, by decide +kernel, rfl, by decide +kernel, by decide +kernel⟩
theorem ok_leap {f : Addr} {fd : FuncData} (F : Fun K "is_leap_year" "is_leap_year" sLeap f fd) : FnOk P w K mg base CX0 1 f fd ["year"] spLeap := by
  refine F.ok scLeap (fun vs H Q E h => ?_) (fun cdv A outer s H vs Q E hr h => ?_)
  · obtain ⟨n, rfl, _⟩ := h
    rfl
  · obtain ⟨y, rfl, k⟩ := h
    refine ⟨_, (pss_one (ps_ret (pe_and (pe_cmpR op_eq (pe_op op_mod (pv 0) pe_int) pe_int (nomark _)) (pe_one (pe_or (pe_cmpR op_ne (pe_op op_mod (pv 0) pe_int) pe_int (nomark _)) (pe_one (pe_cmpR op_eq (pe_op op_mod (pv 0) pe_int) pe_int (nomark _)))))))), ?_⟩
    unfold leapI at k
    refine ⟨_, rfl, _, _, rfl, rfl, (by show (0 : Int) < _; decide), rfl, _, rfl, ite2 (fun q => ?_) (fun q => ?_)⟩
    · have q1 : y % 4 = 0 := by simpa using q
      refine ⟨_, rfl, _, _, rfl, rfl, (by show (0 : Int) < _; decide), rfl, _, rfl, ite2 (fun q => ?_) (fun q => ?_)⟩
      · have q2 : ¬ y % 100 = 0 := by simpa using q
        simpa [q1, q2] using k
      · have q2 : y % 100 = 0 := by simpa using q
        refine ⟨_, rfl, _, _, rfl, rfl, (by show (0 : Int) < _; decide), rfl, ?_⟩
        simpa [q1, q2] using k
    · have q1 : ¬ y % 4 = 0 := by simpa using q
      simpa [q1] using k
theorem scMlen : FnScope ["year", "month"] ["year", "month"] (defScope sMlen) := ⟨rfl, rfl, rfl, by decide +kernel, rfl, by decide +kernel, by decide +kernel⟩
theorem mlens_at : ∀ {m : Nat}, 1 ≤ m → m ≤ 12 → ∃ z : Int, MLENS[m - 1]? = some z ∧ ∀ y : Nat, ¬ (m = 2 ∧ leap y = true) → z = (monthDays y m : Int)
  | 1, _, _ => ⟨_, rfl, fun y _ => rfl⟩
  | 2, _, _ => ⟨_, rfl, fun y h => by unfold monthDays; rw [if_pos rfl, if_neg fun z => h ⟨rfl, z⟩]; rfl⟩
  | 3, _, _ => ⟨_, rfl, fun y _ => rfl⟩
  | 4, _, _ => ⟨_, rfl, fun y _ => rfl⟩
  | 5, _, _ => ⟨_, rfl, fun y _ => rfl⟩
  | 6, _, _ => ⟨_, rfl, fun y _ => rfl⟩
  | 7, _, _ => ⟨_, rfl, fun y _ => rfl⟩
  | 8, _, _ => ⟨_, rfl, fun y _ => rfl⟩
  | 9, _, _ => ⟨_, rfl, fun y _ => rfl⟩
  | 10, _, _ => ⟨_, rfl, fun y _ => rfl⟩
  | 11, _, _ => ⟨_, rfl, fun y _ => rfl⟩
  | 12, _, _ => ⟨_, rfl, fun y _ => rfl⟩
  | m + 13, _, h => by omega
theorem ok_mlen {f : Addr} {fd : FuncData} (T : TX P w K mg) (O_leap : Own P w K mg base CX0 1 "is_leap_year" ["year"] spLeap) (F : Fun K "month_length" "month_length" sMlen f fd) : FnOk P w K mg base CX0 2 f fd ["year", "month"] spMlen := by
  refine F.ok scMlen (fun vs H Q E h => ?_) (fun cdv A outer s H vs Q E hr h => ?_)
  · obtain ⟨y, m, rfl, _⟩ := h
    rfl
  · obtain ⟨y, m, rfl, h0, h1, h2, k⟩ := h
    obtain ⟨aM, gM, sM⟩ := T.c_MONTH_LENGTHS
    refine ⟨_, (pss_cons (ps_if (PW.pt (pw_and (pt_cmpR op_eq (pv 1) (pe_gi T.c_FEBRUARY) (nomark _)) (pw_and1 (pt_val (pe_own O_leap (hr.mono (by decide)) pass0 (pa_cons (pv 0) pa_nil)))))) (pss_one (ps_ret pe_int)) pss_nil)
      (pss_one (ps_ret (pe_ix ix_tup (pe_gr gM) (pe_op op_sub (pv 1) pe_int) (fun _ _ => rfl))))), ?_⟩
    obtain ⟨y, rfl⟩ : ∃ y' : Nat, y = (y' : Int) := ⟨y.toNat, by omega⟩
    rw [Int.toNat_natCast] at k
    obtain ⟨z, hz, hm⟩ := mlens_at h1 h2
    have at1 : atI (MLENS.map V.int) ((m : Int) - 1) = some (V.int z) := at_of (j := m - 1) (by omega) (by rw [List.getElem?_map, hz]; rfl)
    refine ⟨_, rfl, rfl, _, rfl, ite2 (fun q => ?_) (fun q => ?_)⟩
    · have q1 : m = 2 := by have := of_decide_eq_true q; have e := V.int.inj this; omega
      refine ⟨_, rfl, _, rfl, _, rfl, ite2 (fun q => ?_) (fun q => ?_)⟩
      · have q2 : leap y = true := by rw [← leapI_nat]; exact q
        have e : monthDays y m = 29 := by unfold monthDays; rw [if_pos q1, if_pos q2]
        rw [e] at k
        exact k
      · have q2 : ¬ leap y = true := by rw [← leapI_nat]; exact q
        refine ⟨_, rfl, _, _, rfl, rfl, aM, _, _, _, rfl, rfl, sM _, at1, ?_⟩
        rw [← hm y fun z => q2 z.2] at k
        exact k
    · have q1 : ¬ m = 2 := fun e => q (by subst e; rfl)
      refine iteF ⟨_, rfl, _, _, rfl, rfl, aM, _, _, _, rfl, rfl, sM _, at1, ?_⟩
      rw [← hm y fun z => q1 z.1] at k
      exact k
theorem scLyb : FnScope ["year", "last"] ["year"] (defScope sLyb) := ⟨rfl, rfl, rfl, by decide +kernel, rfl, by decide +kernel, by decide +kernel⟩
theorem ok_lyb {f : Addr} {fd : FuncData} (F : Fun K "leap_years_before" "leap_years_before" sLyb f fd) : FnOk P w K mg base CX0 1 f fd ["year"] spLyb := by
  refine F.ok scLyb (fun vs H Q E h => ?_) (fun cdv A outer s H vs Q E hr h => ?_)
  · obtain ⟨y, rfl, _⟩ := h
    rfl
  · obtain ⟨y, rfl, k⟩ := h
    have nd := scLyb.nd
    refine ⟨_, (pss_cons (ps_set (i := 1) nd rfl (Or.inl rfl) (pe_op op_sub (pv 0) pe_int))
      (pss_one (ps_ret (pe_op op_add (pe_op op_sub (pe_op op_fdiv (pv 1) pe_int) (pe_op op_fdiv (pv 1) pe_int)) (pe_op op_fdiv (pv 1) pe_int))))), ?_⟩
    exact ⟨_, rfl, _, _, rfl, rfl, _, rfl, _, _, rfl, rfl, ⟨by decide, by decide⟩, _, rfl, _, _, rfl, rfl, ⟨by decide, by decide⟩, _, _, rfl, rfl, _, rfl, _, _, rfl, rfl, ⟨by decide, by decide⟩, _, _, rfl, rfl, k⟩
theorem scFirst : FnScope ["year", "leap_days"] ["year"] (defScope sFirst) := ⟨rfl, rfl, rfl, by decide +kernel, rfl, by decide +kernel, by decide +kernel⟩
theorem ok_first {f : Addr} {fd : FuncData} (T : TX P w K mg) (O_lyb : Own P w K mg base CX0 1 "leap_years_before" ["year"] spLyb) (F : Fun K "first_day" "first_day" sFirst f fd) : FnOk P w K mg base CX0 2 f fd ["year"] spFirst := by
  refine F.ok scFirst (fun vs H Q E h => ?_) (fun cdv A outer s H vs Q E hr h => ?_)
  · obtain ⟨y, rfl, _⟩ := h
    rfl
  · obtain ⟨y, rfl, k⟩ := h
    have nd := scFirst.nd
    refine ⟨_, (pss_cons (ps_set (i := 1) nd rfl (Or.inl rfl) (pe_op op_sub (pe_own O_lyb (hr.mono (by decide)) pass0 (pa_cons (pv 0) pa_nil)) (pe_own O_lyb (hr.mono (by decide)) pass0 (pa_cons (pe_gi T.c_FIRST_YEAR) pa_nil))))
      (pss_one (ps_ret (pe_op op_add (pe_op op_add pe_int (pe_op op_mul pe_int (pe_op op_sub (pv 0) (pe_gi T.c_FIRST_YEAR)))) (pv 1))))), ?_⟩
    refine ⟨_, rfl, _, rfl, _, rfl, _, _, rfl, rfl, _, rfl, _, _, rfl, rfl, _, _, rfl, rfl, .inl (by decide), _, _, rfl, rfl, _, rfl, _, _, rfl, rfl, ?_⟩
    have e : yI y + 1 = 1 + 365 * (y - 1900) + ((y - 1) / 4 - (y - 1) / 100 + (y - 1) / 400 - ((1900 - 1 : Int) / 4 - (1900 - 1) / 100 + (1900 - 1) / 400)) := by
      unfold yI
      omega
    rw [e] at k
    exact k
end
end NP
end
section
set_option Elab.async false
set_option linter.all false
set_option maxRecDepth 100000
set_option maxHeartbeats 1000000
namespace NP
open PySem PySem.Spec PyProof.Rows L2
open Sv68 (yearStart monthStart monthDays dayOf dateOf LASTDAY leap)
section
variable {P : Program} {w : World} {K : PySem.W.Frag} {mg : Str → Option Value} {base : Heap}
def IsDay (y m d : Int) : Prop := 1900 ≤ y ∧ y ≤ 9999 ∧ 1 ≤ m ∧ m ≤ 12 ∧ 1 ≤ d ∧ d ≤ (monthDays y.toNat m.toNat : Int)
instance (y m d : Int) : Decidable (IsDay y m d) := by unfold IsDay; infer_instance
abbrev sIsDate : Stmt := top 9
def spIsDate : Sp := fun vs H Q _ => ∃ y m d : Int, vs = [.int y, .int m, .int d] ∧ Q (.bl (decide (IsDay y m d))) H
theorem scIsDate : FnScope ["year", "month", "day"] ["year", "month", "day"] (defScope sIsDate) := ⟨rfl, rfl, rfl, by decide +kernel, rfl, by decide +kernel, by decide +kernel⟩
theorem ok_isDate {f : Addr} {fd : FuncData} (T : TX P w K mg) (O_mlen : Own P w K mg base CX0 2 "month_length" ["year", "month"] spMlen) (F : Fun K "is_date" "is_date" sIsDate f fd) : FnOk P w K mg base CX0 3 f fd ["year", "month", "day"] spIsDate := by
  refine F.ok scIsDate (fun vs H Q E h => ?_) (fun cdv A outer s H vs Q E hr h => ?_)
  · obtain ⟨y, m, d, rfl, _⟩ := h
    rfl
  · obtain ⟨y, m, d, rfl, k⟩ := h
    obtain ⟨tR, hR, qR⟩ : ∃ tR, PSs (cxOf CX0 P w K mg base ["year", "month", "day"] "is_date" (defScope sIsDate) f cdv A outer s H E).nox ((defBody sIsDate).drop 1) tR ∧
        (1900 ≤ y → y ≤ 9999 → 1 ≤ m → m ≤ 12 → tR { nx := fun _ H' => Q .non H', rt := Q } [some (.int y), some (.int m), some (.int d)] H) := by
      refine ⟨_, (pss_one (ps_ret (pe_chain op_le op_le pe_int (pv 2) (pe_own O_mlen (hr.mono (by decide)) pass0 (pa_cons (pv 0) (pa_cons (pv 1) pa_nil)))))), fun h1 h2 h3 h4 => ?_⟩
      refine ⟨_, rfl, _, _, rfl, rfl, _, rfl, ite2 (fun q => ?_) (fun q => ?_)⟩
      · have q1 : 1 ≤ d := of_decide_eq_true q
        refine ⟨_, rfl, _, rfl, y, m.toNat, ?_, by omega, by omega, by omega, _, _, rfl, rfl, ?_⟩
        · rw [show ((m.toNat : Nat) : Int) = m by omega]
          rfl
        · have e : decide (IsDay y m d) = decide (d ≤ (monthDays y.toNat m.toNat : Int)) := decide_eq_decide.mpr ⟨fun z => z.2.2.2.2.2, fun z => ⟨h1, h2, h3, h4, q1, z⟩⟩
          rw [e] at k
          exact k
      · have e : decide (IsDay y m d) = false := decide_eq_false fun z => q (decide_eq_true z.2.2.2.2.1)
        rw [e] at k
        exact k
    refine ⟨_, pss_cons (ps_if (PW.pt (pw_or (pt_not (pt_chain op_le op_le (pe_gi T.c_FIRST_YEAR) (pv 0) (pe_gi T.c_LAST_YEAR))) (pw_or1 (pt_not (pt_chain op_le op_le pe_int (pv 1) pe_int))))) (pss_one (ps_ret pe_bl)) pss_nil) hR, ?_⟩
    have no : ¬ IsDay y m d → Q (.bl false) H := fun z => by
      rw [decide_eq_false z] at k
      exact k
    refine ⟨_, rfl, _, _, rfl, rfl, _, rfl, ite2 (fun q => ?_) (fun q => ?_)⟩
    · have q1 : 1900 ≤ y := of_decide_eq_true q
      refine ⟨_, _, rfl, rfl, _, rfl, ite2 (fun q => ?_) (fun q => ?_)⟩
      · have q2 : ¬ y ≤ 9999 := by
          intro z
          rw [decide_eq_true z] at q
          cases q
        exact iteT (no fun z => q2 z.2.1)
      · have q2 : y ≤ 9999 := by
          by_cases z : y ≤ 9999
          · exact z
          · exact (q (by rw [decide_eq_false z]; rfl)).elim
        refine ⟨_, rfl, _, _, rfl, rfl, _, rfl, ite2 (fun q => ?_) (fun q => ?_)⟩
        · have q3 : 1 ≤ m := of_decide_eq_true q
          refine ⟨_, _, rfl, rfl, _, rfl, ite2 (fun q => ?_) (fun q => ?_)⟩
          · have q4 : ¬ m ≤ 12 := by
              intro z
              rw [decide_eq_true z] at q
              cases q
            exact no fun z => q4 z.2.2.2.1
          · have q4 : m ≤ 12 := by
              by_cases z : m ≤ 12
              · exact z
              · exact (q (by rw [decide_eq_false z]; rfl)).elim
            exact qR q1 q2 q3 q4
        · have q3 : ¬ 1 ≤ m := fun z => q (decide_eq_true z)
          exact ⟨_, rfl, iteT (no fun z => q3 z.2.2.1)⟩
    · have q1 : ¬ 1900 ≤ y := fun z => q (decide_eq_true z)
      exact ⟨_, rfl, iteT (iteT (no fun z => q1 z.1))⟩
abbrev sNod : Stmt := top 10
def spNod : Sp := fun vs H Q _ => ∃ y m d : Int, vs = [.int y, .int m, .int d] ∧ IsDay y m d ∧ Q (.int (dayOf y.toNat m.toNat d.toNat)) H
theorem scNod : FnScope ["year", "month", "day", "number", "before"] ["year", "month", "day"] (defScope sNod) := ⟨rfl, rfl, rfl, by decide +kernel, rfl, by decide +kernel, by decide +kernel⟩
theorem ok_nod {f : Addr} {fd : FuncData} (T : TX P w K mg) (O_first : Own P w K mg base CX0 2 "first_day" ["year"] spFirst) (O_mlen : Own P w K mg base CX0 2 "month_length" ["year", "month"] spMlen) (F : Fun K "number_of_date" "number_of_date" sNod f fd) : FnOk P w K mg base CX0 3 f fd ["year", "month", "day"] spNod := by
  refine F.ok scNod (fun vs H Q E h => ?_) (fun cdv A outer s H vs Q E hr h => ?_)
  · obtain ⟨y, m, d, rfl, _⟩ := h
    rfl
  · obtain ⟨y, m, d, rfl, hd, k⟩ := h
    have nd := scNod.nd
    refine ⟨_, (pss_cons (ps_set (i := 3) nd rfl (Or.inl rfl) (pe_op op_sub (pe_op op_add (pe_own O_first (hr.mono (by decide)) pass0 (pa_cons (pv 0) pa_nil)) (pv 2)) pe_int))
      (pss_cons (ps_for PassesOwn.never rfl (pi_range2 rfl T.n_range (pa_cons pe_int (pa_cons (pv 1) pa_nil))) (pg_name (i := 4) nd rfl (Or.inl rfl)) (pss_one (ps_aug (i := 3) nd rfl (Or.inl rfl) (pe_own O_mlen (hr.mono (by decide)) pass0 (pa_cons (pv 0) (pa_cons (pv 4) pa_nil))) ip_add)))
      (pss_one (ps_ret (pv 3))))), ?_⟩
    obtain ⟨h1, h2, h3, h4, h5, h6⟩ := hd
    obtain ⟨y, rfl⟩ : ∃ y' : Nat, y = (y' : Int) := ⟨y.toNat, by omega⟩
    obtain ⟨m, rfl⟩ : ∃ y' : Nat, m = (y' : Int) := ⟨m.toNat, by omega⟩
    obtain ⟨d, rfl⟩ : ∃ y' : Nat, d = (y' : Int) := ⟨d.toNat, by omega⟩
    rw [Int.toNat_natCast, Int.toNat_natCast] at h6 k
    rw [Int.toNat_natCast] at k
    have ey0 : yI (y : Int) = (yearStart y : Int) := yI_nat (by omega)
    refine ⟨_, rfl, _, rfl, _, rfl, _, _, rfl, rfl, _, _, rfl, rfl, ?_⟩
    refine ⟨_, rfl, 1, m, rfl, (by omega), ?_⟩
    refine for_range (fun i σ H' => ∃ v, H = H' ∧ σ = [some (.int y), some (.int m), some (.int d), some (.int ((yearStart y + (monthStart y (i + 1) + d) : Nat) : Int)), v]) ⟨none, rfl, ?_⟩ ?_ ?_
    · show [some (V.int (y : Int)), some (V.int (m : Int)), some (V.int (d : Int)), some (V.int (yI (y : Int) + 1 + (d : Int) - 1)), none] = _
      rw [DY.monthStart_1, show yI (y : Int) + 1 + (d : Int) - 1 = ((yearStart y + (0 + d) : Nat) : Int) by omega]
    · rintro i σ H' hi ⟨v, rfl, rfl⟩
      have hm1 : ((m : Int) - 1).toNat = m - 1 := by omega
      rw [hm1] at hi
      have ms := DY.monthStart_succ (y := y) (m := i + 1) (by omega)
      refine ⟨_, rfl, _, rfl, _, rfl, (y : Int), i + 1, ?_, by omega, by omega, by omega, _, _, rfl, rfl, some (V.int (1 + (i : Int))), rfl, ?_⟩
      · rw [show (((i + 1 : Nat)) : Int) = 1 + (i : Int) by omega]
        rfl
      · rw [Int.toNat_natCast]
        show [some (V.int (y : Int)), some (V.int (m : Int)), some (V.int (d : Int)), some (V.int (((yearStart y + (monthStart y (i + 1) + d) : Nat) : Int) + (monthDays y (i + 1) : Int))), some (V.int (1 + (i : Int)))] = _
        rw [show ((yearStart y + (monthStart y (i + 1) + d) : Nat) : Int) + (monthDays y (i + 1) : Int) = ((yearStart y + (monthStart y (i + 1 + 1) + d) : Nat) : Int) by omega]
    · rintro σ H' ⟨v, rfl, rfl⟩
      refine ⟨_, rfl, ?_⟩
      have e : yearStart y + (monthStart y (((m : Int) - 1).toNat + 1) + d) = dayOf y m d := by
        unfold dayOf
        rw [show ((m : Int) - 1).toNat + 1 = m by omega]
        omega
      rw [e]
      exact k
end
end NP
end
section
set_option Elab.async false
set_option linter.all false
set_option maxRecDepth 100000
set_option maxHeartbeats 1000000
namespace NP
open PySem PySem.Spec PyProof.Rows L2
open Sv68 (isDigit lower)
theorem cut_m1 (b : Bytes) : cutV (bv b) none (some (-1)) = bv b.dropLast := by
  unfold cutV
  rw [show HT.sIx (bv b).length 0 none = 0 from rfl, show HT.sIx (bv b).length (bv b).length (some (-1)) = ((-1 : Int) + ((bv b).length : Int)).toNat from rfl, bv_length, List.drop_zero, bv_take, List.dropLast_eq_take, show ((-1 : Int) + (b.length : Int)).toNat - 0 = b.length - 1 by omega]
theorem cut_1m1 (b : Bytes) : cutV (bv b) (some 1) (some (-1)) = bv (b.drop 1).dropLast := by
  unfold cutV
  rw [show HT.sIx (bv b).length 0 (some 1) = min 1 (bv b).length from rfl, show HT.sIx (bv b).length (bv b).length (some (-1)) = ((-1 : Int) + ((bv b).length : Int)).toNat from rfl, bv_length, bv_drop, bv_take, List.dropLast_eq_take, List.length_drop]
  cases b with
  | nil => rfl
  | cons c r =>
    rw [show min 1 (c :: r).length = 1 by rw [List.length_cons]; omega, List.length_cons, show ((-1 : Int) + ((r.length + 1 : Nat) : Int)).toNat - 1 = r.length + 1 - 1 - 1 by omega]
theorem cut_last (b : Bytes) : cutV (bv b) (some (-1)) none = bv b.getLast?.toList := by
  unfold cutV
  rw [show HT.sIx (bv b).length (bv b).length none = (bv b).length from rfl, show HT.sIx (bv b).length 0 (some (-1)) = ((-1 : Int) + ((bv b).length : Int)).toNat from rfl, bv_length, bv_drop, bv_take]
  rcases List.eq_nil_or_concat b with rfl | ⟨r, c, rfl⟩
  · rfl
  · rw [List.concat_eq_append, List.getLast?_concat, List.length_append, show ((-1 : Int) + ((r.length + [c].length : Nat) : Int)).toNat = r.length by simp; omega, List.drop_left]
    rw [List.take_of_length_le (by simp)]
    rfl
theorem at_m1 {b : Bytes} {c : UInt8} (h : b.getLast? = some c) : atI (bv b) (-1) = some (V.int c.toNat) := by
  rcases List.eq_nil_or_concat b with rfl | ⟨r, d, rfl⟩
  · cases h
  · rw [List.concat_eq_append, List.getLast?_concat] at h
    cases h
    rw [List.concat_eq_append]
    unfold bv bi
    rw [List.map_append, List.map_append]
    exact atI_last _ _
theorem at_0 {b : Bytes} {c : UInt8} (h : b.head? = some c) : atI (bv b) 0 = some (V.int c.toNat) := by
  cases b with
  | nil => cases h
  | cons d r =>
    cases h
    exact atI_nat (j := 0) rfl
theorem u8_dec (c : UInt8) (k : Int) (kk : UInt8) (h : k = (kk.toNat : Int)) : decide (V.int (c.toNat : Int) = V.int k) = (c == kk) := by
  rw [Bool.eq_iff_iff, decide_eq_true_iff, beq_iff_eq, h]
  exact ⟨fun z => u8_eq.mpr (V.int.inj z), fun z => by rw [z]⟩
theorem bv_append (a b : Bytes) : bv a ++ bv b = bv (a ++ b) := by
  unfold bv bi
  rw [List.map_append, List.map_append]
section
variable {P : Program} {w : World} {K : PySem.W.Frag} {mg : Str → Option Value} {base : Heap}
abbrev sRhe : Stmt := top 62
theorem scRhe : FnScope ["number", "divisor", "whole", "rest"] ["number", "divisor"] (defScope sRhe) := ⟨rfl, rfl, rfl, by decide +kernel, rfl, by decide +kernel, by decide +kernel⟩
def spRhe : Sp := fun vs H Q _ => ∃ n d : Int, vs = [.int n, .int d] ∧ 0 < d ∧ d < 2 ^ 1000 ∧ Q (.int (Wbk.nearest n d)) H
theorem ok_rhe {f : Addr} {fd : FuncData} (F : Fun K "round_halves_even" "round_halves_even" sRhe f fd) : FnOk P w K mg base CX0 1 f fd ["number", "divisor"] spRhe := by
  refine F.ok scRhe (fun vs H Q E h => ?_) (fun cdv A outer s H vs Q E hr h => ?_)
  · obtain ⟨n, d, rfl, _⟩ := h
    rfl
  · obtain ⟨n, d, rfl, h0, h1, k⟩ := h
    have nd := scRhe.nd
    refine ⟨_, (pss_cons (ps_set (i := 2) nd rfl (Or.inl rfl) (pe_op op_fdivL (pv 0) (pv 1)))
      (pss_cons (ps_set (i := 3) nd rfl (Or.inl rfl) (pe_op op_mul pe_int (pe_op op_mod (pv 0) (pv 1))))
      (pss_one (ps_ret (pe_ifExp (PW.pt (pw_or (pt_cmpR op_gt (pv 3) (pv 1) (nomark _)) (pw_or1 (PW.pt (pw_and (pt_cmpR op_eq (pv 3) (pv 1) (nomark _)) (pw_and1 (pt_cmpR op_eq (pe_op op_mod (pv 2) pe_int) pe_int (nomark _)))))))) (pe_op op_add (pv 2) pe_int) (pv 2)))))), ?_⟩
    have e : Wbk.nearest n d = if d < 2 * (n % d) ∨ (d = 2 * (n % d) ∧ n / d % 2 = 1) then n / d + 1 else n / d := rfl
    rw [e] at k
    refine ⟨_, rfl, _, rfl, _, _, rfl, rfl, ⟨h0, h1⟩, _, rfl, _, rfl, _, _, rfl, rfl, h0, _, _, rfl, rfl, .inl ⟨by decide, by decide⟩, ?_⟩
    refine ⟨_, rfl, _, rfl, _, _, rfl, rfl, _, rfl, ite2 (fun q => ?_) (fun q => ?_)⟩
    · have q1 : d < 2 * (n % d) := of_decide_eq_true q
      rw [if_pos (.inl q1)] at k
      exact iteT ⟨_, rfl, _, _, rfl, rfl, k⟩
    · have q1 : ¬ d < 2 * (n % d) := fun z => q (decide_eq_true z)
      refine ⟨_, rfl, _, rfl, rfl, _, rfl, ite2 (fun q => ?_) (fun q => ?_)⟩
      · have q2 : 2 * (n % d) = d := V.int.inj (of_decide_eq_true q)
        refine ⟨_, rfl, _, _, rfl, rfl, (by show (0 : Int) < _; decide), rfl, _, rfl, ite2 (fun q => ?_) (fun q => ?_)⟩
        · have q3 : n / d % 2 = 1 := V.int.inj (of_decide_eq_true q)
          rw [if_pos (.inr ⟨q2.symm, q3⟩)] at k
          exact ⟨_, rfl, _, _, rfl, rfl, k⟩
        · have q3 : ¬ n / d % 2 = 1 := fun z => q (decide_eq_true (show V.int (n / d % 2) = V.int 1 by rw [z]))
          rw [if_neg (fun z => z.elim q1 fun y => q3 y.2)] at k
          exact ⟨_, rfl, k⟩
      · have q2 : ¬ 2 * (n % d) = d := fun z => q (decide_eq_true (show V.int (2 * (n % d)) = V.int d by rw [z]))
        rw [if_neg (fun z => z.elim q1 fun y => q2 y.1.symm)] at k
        exact iteF ⟨_, rfl, k⟩
abbrev sIsnm : Stmt := top 54
theorem scIsnm : FnScope ["number"] ["number"] (defScope sIsnm) := ⟨rfl, rfl, rfl, by decide +kernel, rfl, by decide +kernel, by decide +kernel⟩
def spIsnm : Sp := fun vs H Q _ => ∃ n : Int, vs = [.int n] ∧ Q (.bl (Wbk.fits n)) H
theorem ok_isnm {f : Addr} {fd : FuncData} (T : TX P w K mg) (F : Fun K "is_number" "is_number" sIsnm f fd) : FnOk P w K mg base CX0 1 f fd ["number"] spIsnm := by
  refine F.ok scIsnm (fun vs H Q E h => ?_) (fun cdv A outer s H vs Q E hr h => ?_)
  · obtain ⟨n, rfl, _⟩ := h
    rfl
  · obtain ⟨n, rfl, k⟩ := h
    refine ⟨_, (pss_one (ps_ret (pe_chain op_lt op_lt (pe_un un_neg (pe_gi T.c_TOO_LARGE)) (pv 0) (pe_gi T.c_TOO_LARGE)))), ?_⟩
    have e : Wbk.fits n = (decide (-(1000000000000000000000000000000000000 : Int) < n) && decide (n < 1000000000000000000000000000000000000)) := rfl
    rw [e] at k
    refine ⟨_, rfl, _, rfl, _, _, rfl, rfl, _, rfl, ite2 (fun q => ?_) (fun q => ?_)⟩
    · have q1 : -(1000000000000000000000000000000000000 : Int) < n := of_decide_eq_true q
      rw [decide_eq_true q1, Bool.true_and] at k
      exact ⟨_, _, rfl, rfl, k⟩
    · have q1 : ¬ -(1000000000000000000000000000000000000 : Int) < n := fun z => q (decide_eq_true z)
      rw [decide_eq_false q1, Bool.false_and] at k
      exact k
abbrev sIstx : Stmt := top 55
theorem scIstx : FnScope ["codes"] ["codes"] (defScope sIstx) := ⟨rfl, rfl, rfl, by decide +kernel, rfl, by decide +kernel, by decide +kernel⟩
def spIstx (K : PySem.W.Frag) : Sp := fun vs H Q _ => ∃ a b, vs = [.ref a] ∧ SqL K H a (bv b) ∧ ∀ H', Same H H' → Q (.bl (decide (b.length ≤ 4096) && Wbk.utf8 b)) H'
theorem ok_istx {f : Addr} {fd : FuncData} (T : TX P w K mg) (O_is_well_made : Own P w K mg base CX0 2 "is_well_made" ["codes"] (spWell K)) (F : Fun K "is_text" "is_text" sIstx f fd) : FnOk P w K mg base CX0 3 f fd ["codes"] (spIstx K) := by
  refine F.ok scIstx (fun vs H Q E h => ?_) (fun cdv A outer s H vs Q E hr h => ?_)
  · obtain ⟨a, b, rfl, _⟩ := h
    rfl
  · obtain ⟨a, b, rfl, hS, k⟩ := h
    refine ⟨_, (pss_one (ps_ret (pe_and (pe_cmpR op_le (pe_callB call_len_seq rfl T.n_len (by decide +kernel) (pa_cons (pv 0) pa_nil)) (pe_gi T.c_LONGEST_TEXT) (nomark _)) (pe_one (pe_own O_is_well_made (hr.mono (by decide)) pass0 (pa_cons (pv 0) pa_nil)))))), ?_⟩
    refine ⟨_, rfl, a, _, rfl, .inl hS, _, _, rfl, rfl, _, rfl, ite2 (fun q => ?_) (fun q => ?_)⟩
    · have q1 : b.length ≤ 4096 := by
        have := of_decide_eq_true q
        rw [bv_length] at this
        omega
      refine ⟨_, rfl, a, bi b, rfl, hS, bi_byt b, fun H' sm => ?_⟩
      have := k H' sm
      rw [decide_eq_true q1, Bool.true_and] at this
      rw [oct_bi]
      exact this
    · have q1 : ¬ b.length ≤ 4096 := fun z => q (decide_eq_true (by rw [bv_length]; omega))
      have := k H (Same.refl H)
      rw [decide_eq_false q1, Bool.false_and] at this
      exact this
theorem trim_eq (b : Bytes) (i j : Nat) (hij : i ≤ j) (hj : j ≤ b.length) (h1 : ∀ x ∈ b.take i, x = 32) (h2 : ∀ x ∈ b.drop j, x = 32) (h3 : i < j → b[i]? ≠ some 32 ∧ b[j - 1]? ≠ some 32) : Sv68.trimmed b = (b.drop i).take (j - i) := by
  have hb : b = b.take i ++ ((b.drop i).take (j - i) ++ b.drop j) := by
    have e1 := List.take_append_drop i b
    have e2 := List.take_append_drop (j - i) (b.drop i)
    rw [List.drop_drop, show i + (j - i) = j by omega] at e2
    rw [e2, e1]
  generalize hu : b.take i = u at hb h1
  generalize hm : (b.drop i).take (j - i) = m at hb ⊢
  generalize hv : b.drop j = v at hb h2
  have dw : ∀ (u r : Bytes), (∀ x ∈ u, x = 32) → (u ++ r).dropWhile (fun c => c == 32) = r.dropWhile (fun c => c == 32) := by
    intro u r h
    induction u with
    | nil => rfl
    | cons x u ih =>
      have hx := h x List.mem_cons_self
      subst hx
      show ((32 : UInt8) :: (u ++ r)).dropWhile _ = _
      rw [List.dropWhile_cons, if_pos (by decide)]
      exact ih fun y hy => h y (List.mem_cons_of_mem _ hy)
  have dn : ∀ (r : Bytes), r.head? ≠ some 32 → r.dropWhile (fun c => c == 32) = r := by
    intro r h
    cases r with
    | nil => rfl
    | cons x r =>
      rw [List.dropWhile_cons, if_neg]
      intro z
      exact h (by rw [show x = 32 by simpa using z]; rfl)
  unfold Sv68.trimmed
  rcases Nat.lt_or_ge i j with hlt | hge
  · obtain ⟨n1, n2⟩ := h3 hlt
    have hml : m.length = j - i := by rw [← hm, List.length_take, List.length_drop]; omega
    have m0 : m.head? ≠ some 32 := by
      rw [← hm, List.head?_take, if_neg (by omega), List.head?_drop]
      exact n1
    have m1 : m.reverse.head? ≠ some 32 := by
      rw [List.head?_reverse, List.getLast?_eq_getElem?, hml, ← hm, List.getElem?_take, if_pos (by omega), List.getElem?_drop, show i + (j - i - 1) = j - 1 by omega]
      exact n2
    have mne : m ≠ [] := fun z => by rw [z] at hml; simp at hml; omega
    have m2 : (m ++ v).head? ≠ some 32 := by
      rw [List.head?_append]
      cases m with
      | nil => exact absurd rfl mne
      | cons x r => exact m0
    rw [hb, dw _ _ h1, dn (m ++ v) m2, List.reverse_append, dw _ _ (fun x hx => h2 x (List.mem_reverse.mp hx)), dn _ m1, List.reverse_reverse]
  · have e : i = j := by omega
    have m0 : m = [] := by rw [← hm, e, Nat.sub_self, List.take_zero]
    subst m0
    rw [hb, dw _ _ h1, List.nil_append]
    have : v.dropWhile (fun c => c == 32) = [] := by
      have := dw v [] h2
      rw [List.append_nil] at this
      exact this
    rw [this]
    rfl
abbrev sWob : Stmt := top 91
theorem scWob : FnScope ["codes", "begin", "end"] ["codes"] (defScope sWob) := ⟨rfl, rfl, rfl, by decide +kernel, rfl, by decide +kernel, by decide +kernel⟩
def spWob (K : PySem.W.Frag) : Sp := fun vs H Q _ => ∃ a b, vs = [.ref a] ∧ SqL K H a (bv b) ∧ ∀ p, H p = none → Q (.ref p) (upd H p (.lst (bv (Sv68.trimmed b))))
theorem ok_wob {f : Addr} {fd : FuncData} (T : TX P w K mg) (F : Fun K "without_blanks" "without_blanks" sWob f fd) : FnOk P w K mg base CX0 1 f fd ["codes"] (spWob K) := by
  refine F.ok scWob (fun vs H Q E h => ?_) (fun cdv A outer s H vs Q E hr h => ?_)
  · obtain ⟨a, b, rfl, _⟩ := h
    rfl
  · obtain ⟨a, b, rfl, hS, k⟩ := h
    have nd := scWob.nd
    obtain ⟨t3, h3, q3⟩ : ∃ t3, PSs (cxOf CX0 P w K mg base ["codes", "begin", "end"] "without_blanks" (defScope sWob) f cdv A outer s H E).nox ((defBody sWob).drop 3) t3 ∧
        ∀ i : Nat, i ≤ b.length → (∀ x ∈ b.take i, x = 32) → (i < b.length → b[i]? ≠ some 32) → t3 { nx := fun _ H' => Q .non H', rt := Q } [some (.ref a), some (.int i), some (.int b.length)] H := by
      refine ⟨_, (pss_cons (ps_while PassesOwn.never (PW.pt (pw_and (pt_cmpR op_lt (pv 1) (pv 2) (nomark _)) (pw_and1 (pt_cmpR op_eq (pe_ix ix_list (pv 0) (pe_op op_sub (pv 2) pe_int) (fun _ _ => rfl)) (pe_gi T.c_BLANK) (nomark _))))) (pss_one (ps_aug (i := 2) nd rfl (Or.inl rfl) pe_int ip_sub)))
      (pss_one (ps_ret (pe_slice sl_list (pv 0) (po_some (pv 1)) (po_some (pv 2)))))), fun i hi hu hn => ?_⟩
      refine ⟨fun m σ H' => ∃ j : Nat, σ = [some (.ref a), some (.int i), some (.int j)] ∧ H = H' ∧ i ≤ j ∧ j ≤ b.length ∧ (∀ x ∈ b.drop j, x = 32) ∧ m = j, ⟨_, b.length, rfl, rfl, hi, Nat.le_refl _, (by simp), rfl⟩, ?_⟩
      rintro m σ H' ⟨j, rfl, rfl, hij, hj, hv, hmj⟩
      have fin : (i < j → b[j - 1]? ≠ some 32) → ∀ p, H p = none → Q (.ref p) (upd H p (.lst (cutV (bv b) (some (i : Int)) (some (j : Int))))) := fun z p hp => by
        have e := bcut b i j
        rw [← trim_eq b i j hij hj hu hv fun q => ⟨hn (by omega), z q⟩] at e
        rw [e]
        exact k p hp
      refine ⟨_, rfl, _, rfl, _, _, rfl, rfl, _, rfl, ite2 (fun q => ?_) (fun q => ?_)⟩
      · have q1 : i < j := by have := of_decide_eq_true q; omega
        obtain ⟨c, hc⟩ : ∃ c, b[j - 1]? = some c := ⟨_, List.getElem?_eq_getElem (show j - 1 < b.length by omega)⟩
        refine ⟨_, rfl, _, rfl, _, _, rfl, rfl, a, _, _, _, rfl, rfl, hS, at_of (j := j - 1) (by omega) (bv_get hc), rfl, _, rfl, ite2 (fun q => ?_) (fun q => ?_)⟩
        · have hc32 : c = 32 := u8_eq.mpr (V.int.inj (of_decide_eq_true q))
          refine ⟨_, fun σ' H' z => z, _, rfl, _, _, rfl, rfl, j - 1, by omega, j - 1, ?_, rfl, by omega, by omega, ?_, rfl⟩
          · show [some (V.ref a), some (V.int (i : Int)), some (V.int ((j : Int) - 1))] = _
            rw [show (j : Int) - 1 = ((j - 1 : Nat) : Int) by omega]
          · intro x hx
            rw [drop_get hc, show j - 1 + 1 = j by omega] at hx
            rcases List.mem_cons.mp hx with z | z
            · rw [z, hc32]
            · exact hv x z
        · have hc32 : c ≠ 32 := fun z => q (by rw [z]; rfl)
          exact ⟨_, rfl, _, rfl, (i : Int), rfl, _, rfl, (j : Int), rfl, a, _, rfl, hS, fin fun _ z => hc32 (Option.some.inj (hc.symm.trans z))⟩
      · have q1 : ¬ i < j := fun z => q (decide_eq_true (by omega))
        exact iteF ⟨_, rfl, _, rfl, (i : Int), rfl, _, rfl, (j : Int), rfl, a, _, rfl, hS, fin fun z => absurd z q1⟩
    refine ⟨_, (pss_cons (ps_set (i := 1) nd rfl (Or.inl rfl) pe_int)
      (pss_cons (ps_set (i := 2) nd rfl (Or.inl rfl) (pe_callB call_len_seq rfl T.n_len (by decide +kernel) (pa_cons (pv 0) pa_nil)))
      (pss_cons (ps_while PassesOwn.never (PW.pt (pw_and (pt_cmpR op_lt (pv 1) (pv 2) (nomark _)) (pw_and1 (pt_cmpR op_eq (pe_ix ix_list (pv 0) (pv 1) (fun _ _ => rfl)) (pe_gi T.c_BLANK) (nomark _))))) (pss_one (ps_aug (i := 1) nd rfl (Or.inl rfl) pe_int ip_add)))
      h3))), ?_⟩
    refine ⟨_, rfl, a, _, rfl, .inl hS, ?_⟩
    rw [bv_length]
    refine ⟨fun m σ H' => ∃ i : Nat, σ = [some (.ref a), some (.int i), some (.int b.length)] ∧ H = H' ∧ i ≤ b.length ∧ (∀ x ∈ b.take i, x = 32) ∧ m = b.length - i, ⟨_, 0, rfl, rfl, Nat.zero_le _, (by simp), rfl⟩, ?_⟩
    rintro m σ H' ⟨i, rfl, rfl, hi, hu, rfl⟩
    refine ⟨_, rfl, _, rfl, _, _, rfl, rfl, _, rfl, ite2 (fun q => ?_) (fun q => ?_)⟩
    · have q1 : i < b.length := by have := of_decide_eq_true q; omega
      obtain ⟨c, hc⟩ : ∃ c, b[i]? = some c := ⟨_, List.getElem?_eq_getElem q1⟩
      refine ⟨_, rfl, _, rfl, a, _, _, _, rfl, rfl, hS, atI_nat (bv_get hc), rfl, _, rfl, ite2 (fun q => ?_) (fun q => ?_)⟩
      · have hc32 : c = 32 := u8_eq.mpr (V.int.inj (of_decide_eq_true q))
        refine ⟨_, fun σ' H' z => z, _, rfl, _, _, rfl, rfl, b.length - (i + 1), by omega, i + 1, rfl, rfl, by omega, ?_, rfl⟩
        intro x hx
        rw [take_snoc hc] at hx
        rcases List.mem_append.mp hx with z | z
        · exact hu x z
        · rw [List.mem_singleton.mp z, hc32]
      · have hc32 : c ≠ 32 := fun z => q (by rw [z]; rfl)
        exact q3 i hi hu fun _ z => hc32 (Option.some.inj (hc.symm.trans z))
    · have q1 : ¬ i < b.length := fun z => q (decide_eq_true (by omega))
      exact iteF (q3 i hi hu fun z => absurd z q1)
def fs_Entry (v1 v2 : V) : List (Str × V) := (putF "picture" v2 (putF "value" v1 []))
theorem fs_Entry_value (v1 v2 : V) : (fs_Entry v1 v2).lookup ("value" : Str) = some v1 := by
  unfold fs_Entry
  rw [lookup_putF, if_neg (by decide +kernel), lookup_putF, if_pos rfl]
theorem fs_Entry_picture (v1 v2 : V) : (fs_Entry v1 v2).lookup ("picture" : Str) = some v2 := by
  unfold fs_Entry
  rw [lookup_putF, if_pos rfl]
structure Tx_Entry (K : PySem.W.Frag) (C : Addr) : Prop where
  cl : Cls K C
  n_value : NoAttr K C "value"
  n_picture : NoAttr K C "picture"
def At_Entry (C : Addr) (H : Hp) (a : Addr) (v1 v2 : V) : Prop := ∃ dx, H a = some (.ins C dx (fs_Entry v1 v2))
abbrev si_Entry : Stmt := inClass (top 57) 0
def sp_Entry (C : Addr) : Sp := fun vs H Q _ => ∃ (p dx : Addr) (v1 v2 : V), vs = [.ref p, v1, v2] ∧ H p = some (.ins C dx []) ∧ Q .non (upd H p (.ins C dx (fs_Entry v1 v2)))
theorem sc_Entry : FnScope ["self", "value", "picture"] ["self", "value", "picture"] (defScope si_Entry) := ⟨rfl, rfl, rfl, by decide +kernel, rfl, by decide +kernel, by decide +kernel⟩
theorem ok_Entry {P : Program} {w : World} {K : PySem.W.Frag} {mg : Str → Option Value} {base : Heap} {f C : Addr} {fd : FuncData} (T : Tx_Entry K C) (F : Fun K "__init__" "Entry.__init__" si_Entry f fd) : FnOk P w K mg base CX0 1 f fd ["self", "value", "picture"] (sp_Entry C) := by
  refine F.ok sc_Entry (fun vs H Q E h => ?_) (fun cdv A outer s H vs Q E hr h => ?_)
  · obtain ⟨p, dx, v1, v2, rfl, _⟩ := h
    rfl
  · obtain ⟨p, dx, v1, v2, rfl, hp, k⟩ := h
    refine ⟨_, (pss_cons (ps_fld (pv 0) (pv 1) rfl) (pss_one (ps_fld (pv 0) (pv 2) rfl))), ?_⟩
    refine ⟨_, rfl, _, rfl, p, C, dx, [], rfl, hp, T.cl, T.n_value, (by show 0 < 1000; decide), ?_⟩
    refine ⟨_, rfl, _, rfl, p, C, dx, _, rfl, upd_same, T.cl, T.n_picture, (by show 1 < 1000; decide), ?_⟩
    rw [upd_upd]
    exact k
def EntAt (C : Addr) (H : Hp) (e : Addr) (v : List Int) (pic : Bytes) : Prop := ∃ a q, At_Entry C H e (.ref a) (.ref q) ∧ H a = some (.lst (v.map V.int)) ∧ H q = some (.lst (bv pic))
def spEnt (C : Addr) (H : Hp) (Q : VK) (v : List Int) (pic : Bytes) : Prop := ∀ e H', Same H H' → EntAt C H' e v pic → Q (.ref e) H'
theorem new_ent {C : Addr} {H H1 : Hp} {Q : VK} {v : List Int} {pic : Bytes} {a q : Addr} (k : spEnt C H Q v pic) (sm : Same H H1) (ha : H1 a = some (.lst (v.map V.int))) (hq : H1 q = some (.lst (bv pic))) :
    ∀ x dx : Addr, H1 x = none → H1 dx = none → dx ≠ x → sp_Entry C (.ref x :: ([.ref a, .ref q] ++ [])) (upd (upd H1 dx (.own x)) x (.ins C dx [])) (fun v H2 => v = .non ∧ Q (.ref x) H2) E0 := by
  intro x dx hx hdx hne
  have s2 := sm.ins (C := C) (fs := fs_Entry (.ref a) (.ref q)) hx hdx
  have s3 := (Same.refl H1).ins (C := C) (fs := fs_Entry (.ref a) (.ref q)) hx hdx
  exact ⟨x, dx, _, _, rfl, upd_same, rfl, k x _ s2 ⟨a, q, ⟨dx, upd_same⟩, s3 _ _ ha, s3 _ _ hq⟩⟩
abbrev sNent : Stmt := top 58
theorem scNent : FnScope ["number", "picture"] ["number", "picture"] (defScope sNent) := ⟨rfl, rfl, rfl, by decide +kernel, rfl, by decide +kernel, by decide +kernel⟩
def spNent (C : Addr) : Sp := fun vs H Q _ => ∃ (n : Int) (q : Addr) (pic : Bytes), vs = [.int n, .ref q] ∧ H q = some (.lst (bv pic)) ∧ spEnt C H Q [1, n] pic
theorem ok_nent {f C : Addr} {fd : FuncData} (T : TX P w K mg) (O_Entry : OwnC P w K mg base CX0 1 C "Entry" ["self", "value", "picture"] (sp_Entry C)) (F : Fun K "number_entry" "number_entry" sNent f fd) : FnOk P w K mg base CX0 3 f fd ["number", "picture"] (spNent C) := by
  refine F.ok scNent (fun vs H Q E h => ?_) (fun cdv A outer s H vs Q E hr h => ?_)
  · obtain ⟨n, q, pic, rfl, _⟩ := h
    rfl
  · obtain ⟨n, q, pic, rfl, hq, k⟩ := h
    refine ⟨_, (pss_one (ps_ret (pe_new O_Entry (hr.mono (by decide)) pass0 (pa_cons (pe_lst (pa_cons (pe_gi T.c_NUMBER) (pa_cons (pv 0) pa_nil))) (pa_cons (pv 1) pa_nil))))), ?_⟩
    refine ⟨_, rfl, (by show 2 ≤ 2 ^ 24; decide), fun p hp => ?_⟩
    have su := Same.upd (o := .lst [V.int 1, V.int n]) hp
    exact ⟨_, rfl, new_ent k su upd_same (su _ _ hq)⟩
abbrev sTent : Stmt := top 59
theorem scTent : FnScope ["codes"] ["codes"] (defScope sTent) := ⟨rfl, rfl, rfl, by decide +kernel, rfl, by decide +kernel, by decide +kernel⟩
def spTent (K : PySem.W.Frag) (C : Addr) : Sp := fun vs H Q _ => ∃ a b, vs = [.ref a] ∧ SqL K H a (bv b) ∧ b.length ≤ 70000 ∧ spEnt C H Q (TY.textF b) []
theorem ok_tent {f C : Addr} {fd : FuncData} (T : TX P w K mg) (O_Entry : OwnC P w K mg base CX0 1 C "Entry" ["self", "value", "picture"] (sp_Entry C)) (F : Fun K "text_entry" "text_entry" sTent f fd) : FnOk P w K mg base CX0 3 f fd ["codes"] (spTent K C) := by
  refine F.ok scTent (fun vs H Q E h => ?_) (fun cdv A outer s H vs Q E hr h => ?_)
  · obtain ⟨a, b, rfl, _⟩ := h
    rfl
  · obtain ⟨a, b, rfl, hS, hl, k⟩ := h
    refine ⟨_, (pss_one (ps_ret (pe_new O_Entry (hr.mono (by decide)) pass0 (pa_cons (pe_op op_catL (pe_lst (pa_cons (pe_gi T.c_TEXT) (pa_cons (pe_callB call_len_seq rfl T.n_len (by decide +kernel) (pa_cons (pv 0) pa_nil)) pa_nil))) (pv 0)) (pa_cons (pe_lst pa_nil) pa_nil))))), ?_⟩
    refine ⟨_, rfl, a, _, rfl, .inl hS, (by show 2 ≤ 2 ^ 24; decide), fun p hp => ?_⟩
    rw [bv_length]
    have su := Same.upd (o := .lst [V.int 2, V.int b.length]) hp
    refine ⟨_, rfl, p, a, _, _, rfl, rfl, SqL.of upd_same, su.seq hS, (by rw [bv_length]; show 2 + b.length ≤ 2 ^ 24; omega), fun q hq => ?_⟩
    have s2 := su.trans (Same.upd (o := .lst ([V.int 2, V.int b.length] ++ bv b)) hq)
    refine ⟨Nat.zero_le _, fun r hr' => ?_⟩
    have s3 := Same.upd (o := .lst []) hr'
    exact new_ent k (s2.trans s3) (s3 _ _ upd_same) upd_same
end
end NP
end
section
set_option Elab.async false
set_option linter.all false
set_option maxRecDepth 100000
set_option maxHeartbeats 1000000
namespace NP
open PySem PySem.Spec PyProof.Rows L2
open Sv68 (isDigit lower)
def ENAMES : List Str := ["#DIV/0!", "#VALUE!", "#REF!", "#NAME?", "#NUM!", "#N/A", "#RING!", "#ROOM!"]
theorem low_all (b : Bytes) : (bi b).map lowI = bi (b.map lower) := by
  unfold bi
  rw [List.map_map, List.map_map]
  exact List.map_congr_left fun c _ => low_lower c
def lowS (x : V) : Option V := match x with
  | .int n => some (V.int (lowI n))
  | _ => none
theorem lowV (b : Bytes) : (bv b).filterMap lowS = bv (b.map lower) := by
  unfold bv
  rw [← low_all, List.filterMap_map, List.map_map]
  show List.filterMap (some ∘ (V.int ∘ lowI)) (bi b) = _
  rw [List.filterMap_eq_map]
theorem str_codes {z : Str} {s : String} (h : (codesI z) = bi (Sv68.str s)) (b : Bytes) : decide (bi b = codesI z) = decide (b = Sv68.str s) := by
  rw [h]
  exact decide_eq_decide.mpr ⟨bi_inj, fun e => by rw [e]⟩
theorem err_codes : ∀ i z, ENAMES[i]? = some z → codesI z = bi (Sv68.errorName (i + 1)) ∧ z.length ≤ 100
  | 0, _, h => by cases h; decide +kernel
  | 1, _, h => by cases h; decide +kernel
  | 2, _, h => by cases h; decide +kernel
  | 3, _, h => by cases h; decide +kernel
  | 4, _, h => by cases h; decide +kernel
  | 5, _, h => by cases h; decide +kernel
  | 6, _, h => by cases h; decide +kernel
  | 7, _, h => by cases h; decide +kernel
  | n + 8, _, h => by cases h
def errL (t : Bytes) : Nat → Nat → Option Nat
  | 0, _ => none
  | n + 1, i => if Sv68.errorName (i + 1) = t then some i else errL t n (i + 1)
theorem errL_eq (t : Bytes) : ((List.range 8).find? fun k => Sv68.errorName (k + 1) == t) = errL t 8 0 := by
  show ([0, 1, 2, 3, 4, 5, 6, 7].find? fun k => Sv68.errorName (k + 1) == t) = _
  unfold errL errL errL errL errL errL errL errL errL
  simp only [List.find?_cons, List.find?_nil, beq_iff_eq]
  repeat' split
  all_goals first | rfl | (simp_all)
section
variable {P : Program} {w : World} {K : PySem.W.Frag} {mg : Str → Option Value} {base : Heap}
abbrev sRw : Stmt := top 92
theorem scRw : FnScope ["codes", "word", "number", "name", "code"] ["codes"] (defScope sRw) := ⟨rfl, rfl, rfl, by decide +kernel, rfl, by decide +kernel, by decide +kernel⟩
def spRw (K : PySem.W.Frag) (C : Addr) : Sp := fun vs H Q _ => ∃ a b, vs = [.ref a] ∧ SqL K H a (bv b) ∧ b.length ≤ 70000 ∧ (∀ H', Same H H' → TY.wordF b = none → Q .non H') ∧ ∀ v, TY.wordF b = some v → spEnt C H Q v []
theorem ok_rw {f C : Addr} {fd : FuncData} (T : TX P w K mg) (O_small : Own P w K mg base CX0 1 "small" ["code"] spSmall) (O_codes_of : Own P w K mg base CX0 1 "codes_of" ["word"] spCodes) (O_Entry : OwnC P w K mg base CX0 1 C "Entry" ["self", "value", "picture"] (sp_Entry C))
    (F : Fun K "read_word" "read_word" sRw f fd) : FnOk P w K mg base CX0 3 f fd ["codes"] (spRw K C) := by
  refine F.ok scRw (fun vs H Q E h => ?_) (fun cdv A outer s H vs Q E hr h => ?_)
  · obtain ⟨a, b, rfl, _⟩ := h
    rfl
  · obtain ⟨a, b, rfl, hS, hlen, k0, k1⟩ := h
    have nd := scRw.nd
    have hu64 := hr.units
    obtain ⟨a_ERROR_NAMES, g_ERROR_NAMES, s_ERROR_NAMES⟩ := T.c_ERROR_NAMES
    obtain ⟨t3, h3, q3⟩ : ∃ t3, PSs (cxOf CX0 P w K mg base ["codes", "word", "number", "name", "code"] "read_word" (defScope sRw) f cdv A outer s H E).nox ((defBody sRw).drop 3) t3 ∧
        ∀ (q : Addr) (H2 : Hp), Same H H2 → ¬ b.map lower = Sv68.str "true" → ¬ b.map lower = Sv68.str "false" → t3 { nx := fun _ H' => Q .non H', rt := Q } [some (.ref a), some (.ref q), none, none, none] H2 := by
      refine ⟨_, (pss_cons (ps_for PassesOwn.never rfl (pi_enumT rfl T.n_enumerate (pe_gr g_ERROR_NAMES)) (pg_tup rfl (pgs_cons (pg_name (i := 2) nd rfl (Or.inl rfl)) (pgs_cons (pg_name (i := 3) nd rfl (Or.inl rfl)) pgs_nil))) (pss_one (ps_if (pt_cmpR (op_eqD hu64) (pv 0) (pe_own O_codes_of (hr.mono (by decide)) pass0 (pa_cons (pv 3) pa_nil)) (nomark _)) (pss_one (ps_ret (pe_new O_Entry (hr.mono (by decide)) pass0 (pa_cons (pe_lst (pa_cons (pe_gi T.c_ERROR) (pa_cons (pv 2) pa_nil))) (pa_cons (pe_lst pa_nil) pa_nil))))) pss_nil)))
      (pss_one (ps_ret pe_non))), ?_⟩
      intro q H2 sm n1 n2
      have ew : TY.wordF b = match errL b 8 0 with
          | some k => some [4, (k : Int) + 1]
          | none => none := by
        unfold TY.wordF
        rw [if_neg n1, if_neg n2, errL_eq]
        all_goals rfl
      refine ⟨a_ERROR_NAMES, _, rfl, s_ERROR_NAMES _, for_enumT (K := K) (a := a_ERROR_NAMES) (xs := ENAMES.map V.str) (fun i σ H' => ∃ v3 v4 : Option V, σ = [some (.ref a), some (.ref q), v3, v4, none] ∧ Same H H' ∧ i ≤ 8 ∧ errL b 8 0 = errL b (8 - i) i) ⟨none, none, rfl, sm, by omega, rfl⟩ (fun H' => s_ERROR_NAMES _) ?_ ?_⟩
      · rintro i y σ H' T' hy ⟨v3, v4, rfl, sm', hi8, hc⟩ hT
        rw [List.getElem?_map] at hy
        obtain ⟨z, hz, rfl⟩ := Option.map_eq_some_iff.mp hy
        obtain ⟨ez, hzl⟩ := err_codes i z hz
        have hi : i < 8 := (List.getElem?_eq_some_iff.mp hz).1
        have hc2 : errL b (8 - i) i = if Sv68.errorName (i + 1) = b then some i else errL b (8 - (i + 1)) (i + 1) := by
          rw [show 8 - i = (8 - (i + 1)) + 1 by omega]
          rfl
        rw [hc2] at hc
        have sT := sm'.trans (Same.upd (o := .tup [.int ((i + 1 : Nat) : Int), .str z]) hT)
        refine ⟨T', _, rfl, SqT.of upd_same, rfl, _, _, rfl, _, _, rfl, rfl, ?_⟩
        refine ⟨_, rfl, _, rfl, z, rfl, hzl, fun p hp => ?_⟩
        have sp := sT.trans (Same.upd (o := .lst ((codesI z).map V.int)) hp)
        refine ⟨_, _, dp_ints (l := bi b) (sp.seq hS), dp_ints (l := codesI z) (SqL.of upd_same), shaped_ints _, shaped_ints _, ?_⟩
        rw [eqv_ints]
        refine ⟨_, rfl, ite2 (fun q => ?_) (fun q => ?_)⟩
        · have e : Sv68.errorName (i + 1) = b := (bi_inj ((of_decide_eq_true q).trans ez)).symm
          rw [if_pos e] at hc
          have kk := k1 [4, (i : Int) + 1] (by rw [ew, hc])
          refine ⟨_, rfl, (by show 2 ≤ 2 ^ 24; decide), fun r hr' => ⟨Nat.zero_le _, fun r2 hr2 => ?_⟩⟩
          have s2 := Same.upd (o := .lst []) hr2
          refine new_ent kk ((sp.trans (Same.upd hr')).trans s2) (s2 _ _ ?_) upd_same
          rw [upd_same]
          rfl
        · rw [if_neg (fun e => q (decide_eq_true (by rw [ez, e])))] at hc
          exact ⟨_, _, rfl, sp, by omega, hc⟩
      · rintro σ H' ⟨v3, v4, rfl, sm', _, hc⟩
        refine k0 H' sm' ?_
        rw [ew, hc]
        rfl
    refine ⟨_, (pss_cons (ps_setLc (i := 1) rfl nd rfl rfl (sw_true rfl rfl rfl rfl) (pi_list (pv 0)) (blkOk_by (N := ["codes", "word", "number", "name", "code"]) (sc := defScope (top 92)) (own := [("code", 4)]) (by decide +kernel)) (fun _ _ _ _ _ => pg_name (i := 4) nd rfl (Or.inl rfl) (.inr rfl)) (fun _ _ _ _ _ => pts_nil) (fun _ _ _ _ _ => (pe_own O_small (hr.mono (by decide)) pass0 (pa_cons (pv 4) pa_nil))))
      (pss_cons (ps_if (pt_cmpR (op_eqD hu64) (pv 1) (pe_own O_codes_of (hr.mono (by decide)) pass0 (pa_cons pe_str pa_nil)) (nomark _)) (pss_one (ps_ret (pe_new O_Entry (hr.mono (by decide)) pass0 (pa_cons (pe_lst (pa_cons (pe_gi T.c_TRUTH) (pa_cons pe_int pa_nil))) (pa_cons (pe_lst pa_nil) pa_nil))))) pss_nil)
      (pss_cons (ps_if (pt_cmpR (op_eqD hu64) (pv 1) (pe_own O_codes_of (hr.mono (by decide)) pass0 (pa_cons pe_str pa_nil)) (nomark _)) (pss_one (ps_ret (pe_new O_Entry (hr.mono (by decide)) pass0 (pa_cons (pe_lst (pa_cons (pe_gi T.c_TRUTH) (pa_cons pe_int pa_nil))) (pa_cons (pe_lst pa_nil) pa_nil))))) pss_nil)
      h3))), ?_⟩
    refine ⟨_, rfl, a, rfl, ⟨_, hS⟩, fun D hD => lc_pure (K := K) (a := a) (xs := bv b) lowS hS hD (by rw [bv_length]; omega) ?_ ?_⟩
    · intro x H' hx sm Q1 Q2 y1 y2
      obtain ⟨n, hn, rfl⟩ := List.mem_map.mp hx
      exact ⟨rfl, _, rfl, n, rfl, y1 _ rfl⟩
    · rw [lowV]
      have sD := Same.upd (o := .lst (bv (b.map lower))) hD
      refine ⟨_, rfl, "true", rfl, by decide +kernel, fun p hp => ?_⟩
      have s1 := sD.trans (Same.upd (o := .lst ((codesI "true").map V.int)) hp)
      refine ⟨_, _, dp_ints (l := bi (b.map lower)) (SqL.of (by rw [upd_ne (ne_of_none upd_same hp), upd_same])), dp_ints (l := codesI "true") (SqL.of upd_same), shaped_ints _, shaped_ints _, ?_⟩
      rw [eqv_ints, str_codes (s := "true") (by decide +kernel)]
      refine ⟨_, rfl, ite2 (fun q => ?_) (fun q => ?_)⟩
      · have e := of_decide_eq_true q
        have kk := k1 [3, 1] (by unfold TY.wordF; rw [if_pos e])
        refine ⟨(by show 2 ≤ 2 ^ 24; decide), fun r hr' => ⟨Nat.zero_le _, fun r2 hr2 => ?_⟩⟩
        have s2 := Same.upd (o := .lst []) hr2
        exact new_ent kk ((s1.trans (Same.upd hr')).trans s2) (s2 _ _ (by rw [upd_same]; rfl)) upd_same
      · have n1 : ¬ b.map lower = Sv68.str "true" := fun z => q (decide_eq_true z)
        refine ⟨_, rfl, "false", rfl, by decide +kernel, fun p2 hp2 => ?_⟩
        have hDp : D ≠ p := ne_of_none upd_same hp
        have hDp2 : D ≠ p2 := ne_of_none (by rw [upd_ne hDp]; exact upd_same) hp2
        have s2 := s1.trans (Same.upd (o := .lst ((codesI "false").map V.int)) hp2)
        refine ⟨_, _, dp_ints (l := bi (b.map lower)) (SqL.of (by rw [upd_ne hDp2, upd_ne hDp, upd_same])), dp_ints (l := codesI "false") (SqL.of upd_same), shaped_ints _, shaped_ints _, ?_⟩
        rw [eqv_ints, str_codes (s := "false") (by decide +kernel)]
        refine ⟨_, rfl, ite2 (fun q => ?_) (fun q => ?_)⟩
        · have e := of_decide_eq_true q
          have kk := k1 [3, 0] (by unfold TY.wordF; rw [if_neg n1, if_pos e])
          refine ⟨(by show 2 ≤ 2 ^ 24; decide), fun r hr' => ⟨Nat.zero_le _, fun r2 hr2 => ?_⟩⟩
          have s3 := Same.upd (o := .lst []) hr2
          exact new_ent kk ((s2.trans (Same.upd hr')).trans s3) (s3 _ _ (by rw [upd_same]; rfl)) upd_same
        · have n2 : ¬ b.map lower = Sv68.str "false" := fun z => q (decide_eq_true z)
          exact q3 D _ s2 n1 n2
end
end NP
end
section
set_option Elab.async false
set_option linter.all false
set_option maxRecDepth 100000
set_option maxHeartbeats 1000000
namespace NP
open PySem PySem.Spec PyProof.Rows L2
open Sv68 (isDigit lower)
theorem head_beq {b : Bytes} {c : UInt8} (h : b.head? = some c) (k : UInt8) : (b.head? == some k) = (c == k) := by
  rw [h]
  rfl
theorem last_beq {b : Bytes} {c : UInt8} (h : b.getLast? = some c) (k : UInt8) : (b.getLast? == some k) = (c == k) := by
  rw [h]
  rfl
theorem ne_head {b : Bytes} (h : b ≠ []) : ∃ c, b.head? = some c := by
  cases b with
  | nil => exact absurd rfl h
  | cons c r => exact ⟨c, rfl⟩
theorem ne_last {b : Bytes} (h : b ≠ []) : ∃ c, b.getLast? = some c := ⟨_, List.getLast?_eq_some_getLast h⟩
section
variable {P : Program} {w : World} {K : PySem.W.Frag} {mg : Str → Option Value} {base : Heap}
abbrev sIbr : Stmt := top 67
theorem scIbr : FnScope ["codes"] ["codes"] (defScope sIbr) := ⟨rfl, rfl, rfl, by decide +kernel, rfl, by decide +kernel, by decide +kernel⟩
def spIbr (K : PySem.W.Frag) : Sp := fun vs H Q _ => ∃ a b, vs = [.ref a] ∧ SqL K H a (bv b) ∧ Q (.bl (TY.brk b)) H
theorem ok_ibr {f : Addr} {fd : FuncData} (T : TX P w K mg) (F : Fun K "is_bracketed" "is_bracketed" sIbr f fd) : FnOk P w K mg base CX0 1 f fd ["codes"] (spIbr K) := by
  refine F.ok scIbr (fun vs H Q E h => ?_) (fun cdv A outer s H vs Q E hr h => ?_)
  · obtain ⟨a, b, rfl, _⟩ := h
    rfl
  · obtain ⟨a, b, rfl, hS, k⟩ := h
    refine ⟨_, (pss_one (ps_ret (pe_and (pe_cmpR op_gt (pe_callB call_len_seq rfl T.n_len (by decide +kernel) (pa_cons (pv 0) pa_nil)) pe_int (nomark _)) (pe_and (pe_cmpR op_eq (pe_ix ix_list (pv 0) pe_int (fun _ _ => rfl)) (pe_gi T.c_OPENING) (nomark _)) (pe_one (pe_cmpR op_eq (pe_ix ix_list (pv 0) (pe_un un_neg pe_int) (fun _ _ => rfl)) (pe_gi T.c_CLOSING) (nomark _))))))), ?_⟩
    unfold TY.brk at k
    refine ⟨_, rfl, a, _, rfl, .inl hS, _, _, rfl, rfl, _, rfl, ite2 (fun q => ?_) (fun q => ?_)⟩
    · have q1 : 2 < b.length := by
        have := of_decide_eq_true q
        rw [bv_length] at this
        omega
      have hne : b ≠ [] := fun z => by rw [z] at q1; exact absurd q1 (by decide)
      obtain ⟨c, hc⟩ := ne_head hne
      obtain ⟨d, hd⟩ := ne_last hne
      rw [decide_eq_true q1, Bool.true_and, head_beq hc, last_beq hd] at k
      refine ⟨_, rfl, a, _, _, _, rfl, rfl, hS, at_0 hc, rfl, _, rfl, ?_⟩
      rw [u8_dec c 40 40 rfl]
      refine ite2 (fun q => ?_) (fun q => ?_)
      · rw [show (c == 40) = true from q, Bool.true_and] at k
        refine ⟨_, rfl, _, rfl, a, _, _, _, rfl, rfl, hS, at_m1 hd, rfl, ?_⟩
        rw [u8_dec d 41 41 rfl]
        exact k
      · rw [show (c == 40) = false from by simpa using q, Bool.false_and] at k
        exact k
    · have q1 : ¬ 2 < b.length := fun z => q (decide_eq_true (by rw [bv_length]; omega))
      rw [decide_eq_false q1, Bool.false_and] at k
      exact k
abbrev sIb0 : Stmt := top 68
theorem scIb0 : FnScope ["codes"] ["codes"] (defScope sIb0) := ⟨rfl, rfl, rfl, by decide +kernel, rfl, by decide +kernel, by decide +kernel⟩
def spIb0 (K : PySem.W.Frag) : Sp := fun vs H Q _ => ∃ a b, vs = [.ref a] ∧ SqL K H a (bv b) ∧ b ≠ [] ∧ Q (.bl (TY.below b)) H
theorem ok_ib0 {f : Addr} {fd : FuncData} (T : TX P w K mg) (O_is_bracketed : Own P w K mg base CX0 1 "is_bracketed" ["codes"] (spIbr K)) (F : Fun K "is_below_0" "is_below_0" sIb0 f fd) : FnOk P w K mg base CX0 2 f fd ["codes"] (spIb0 K) := by
  refine F.ok scIb0 (fun vs H Q E h => ?_) (fun cdv A outer s H vs Q E hr h => ?_)
  · obtain ⟨a, b, rfl, _⟩ := h
    rfl
  · obtain ⟨a, b, rfl, hS, hne, k⟩ := h
    refine ⟨_, (pss_one (ps_ret (pe_or (pe_cmpR op_eq (pe_ix ix_list (pv 0) pe_int (fun _ _ => rfl)) (pe_gi T.c_MINUS) (nomark _)) (pe_one (pe_own O_is_bracketed (hr.mono (by decide)) pass0 (pa_cons (pv 0) pa_nil)))))), ?_⟩
    obtain ⟨c, hc⟩ := ne_head hne
    unfold TY.below at k
    rw [head_beq hc] at k
    refine ⟨_, rfl, a, _, _, _, rfl, rfl, hS, at_0 hc, rfl, _, rfl, ?_⟩
    rw [u8_dec c 45 45 rfl]
    refine ite2 (fun q => ?_) (fun q => ?_)
    · rw [show (c == 45) = true from q, Bool.or_true] at k
      exact k
    · rw [show (c == 45) = false from by simpa using q, Bool.or_false] at k
      exact ⟨_, rfl, a, b, rfl, hS, k⟩
abbrev sWsg : Stmt := top 69
theorem scWsg : FnScope ["codes"] ["codes"] (defScope sWsg) := ⟨rfl, rfl, rfl, by decide +kernel, rfl, by decide +kernel, by decide +kernel⟩
def spWsg (K : PySem.W.Frag) : Sp := fun vs H Q _ => ∃ a b, vs = [.ref a] ∧ SqL K H a (bv b) ∧ b ≠ [] ∧ ∀ p H', Same H H' → SqL K H' p (bv (TY.noSign b)) → Q (.ref p) H'
theorem ok_wsg {f : Addr} {fd : FuncData} (T : TX P w K mg) (O_is_bracketed : Own P w K mg base CX0 1 "is_bracketed" ["codes"] (spIbr K)) (F : Fun K "without_sign" "without_sign" sWsg f fd) : FnOk P w K mg base CX0 2 f fd ["codes"] (spWsg K) := by
  refine F.ok scWsg (fun vs H Q E h => ?_) (fun cdv A outer s H vs Q E hr h => ?_)
  · obtain ⟨a, b, rfl, _⟩ := h
    rfl
  · obtain ⟨a, b, rfl, hS, hne, k⟩ := h
    refine ⟨_, (pss_cons (ps_if (pt_val (pe_own O_is_bracketed (hr.mono (by decide)) pass0 (pa_cons (pv 0) pa_nil))) (pss_one (ps_ret (pe_slice sl_list (pv 0) (po_some pe_int) (po_some (pe_un un_neg pe_int))))) pss_nil)
      (pss_one (ps_ret (pe_ifExp (PW.pt (pw_or (pt_cmpR op_eq (pe_ix ix_list (pv 0) pe_int (fun _ _ => rfl)) (pe_gi T.c_MINUS) (nomark _)) (pw_or1 (pt_cmpR op_eq (pe_ix ix_list (pv 0) pe_int (fun _ _ => rfl)) (pe_gi T.c_PLUS) (nomark _))))) (pe_slice sl_list (pv 0) (po_some pe_int) po_none) (pv 0))))), ?_⟩
    obtain ⟨c, hc⟩ := ne_head hne
    unfold TY.noSign at k
    refine ⟨_, rfl, a, b, rfl, hS, _, rfl, ite2 (fun q => ?_) (fun q => ?_)⟩
    · rw [if_pos q] at k
      refine ⟨_, rfl, (1 : Int), rfl, _, rfl, (-1 : Int), rfl, a, _, rfl, hS, fun p hp => ?_⟩
      rw [cut_1m1]
      exact k p _ (Same.upd hp) (SqL.of upd_same)
    · rw [if_neg q, hc] at k
      have cut : (c = 45 ∨ c = 43) → ∀ p, H p = none → Q (.ref p) (upd H p (.lst (cutV (bv b) (some 1) none))) := fun z p hp => by
        rw [if_pos (z.imp (congrArg some) (congrArg some))] at k
        rw [show cutV (bv b) (some 1) none = bv (b.drop 1) from bcut_from b 1]
        exact k p _ (Same.upd hp) (SqL.of upd_same)
      refine ⟨_, rfl, a, _, _, _, rfl, rfl, hS, at_0 hc, rfl, _, rfl, ?_⟩
      rw [u8_dec c 45 45 rfl]
      refine ite2 (fun q1 => ?_) (fun q1 => ?_)
      · exact iteT ⟨_, rfl, (1 : Int), rfl, a, _, rfl, hS, cut (.inl (by simpa using q1))⟩
      · refine ⟨_, rfl, a, _, _, _, rfl, rfl, hS, at_0 hc, rfl, _, rfl, ?_⟩
        rw [u8_dec c 43 43 rfl]
        refine ite2 (fun q2 => ?_) (fun q2 => ?_)
        · exact ⟨_, rfl, (1 : Int), rfl, a, _, rfl, hS, cut (.inr (by simpa using q2))⟩
        · rw [if_neg (fun z => z.elim (fun y => q1 (by simpa using Option.some.inj y)) fun y => q2 (by simpa using Option.some.inj y))] at k
          exact ⟨_, rfl, k a H (Same.refl H) hS⟩
abbrev sWes : Stmt := top 72
theorem scWes : FnScope ["codes"] ["codes"] (defScope sWes) := ⟨rfl, rfl, rfl, by decide +kernel, rfl, by decide +kernel, by decide +kernel⟩
def spWes (K : PySem.W.Frag) : Sp := fun vs H Q _ => ∃ a b, vs = [.ref a] ∧ SqL K H a (bv b) ∧ ∀ p H', Same H H' → SqL K H' p (bv (TY.stripE b)) → Q (.ref p) H'
theorem take1 (b : Bytes) (c : UInt8) : b.take 1 = [c] ↔ b.head? = some c := by
  cases b with
  | nil => simp
  | cons x r => simp
theorem ok_wes {f : Addr} {fd : FuncData} (T : TX P w K mg) (F : Fun K "without_exponent_sign" "without_exponent_sign" sWes f fd) : FnOk P w K mg base CX0 1 f fd ["codes"] (spWes K) := by
  refine F.ok scWes (fun vs H Q E h => ?_) (fun cdv A outer s H vs Q E hr h => ?_)
  · obtain ⟨a, b, rfl, _⟩ := h
    rfl
  · obtain ⟨a, b, rfl, hS, k⟩ := h
    have hu64 := hr.units
    refine ⟨_, (pss_one (ps_ret (pe_ifExp (PW.pt (pw_or (pt_cmpR (op_eqD hu64) (pe_slice sl_list (pv 0) po_none (po_some pe_int)) (pe_lst (pa_cons (pe_gi T.c_PLUS) pa_nil)) (nomark _)) (pw_or1 (pt_cmpR (op_eqD hu64) (pe_slice sl_list (pv 0) po_none (po_some pe_int)) (pe_lst (pa_cons (pe_gi T.c_MINUS) pa_nil)) (nomark _))))) (pe_slice sl_list (pv 0) (po_some pe_int) po_none) (pv 0)))), ?_⟩
    unfold TY.stripE at k
    have e1 : cutV (bv b) none (some 1) = bv (b.take 1) := bcut_to b 1
    have cut : ∀ H1, Same H H1 → (b.head? = some 43 ∨ b.head? = some 45) → ∀ p, H1 p = none → Q (.ref p) (upd H1 p (.lst (cutV (bv b) (some 1) none))) := fun H1 sm z p hp => by
      rw [if_pos z] at k
      rw [show cutV (bv b) (some 1) none = bv (b.drop 1) from bcut_from b 1]
      exact k p _ (sm.trans (Same.upd hp)) (SqL.of upd_same)
    have dc : ∀ c : UInt8, decide (bi (b.take 1) = [(c.toNat : Int)]) = decide (b.head? = some c) := fun c => decide_eq_decide.mpr ((show bi (b.take 1) = [(c.toNat : Int)] ↔ b.take 1 = [c] from ⟨fun z => bi_inj (b := [c]) z, fun z => by rw [z]; rfl⟩).trans (take1 b c))
    refine ⟨_, rfl, (1 : Int), rfl, a, _, rfl, hS, ?_⟩
    rw [e1]
    refine fun p hp => ⟨(by show 1 ≤ 2 ^ 24; decide), fun q hq => ?_⟩
    have sp1 : Same H (upd H p (.lst (bv (b.take 1)))) := Same.upd hp
    have pq : p ≠ q := ne_of_none upd_same hq
    have sp2 := sp1.trans (Same.upd (o := .lst [V.int 43]) hq)
    refine ⟨_, _, dp_ints (l := bi (b.take 1)) (SqL.of (by rw [upd_ne pq, upd_same])), dp_ints (l := [43]) (SqL.of upd_same), shaped_ints _, shaped_ints _, ?_⟩
    rw [eqv_ints]
    refine ⟨_, rfl, ite2 (fun z => ?_) (fun z => ?_)⟩
    · have h43 : b.head? = some 43 := by
        have y := dc 43
        rw [show ((43 : UInt8).toNat : Int) = 43 from rfl] at y
        rw [y] at z
        exact of_decide_eq_true z
      exact iteT ⟨_, rfl, (1 : Int), rfl, a, _, rfl, sp2.seq hS, cut _ sp2 (.inl h43)⟩
    · have h43 : ¬ b.head? = some 43 := fun y => by
        have y2 := dc 43
        rw [show ((43 : UInt8).toNat : Int) = 43 from rfl] at y2
        exact z (by rw [y2]; exact decide_eq_true y)
      refine ⟨_, rfl, (1 : Int), rfl, a, _, rfl, sp2.seq hS, ?_⟩
      rw [e1]
      refine fun p3 hp3 => ⟨(by show 1 ≤ 2 ^ 24; decide), fun q4 hq4 => ?_⟩
      have s3 := sp2.trans (Same.upd (o := .lst (bv (b.take 1))) hp3)
      have pq3 : p3 ≠ q4 := ne_of_none upd_same hq4
      have s4 := s3.trans (Same.upd (o := .lst [V.int 45]) hq4)
      refine ⟨_, _, dp_ints (l := bi (b.take 1)) (SqL.of (by rw [upd_ne pq3, upd_same])), dp_ints (l := [45]) (SqL.of upd_same), shaped_ints _, shaped_ints _, ?_⟩
      rw [eqv_ints]
      have y := dc 45
      rw [show ((45 : UInt8).toNat : Int) = 45 from rfl] at y
      rw [y]
      refine ⟨_, rfl, ite2 (fun z => ?_) (fun z => ?_)⟩
      · exact ⟨_, rfl, (1 : Int), rfl, a, _, rfl, s4.seq hS, cut _ s4 (.inr (of_decide_eq_true z))⟩
      · rw [if_neg (fun x => x.elim h43 fun x => z (decide_eq_true x))] at k
        exact ⟨_, rfl, k a _ s4 (s4.seq hS)⟩
abbrev sIex : Stmt := top 71
theorem scIex : FnScope ["codes"] ["codes"] (defScope sIex) := ⟨rfl, rfl, rfl, by decide +kernel, rfl, by decide +kernel, by decide +kernel⟩
def spIex (K : PySem.W.Frag) : Sp := fun vs H Q _ => ∃ a b, vs = [.ref a] ∧ SqL K H a (bv b) ∧ ∀ H', Same H H' → Q (.bl (TY.isExp b)) H'
theorem ok_iex {f : Addr} {fd : FuncData} (T : TX P w K mg) (O_without_exponent_sign : Own P w K mg base CX0 1 "without_exponent_sign" ["codes"] (spWes K)) (O_are_digits : Own P w K mg base CX0 2 "are_digits" ["codes", "least", "most"] (spAred K)) (F : Fun K "is_exponent" "is_exponent" sIex f fd) : FnOk P w K mg base CX0 3 f fd ["codes"] (spIex K) := by
  refine F.ok scIex (fun vs H Q E h => ?_) (fun cdv A outer s H vs Q E hr h => ?_)
  · obtain ⟨a, b, rfl, _⟩ := h
    rfl
  · obtain ⟨a, b, rfl, hS, k⟩ := h
    refine ⟨_, (pss_one (ps_ret (pe_own O_are_digits (hr.mono (by decide)) pass0 (pa_cons (pe_own O_without_exponent_sign (hr.mono (by decide)) pass0 (pa_cons (pv 0) pa_nil)) (pa_cons pe_int (pa_cons pe_int pa_nil)))))), ?_⟩
    exact ⟨_, rfl, a, b, rfl, hS, fun p H' sm hp => ⟨p, TY.stripE b, 1, 2, rfl, hp, k H' sm⟩⟩
abbrev sEof : Stmt := top 73
theorem scEof : FnScope ["codes", "size"] ["codes"] (defScope sEof) := ⟨rfl, rfl, rfl, by decide +kernel, rfl, by decide +kernel, by decide +kernel⟩
def spEof (K : PySem.W.Frag) : Sp := fun vs H Q _ => ∃ a b, vs = [.ref a] ∧ SqL K H a (bv b) ∧ TY.isExp b = true ∧ ∀ H', Same H H' → Q (.int (TY.expOf b)) H'
theorem ok_eof {f : Addr} {fd : FuncData} (T : TX P w K mg) (O_without_exponent_sign : Own P w K mg base CX0 1 "without_exponent_sign" ["codes"] (spWes K)) (O_number_of : Own P w K mg base CX0 1 "number_of" ["digits"] (spNumof K)) (F : Fun K "exponent_of" "exponent_of" sEof f fd) : FnOk P w K mg base CX0 2 f fd ["codes"] (spEof K) := by
  refine F.ok scEof (fun vs H Q E h => ?_) (fun cdv A outer s H vs Q E hr h => ?_)
  · obtain ⟨a, b, rfl, _⟩ := h
    rfl
  · obtain ⟨a, b, rfl, hS, hx, k⟩ := h
    have nd := scEof.nd
    refine ⟨_, (pss_cons (ps_set (i := 1) nd rfl (Or.inl rfl) (pe_own O_number_of (hr.mono (by decide)) pass0 (pa_cons (pe_own O_without_exponent_sign (hr.mono (by decide)) pass0 (pa_cons (pv 0) pa_nil)) pa_nil)))
      (pss_one (ps_ret (pe_ifExp (pt_cmpR op_eq (pe_ix ix_list (pv 0) pe_int (fun _ _ => rfl)) (pe_gi T.c_MINUS) (nomark _)) (pe_un un_neg (pv 1)) (pv 1))))), ?_⟩
    obtain ⟨c, hc⟩ := ne_head (TY.exp_sign hx).2
    have hd : (TY.stripE b).all isDigit = true := (TY.dg_iff.mp hx).2.2
    unfold TY.expOf at k
    rw [hc] at k
    refine ⟨_, rfl, a, b, rfl, hS, fun p H' sm hp => ⟨p, TY.stripE b, rfl, hp, hd, ?_⟩⟩
    refine ⟨_, rfl, a, _, _, _, rfl, rfl, sm.seq hS, at_0 hc, rfl, _, rfl, ?_⟩
    rw [u8_dec c 45 45 rfl]
    refine ite2 (fun q => ?_) (fun q => ?_)
    · have := k H' sm
      rw [if_pos (by rw [show c = 45 by simpa using q])] at this
      exact ⟨_, rfl, _, rfl, this⟩
    · have := k H' sm
      rw [if_neg (fun z => q (by rw [show c = 45 from Option.some.inj z]; rfl))] at this
      exact ⟨_, rfl, this⟩
abbrev sAgr : Stmt := top 74
theorem scAgr : FnScope ["groups", "group"] ["groups"] (defScope sAgr) := ⟨rfl, rfl, rfl, by decide +kernel, rfl, by decide +kernel, by decide +kernel⟩
def spAgr (K : PySem.W.Frag) : Sp := fun vs H Q _ => ∃ a, ∃ (qs : List Addr) (ls : List Bytes), vs = [.ref a] ∧ H a = some (.lst (qs.map V.ref)) ∧ ListsAt H qs ls ∧ ls ≠ [] ∧ ls.length ≤ 70001 ∧ ∀ H', Same H H' → Q (.bl (TY.areGroups ls)) H'
def len3 (H : Hp) (x : V) : Option V := match x with
  | .ref q => match H q with
    | some (.lst l) => some (.bl (decide (V.int (l.length : Int) = V.int 3)))
    | _ => none
  | _ => none
theorem len3_all {H : Hp} {qs : List Addr} {ls : List Bytes} (h : ListsAt H qs ls) : (qs.map V.ref).filterMap (len3 H) = (ls.map fun x => decide (x.length = 3)).map V.bl := by
  induction h with
  | nil => rfl
  | @cons q l qs ls r t ih =>
    have e : len3 H (.ref q) = some (V.bl (decide (l.length = 3))) := by
      unfold len3
      dsimp only
      rw [r]
      show some (V.bl (decide (V.int ((bv l).length : Int) = V.int 3))) = _
      rw [bv_length]
      congr 2
      exact decide_eq_decide.mpr ⟨fun z => by have := V.int.inj z; omega, fun z => by rw [z]; rfl⟩
    rw [List.map_cons, List.filterMap_cons, e, ih]
    rfl
theorem ok_agr {f : Addr} {fd : FuncData} (T : TX P w K mg) (F : Fun K "are_groups" "are_groups" sAgr f fd) : FnOk P w K mg base CX0 1 f fd ["groups"] (spAgr K) := by
  refine F.ok scAgr (fun vs H Q E h => ?_) (fun cdv A outer s H vs Q E hr h => ?_)
  · obtain ⟨a, qs, ls, rfl, _⟩ := h
    rfl
  · obtain ⟨a, qs, ls, rfl, ha, hL, hne, hlen, k⟩ := h
    have nd := scAgr.nd
    refine ⟨_, (pss_cons (ps_if (pt_cmpR op_eq (pe_callB call_len_seq rfl T.n_len (by decide +kernel) (pa_cons (pv 0) pa_nil)) pe_int (nomark _)) (pss_one (ps_ret pe_bl)) pss_nil)
      (pss_one (ps_ret (pe_and (pe_chain op_le op_le pe_int (pe_callB call_len_seq rfl T.n_len (by decide +kernel) (pa_cons (pe_ix ix_list (pv 0) pe_int (fun _ _ => rfl)) pa_nil)) pe_int) (pe_one (pe_callB (cr_all rfl) rfl T.n_all (by decide +kernel) (pa_cons (pe_lc rfl nd (pi_list (pe_slice sl_list (pv 0) (po_some pe_int) po_none)) (blkOk_by (N := ["groups", "group"]) (sc := defScope (top 74)) (own := [("group", 1)]) (by decide +kernel)) (fun _ _ _ _ _ => pg_name (i := 1) nd rfl (Or.inl rfl) (.inr rfl)) (fun _ _ _ _ _ => pts_nil) (fun _ _ _ _ _ => (pe_cmpR op_eq (pe_callB (show CallR _ _ (fun xs H Q => ∃ p ys, xs = [.ref p] ∧ (SqL K H p ys ∨ SqT K H p ys) ∧ Q (.int ys.length) H) from call_len_seq) rfl T.n_len (by decide +kernel) (pa_cons (pv 1) pa_nil)) pe_int (nomark _)))) pa_nil))))))), ?_⟩
    have k0 := k H (Same.refl H)
    cases hL with
    | nil => exact absurd rfl hne
    | @cons q0 g qs ls c0 hL =>
      refine ⟨_, rfl, a, _, rfl, .inl (SqL.of ha), rfl, _, rfl, ite2 (fun q => ?_) (fun q => ?_)⟩
      · have e : ls = [] := by
          have h1 : (((V.ref q0 :: qs.map V.ref).length : Nat) : Int) = 1 := V.int.inj (of_decide_eq_true q)
          have h2 := hL.length
          rw [List.length_cons, List.length_map] at h1
          exact List.eq_nil_of_length_eq_zero (by omega)
        rw [e] at k0
        exact k0
      · have hl2 := hL.length
        have ne : ls ≠ [] := fun z => q (by
          rw [z] at hl2
          have : qs = [] := List.eq_nil_of_length_eq_zero hl2
          rw [this]
          rfl)
        obtain ⟨g2, r2, e2⟩ : ∃ g2 r2, ls = g2 :: r2 := by
          cases ls with
          | nil => exact absurd rfl ne
          | cons x y => exact ⟨x, y, rfl⟩
        have ek : TY.areGroups (g :: ls) = (decide (1 ≤ g.length) && (decide (g.length ≤ 3) && ls.all fun x => decide (x.length = 3))) := by
          rw [e2]
          rfl
        rw [ek] at k0 k
        refine ⟨_, rfl, a, _, _, _, rfl, rfl, SqL.of ha, atI_nat (j := 0) rfl, q0, _, rfl, .inl (SqL.of c0), _, _, rfl, rfl, _, rfl, ite2 (fun z => ?_) (fun z => ?_)⟩
        · have z1 : 1 ≤ g.length := by
            have := of_decide_eq_true z
            rw [bv_length] at this
            omega
          rw [decide_eq_true z1, Bool.true_and] at k0 k
          refine ⟨_, _, rfl, rfl, _, rfl, ite2 (fun z => ?_) (fun z => ?_)⟩
          · have z2 : g.length ≤ 3 := by
              have := of_decide_eq_true z
              rw [bv_length] at this
              omega
            rw [decide_eq_true z2, Bool.true_and] at k0 k
            refine ⟨_, rfl, (1 : Int), rfl, a, _, rfl, SqL.of ha, ?_⟩
            rw [show cutV ((q0 :: qs).map V.ref) (some 1) none = qs.map V.ref from cut_from _ 1]
            intro p hp
            have su := Same.upd (o := .lst (qs.map V.ref)) hp
            refine ⟨p, rfl, ⟨_, SqL.of upd_same⟩, fun D hD => lc_pure (K := K) (a := p) (xs := qs.map V.ref) (len3 H) (SqL.of upd_same) hD (by rw [List.length_map, hl2]; rw [List.length_cons] at hlen; omega) ?_ ?_⟩
            · intro x H' hx sm Q1 Q2 y1 y2
              obtain ⟨q', hq', rfl⟩ := List.mem_map.mp hx
              obtain ⟨i, hi⟩ := List.getElem?_of_mem hq'
              obtain ⟨l', hl', r'⟩ := A2.get hL hi
              have e : len3 H (.ref q') = some (V.bl (decide (V.int ((bv l').length : Int) = V.int 3))) := by
                unfold len3
                dsimp only
                rw [r']
              exact ⟨rfl, _, rfl, q', _, rfl, .inl (SqL.of (sm _ _ (su _ _ r'))), rfl, y1 _ e⟩
            · rw [len3_all hL]
              refine ⟨D, _, rfl, SqL.of upd_same, ?_⟩
              rw [List.all_map]
              exact k _ (su.trans (Same.upd hD))
          · have z2 : ¬ g.length ≤ 3 := fun y => z (decide_eq_true (by rw [bv_length]; omega))
            rw [decide_eq_false z2, Bool.false_and] at k0
            exact k0
        · have z1 : ¬ 1 ≤ g.length := fun y => z (decide_eq_true (by rw [bv_length]; omega))
          rw [decide_eq_false z1, Bool.false_and] at k0
          exact ⟨_, rfl, iteF k0⟩
end
end NP
end
section
set_option Elab.async false
set_option linter.all false
set_option maxRecDepth 100000
set_option maxHeartbeats 1000000
namespace NP
open PySem PySem.Spec PyProof.Rows L2
open Sv68 (isDigit lower)
def fs_Figure (v1 v2 v3 v4 : V) : List (Str × V) := (putF "has_commas" v4 (putF "scale" v3 (putF "decimals" v2 (putF "digits" v1 []))))
theorem fs_Figure_digits (v1 v2 v3 v4 : V) : (fs_Figure v1 v2 v3 v4).lookup ("digits" : Str) = some v1 := by
  unfold fs_Figure
  rw [lookup_putF, if_neg (by decide +kernel), lookup_putF, if_neg (by decide +kernel), lookup_putF, if_neg (by decide +kernel), lookup_putF, if_pos rfl]
theorem fs_Figure_decimals (v1 v2 v3 v4 : V) : (fs_Figure v1 v2 v3 v4).lookup ("decimals" : Str) = some v2 := by
  unfold fs_Figure
  rw [lookup_putF, if_neg (by decide +kernel), lookup_putF, if_neg (by decide +kernel), lookup_putF, if_pos rfl]
theorem fs_Figure_scale (v1 v2 v3 v4 : V) : (fs_Figure v1 v2 v3 v4).lookup ("scale" : Str) = some v3 := by
  unfold fs_Figure
  rw [lookup_putF, if_neg (by decide +kernel), lookup_putF, if_pos rfl]
theorem fs_Figure_has_commas (v1 v2 v3 v4 : V) : (fs_Figure v1 v2 v3 v4).lookup ("has_commas" : Str) = some v4 := by
  unfold fs_Figure
  rw [lookup_putF, if_pos rfl]
structure Tx_Figure (K : PySem.W.Frag) (C : Addr) : Prop where
  cl : Cls K C
  n_digits : NoAttr K C "digits"
  n_decimals : NoAttr K C "decimals"
  n_scale : NoAttr K C "scale"
  n_has_commas : NoAttr K C "has_commas"
def At_Figure (C : Addr) (H : Hp) (a : Addr) (v1 v2 v3 v4 : V) : Prop := ∃ dx, H a = some (.ins C dx (fs_Figure v1 v2 v3 v4))
abbrev si_Figure : Stmt := inClass (top 65) 0
def sp_Figure (C : Addr) : Sp := fun vs H Q _ => ∃ (p dx : Addr) (v1 v2 v3 v4 : V), vs = [.ref p, v1, v2, v3, v4] ∧ H p = some (.ins C dx []) ∧ Q .non (upd H p (.ins C dx (fs_Figure v1 v2 v3 v4)))
theorem sc_Figure : FnScope ["self", "digits", "decimals", "scale", "has_commas"] ["self", "digits", "decimals", "scale", "has_commas"] (defScope si_Figure) := ⟨rfl, rfl, rfl, by decide +kernel, rfl, by decide +kernel, by decide +kernel⟩
theorem ok_Figure {P : Program} {w : World} {K : PySem.W.Frag} {mg : Str → Option Value} {base : Heap} {f C : Addr} {fd : FuncData} (T : Tx_Figure K C) (F : Fun K "__init__" "Figure.__init__" si_Figure f fd) : FnOk P w K mg base CX0 1 f fd ["self", "digits", "decimals", "scale", "has_commas"] (sp_Figure C) := by
  refine F.ok sc_Figure (fun vs H Q E h => ?_) (fun cdv A outer s H vs Q E hr h => ?_)
  · obtain ⟨p, dx, v1, v2, v3, v4, rfl, _⟩ := h
    rfl
  · obtain ⟨p, dx, v1, v2, v3, v4, rfl, hp, k⟩ := h
    refine ⟨_, (pss_cons (ps_fld (pv 0) (pv 1) rfl) (pss_cons (ps_fld (pv 0) (pv 2) rfl) (pss_cons (ps_fld (pv 0) (pv 3) rfl) (pss_one (ps_fld (pv 0) (pv 4) rfl))))), ?_⟩
    refine ⟨_, rfl, _, rfl, p, C, dx, [], rfl, hp, T.cl, T.n_digits, (by show 0 < 1000; decide), ?_⟩
    refine ⟨_, rfl, _, rfl, p, C, dx, _, rfl, upd_same, T.cl, T.n_decimals, (by show 1 < 1000; decide), ?_⟩
    refine ⟨_, rfl, _, rfl, p, C, dx, _, rfl, upd_same, T.cl, T.n_scale, (by show 2 < 1000; decide), ?_⟩
    refine ⟨_, rfl, _, rfl, p, C, dx, _, rfl, upd_same, T.cl, T.n_has_commas, (by show 3 < 1000; decide), ?_⟩
    rw [upd_upd, upd_upd, upd_upd]
    exact k
def FigAt (C : Addr) (H : Hp) (x : Addr) (f : TY.Fig) : Prop := ∃ a d, At_Figure C H x (.ref a) (.ref d) (.int f.scale) (.bl f.commas) ∧ H a = some (.lst (bv f.digits)) ∧ H d = some (.lst (bv f.decimals))
def noC (x : V) : Option V := if x = V.int 44 then none else some x
theorem noC_all (b : Bytes) : (bv b).filterMap noC = bv (b.filter fun x => x != 44) := by
  induction b with
  | nil => rfl
  | cons c r ih =>
    show (V.int (c.toNat : Int) :: bv r).filterMap noC = _
    rw [List.filterMap_cons, ih, List.filter_cons]
    by_cases h : c = 44
    · subst h
      rfl
    · have e : noC (V.int (c.toNat : Int)) = some (V.int (c.toNat : Int)) := if_neg fun z => h (u8_eq.mpr (V.int.inj z))
      rw [e, if_pos (by simpa using h)]
      rfl
theorem len_flat {α : Type} : ∀ {L : List (List α)} {h : List α}, h ∈ L → h.length ≤ L.flatten.length
  | x :: L, h, m => by
    rw [List.flatten_cons, List.length_append]
    rcases List.mem_cons.mp m with rfl | m
    · omega
    · have := len_flat m
      omega
theorem part_len {c : UInt8} {b h : Bytes} (m : h ∈ b.splitOn c) : h.length ≤ b.length := by
  refine Nat.le_trans (len_flat m) ?_
  rw [TY.sp_flat]
  exact List.length_filter_le _ _
section
variable {P : Program} {w : World} {K : PySem.W.Frag} {mg : Str → Option Value} {base : Heap}
abbrev sRfig : Stmt := top 70
theorem scRfig : FnScope ["codes", "parts", "exponent", "halves", "groups", "whole", "decimals", "code"] ["codes"] (defScope sRfig) := ⟨rfl, rfl, rfl, by decide +kernel, rfl, by decide +kernel, by decide +kernel⟩
def spRfig (K : PySem.W.Frag) (C : Addr) : Sp := fun vs H Q _ => ∃ a b, vs = [.ref a] ∧ SqL K H a (bv b) ∧ b.length ≤ 70000 ∧ (∀ H', Same H H' → TY.figF b = none → Q .non H') ∧ ∀ x H' f, TY.figF b = some f → Same H H' → FigAt C H' x f → Q (.ref x) H'
theorem ok_rfig {f C : Addr} {fd : FuncData} (T : TX P w K mg) (O_small : Own P w K mg base CX0 1 "small" ["code"] spSmall) (O_parted : Own P w K mg base CX0 1 "parted" ["codes", "sign"] (spParted K)) (O_is_exponent : Own P w K mg base CX0 3 "is_exponent" ["codes"] (spIex K)) (O_exponent_of : Own P w K mg base CX0 2 "exponent_of" ["codes"] (spEof K))
    (O_are_groups : Own P w K mg base CX0 1 "are_groups" ["groups"] (spAgr K)) (O_are_digits : Own P w K mg base CX0 2 "are_digits" ["codes", "least", "most"] (spAred K)) (O_Figure : OwnC P w K mg base CX0 1 C "Figure" ["self", "digits", "decimals", "scale", "has_commas"] (sp_Figure C))
    (F : Fun K "read_figure" "read_figure" sRfig f fd) : FnOk P w K mg base CX0 4 f fd ["codes"] (spRfig K C) := by
  refine F.ok scRfig (fun vs H Q E h => ?_) (fun cdv A outer s H vs Q E hr h => ?_)
  · obtain ⟨a, b, rfl, _⟩ := h
    rfl
  · obtain ⟨a, b, rfl, hS, hlen, k0, k1⟩ := h
    have nd := scRfig.nd
    -- if not are_groups ..; return Figure(..)
    obtain ⟨t8, h8, q8⟩ : ∃ t8, PSs (cxOf CX0 P w K mg base ["codes", "parts", "exponent", "halves", "groups", "whole", "decimals", "code"] "read_figure" (defScope sRfig) f cdv A outer s H E).nox ((defBody sRfig).drop 8) t8 ∧
        ∀ (e : Int) (p hv g wq dq : Addr) (qs : List Addr) (h d : Bytes) (H2 : Hp), Same H H2 → H2 g = some (.lst (qs.map V.ref)) → ListsAt H2 qs (h.splitOn 44) → H2 wq = some (.lst (bv (h.filter fun x => x != 44))) → H2 dq = some (.lst (bv d)) → h.length ≤ 70000 → d.length ≤ 70000 → TY.figF b = TY.figW h d e →
          t8 { nx := fun _ H' => Q .non H', rt := Q } [some (.ref a), some (.ref p), some (.int e), some (.ref hv), some (.ref g), some (.ref wq), some (.ref dq), none] H2 := by
      refine ⟨_, (pss_cons (ps_if (PW.pt (pw_or (pt_not (pt_val (pe_own O_are_groups (hr.mono (by decide)) pass0 (pa_cons (pv 4) pa_nil)))) (pw_or1 (pt_not (pt_val (pe_own O_are_digits (hr.mono (by decide)) pass0 (pa_cons (pe_op op_catL (pv 5) (pv 6)) (pa_cons pe_int (pa_cons (pe_gi T.c_MOST_DIGITS) pa_nil))))))))) (pss_one (ps_ret pe_non)) pss_nil)
      (pss_one (ps_ret (pe_new O_Figure (hr.mono (by decide)) pass0 (pa_cons (pe_op op_catL (pv 5) (pv 6)) (pa_cons (pv 6) (pa_cons (pe_op op_sub (pv 2) (pe_callB call_len_seq rfl T.n_len (by decide +kernel) (pa_cons (pv 6) pa_nil))) (pa_cons (pe_cmpR op_gt (pe_callB call_len_seq rfl T.n_len (by decide +kernel) (pa_cons (pv 4) pa_nil)) pe_int (nomark _)) pa_nil)))))))), ?_⟩
      intro e p hv g wq dq qs h d H2 sm hg hL hw hd lh ld hf
      unfold TY.figW at hf
      have fl : (h.filter fun x => x != 44).length ≤ 70000 := Nat.le_trans (List.length_filter_le _ _) lh
      have cl : (bv (h.filter fun x => x != 44)).length + (bv d).length ≤ sizeLine := by
        rw [bv_length, bv_length]
        show _ ≤ 2 ^ 24
        omega
      refine ⟨_, rfl, g, qs, _, rfl, hg, hL, List.splitOn_ne_nil _ _, Nat.le_trans (split_len h) (by omega), fun H3 s3 => ⟨_, rfl, ?_⟩⟩
      cases hA : TY.areGroups (h.splitOn 44) with
      | false =>
        rw [hA, if_neg (fun z => absurd z.1 (by decide))] at hf
        exact iteT (iteT (k0 _ (sm.trans s3) hf))
      | true =>
        refine iteF ⟨_, rfl, _, rfl, wq, dq, _, _, rfl, rfl, SqL.of (s3 _ _ hw), SqL.of (s3 _ _ hd), cl, fun r hr' => ?_⟩
        rw [bv_append]
        have s4 := s3.trans (Same.upd (o := .lst (bv ((h.filter fun x => x != 44) ++ d))) hr')
        refine ⟨r, _, 1, 60, rfl, SqL.of upd_same, _, rfl, ?_⟩
        cases hD : areDig ((h.filter fun x => x != 44) ++ d) 1 60 with
        | false =>
          rw [if_neg (fun z => absurd (show areDig _ 1 60 = true from z.2) (by rw [hD]; decide))] at hf
          exact iteT (k0 _ (sm.trans s4) hf)
        | true =>
          rw [if_pos ⟨hA, hD⟩] at hf
          refine iteF ⟨_, rfl, _, rfl, wq, dq, _, _, rfl, rfl, SqL.of (s4 _ _ hw), SqL.of (s4 _ _ hd), cl, fun r2 hr2 => ?_⟩
          rw [bv_append]
          have s5 := s4.trans (Same.upd (o := .lst (bv ((h.filter fun x => x != 44) ++ d))) hr2)
          refine ⟨_, rfl, _, rfl, _, rfl, dq, _, rfl, .inl (SqL.of (s5 _ _ hd)), _, _, rfl, rfl, _, rfl, g, _, rfl, .inl (SqL.of (s5 _ _ hg)), _, _, rfl, rfl, fun x dx hx hdx hne => ?_⟩
          have s6 := (Same.refl _).ins (C := C) (fs := fs_Figure (.ref r2) (.ref dq) (.int (e - ((bv d).length : Int))) (.bl (decide ((1 : Int) < ((qs.map V.ref).length : Int))))) hx hdx
          refine ⟨x, dx, _, _, _, _, rfl, upd_same, rfl, k1 x _ _ hf ((sm.trans s5).trans s6) ⟨r2, dq, ⟨dx, ?_⟩, s6 _ _ upd_same, s6 _ _ (s5 _ _ hd)⟩⟩
          rw [upd_same]
          have e1 : decide ((1 : Int) < ((qs.map V.ref).length : Int)) = decide (1 < (h.splitOn 44).length) := by
            rw [List.length_map, hL.length]
            exact decide_eq_decide.mpr (by omega)
          show some (HO.ins C dx (fs_Figure (.ref r2) (.ref dq) (.int (e - ((bv d).length : Int))) (.bl (decide ((1 : Int) < ((qs.map V.ref).length : Int)))))) = _
          rw [e1, bv_length]
    -- behind groups
    obtain ⟨t4, h4, q4⟩ : ∃ t4, PSs (cxOf CX0 P w K mg base ["codes", "parts", "exponent", "halves", "groups", "whole", "decimals", "code"] "read_figure" (defScope sRfig) f cdv A outer s H E).nox ((defBody sRfig).drop 4) t4 ∧
        ∀ (e : Int) (p hv : Addr) (qs : List Addr) (p0 : Bytes) (H2 : Hp), Same H H2 → H2 hv = some (.lst (qs.map V.ref)) → ListsAt H2 qs (p0.splitOn 46) → p0.length ≤ 70000 → TY.figF b = TY.figH p0 e →
          t4 { nx := fun _ H' => Q .non H', rt := Q } [some (.ref a), some (.ref p), some (.int e), some (.ref hv), none, none, none, none] H2 := by
      refine ⟨_, (pss_cons (ps_if (pt_cmpR op_gt (pe_callB call_len_seq rfl T.n_len (by decide +kernel) (pa_cons (pv 3) pa_nil)) pe_int (nomark _)) (pss_one (ps_ret pe_non)) pss_nil)
      (pss_cons (ps_set (i := 4) nd rfl (Or.inl rfl) (pe_own O_parted (hr.mono (by decide)) pass0 (pa_cons (pe_ix ix_list (pv 3) pe_int (fun _ _ => rfl)) (pa_cons (pe_gi T.c_COMMA) pa_nil))))
      (pss_cons (ps_setLc (i := 5) rfl nd rfl rfl (sw_true rfl rfl rfl rfl) (pi_list (pe_ix ix_list (pv 3) pe_int (fun _ _ => rfl))) (blkOk_by (N := ["codes", "parts", "exponent", "halves", "groups", "whole", "decimals", "code"]) (sc := defScope (top 70)) (own := [("code", 7)]) (by decide +kernel)) (fun _ _ _ _ _ => pg_name (i := 7) nd rfl (Or.inl rfl) (.inr rfl)) (fun _ _ _ _ _ => (pts_one (pt_cmpR op_ne (pv 7) (pe_gi T.c_COMMA) (nomark _)))) (fun _ _ _ _ _ => (pv 7)))
      (pss_cons (ps_set (i := 6) nd rfl (Or.inl rfl) (pe_ifExp (pt_cmpR op_eq (pe_callB call_len_seq rfl T.n_len (by decide +kernel) (pa_cons (pv 3) pa_nil)) pe_int (nomark _)) (pe_ix ix_list (pv 3) pe_int (fun _ _ => rfl)) (pe_lst pa_nil)))
      h8)))), ?_⟩
      intro e p hv qs p0 H2 sm hh hL lp hf
      unfold TY.figH at hf
      have pl : ∀ x ∈ p0.splitOn 46, x.length ≤ 70000 := fun x hx => Nat.le_trans (part_len hx) lp
      have hne : p0.splitOn 46 ≠ [] := List.splitOn_ne_nil _ _
      revert hL hf pl hne
      generalize p0.splitOn 46 = ls
      intro hL hf pl hne
      cases hL with
      | nil => exact absurd rfl hne
      | @cons q0 h qs' ls' c0 hL =>
      cases hL with
      | nil =>
        dsimp only at hf
        have lh := pl h List.mem_cons_self
        refine ⟨_, rfl, hv, _, rfl, .inl (SqL.of hh), _, _, rfl, rfl, _, rfl, ite2 (fun q => by simp at q) fun _ => ?_⟩
        refine ⟨_, rfl, hv, _, _, _, rfl, rfl, SqL.of hh, atI_nat (j := 0) rfl, q0, h, 44, rfl, SqL.of c0, lh, fun g H3 gs s3 hg hgL => ?_⟩
        have c3 := s3 _ _ c0
        refine ⟨_, rfl, hv, _, _, _, rfl, rfl, SqL.of (s3 _ _ hh), atI_nat (j := 0) rfl, q0, rfl, ⟨_, SqL.of c3⟩, fun D hD => lc_pure (K := K) (a := q0) (xs := bv h) noC (SqL.of c3) hD (by rw [bv_length]; omega) ?_ ?_⟩
        · intro x H' hx sm' Q1 Q2 y1 y2
          obtain ⟨n, hn, rfl⟩ := List.mem_map.mp hx
          refine ⟨rfl, _, rfl, rfl, _, rfl, ite2 (fun z => ?_) (fun z => ?_)⟩
          · have z1 : ¬ V.int n = V.int 44 := fun y => by rw [decide_eq_true y] at z; cases z
            exact ⟨_, rfl, y1 _ (if_neg z1)⟩
          · have z1 : V.int n = V.int 44 := by
              by_cases y : V.int n = V.int 44
              · exact y
              · exact (z (by rw [decide_eq_false y]; rfl)).elim
            exact y2 (if_pos z1)
        · rw [noC_all]
          have s4 := s3.trans (Same.upd (o := .lst (bv (h.filter fun x => x != 44))) hD)
          have sD := Same.upd (o := .lst (bv (h.filter fun x => x != 44))) hD
          refine ⟨_, rfl, hv, _, rfl, .inl (SqL.of (s4 _ _ hh)), rfl, _, rfl, ite2 (fun q => by simp at q) fun _ => ⟨Nat.zero_le _, fun r hr' => ?_⟩⟩
          have sr := Same.upd (o := .lst []) hr'
          exact q8 e p hv g D r gs h [] _ ((sm.trans s4).trans sr) (sr _ _ (sD _ _ hg)) (hgL.same (sD.trans sr)) (sr _ _ upd_same) upd_same lh (by decide) hf
      | @cons q1 d qs' ls' c1 hL =>
      cases hL with
      | nil =>
        dsimp only at hf
        have lh := pl h List.mem_cons_self
        have ld := pl d (List.mem_cons_of_mem _ List.mem_cons_self)
        refine ⟨_, rfl, hv, _, rfl, .inl (SqL.of hh), _, _, rfl, rfl, _, rfl, ite2 (fun q => by simp at q) fun _ => ?_⟩
        refine ⟨_, rfl, hv, _, _, _, rfl, rfl, SqL.of hh, atI_nat (j := 0) rfl, q0, h, 44, rfl, SqL.of c0, lh, fun g H3 gs s3 hg hgL => ?_⟩
        have c3 := s3 _ _ c0
        refine ⟨_, rfl, hv, _, _, _, rfl, rfl, SqL.of (s3 _ _ hh), atI_nat (j := 0) rfl, q0, rfl, ⟨_, SqL.of c3⟩, fun D hD => lc_pure (K := K) (a := q0) (xs := bv h) noC (SqL.of c3) hD (by rw [bv_length]; omega) ?_ ?_⟩
        · intro x H' hx sm' Q1 Q2 y1 y2
          obtain ⟨n, hn, rfl⟩ := List.mem_map.mp hx
          refine ⟨rfl, _, rfl, rfl, _, rfl, ite2 (fun z => ?_) (fun z => ?_)⟩
          · have z1 : ¬ V.int n = V.int 44 := fun y => by rw [decide_eq_true y] at z; cases z
            exact ⟨_, rfl, y1 _ (if_neg z1)⟩
          · have z1 : V.int n = V.int 44 := by
              by_cases y : V.int n = V.int 44
              · exact y
              · exact (z (by rw [decide_eq_false y]; rfl)).elim
            exact y2 (if_pos z1)
        · rw [noC_all]
          have s4 := s3.trans (Same.upd (o := .lst (bv (h.filter fun x => x != 44))) hD)
          have sD := Same.upd (o := .lst (bv (h.filter fun x => x != 44))) hD
          refine ⟨_, rfl, hv, _, rfl, .inl (SqL.of (s4 _ _ hh)), rfl, _, rfl, ite2 (fun _ => ?_) (fun q => by simp at q)⟩
          exact ⟨_, rfl, hv, _, _, _, rfl, rfl, SqL.of (s4 _ _ hh), atI_nat (j := 1) rfl, q8 e p hv g D q1 gs h d _ (sm.trans s4) (sD _ _ hg) (hgL.same sD) upd_same (s4 _ _ c1) lh ld hf⟩
      | @cons q2 d2 qs' ls' c2 hL =>
        dsimp only at hf
        refine ⟨_, rfl, hv, _, rfl, .inl (SqL.of hh), _, _, rfl, rfl, _, rfl, ite2 (fun _ => k0 _ sm hf) fun q => ?_⟩
        refine absurd (decide_eq_true ?_) q
        simp only [List.map_cons, List.length_cons]
        omega
    -- behind parts
    obtain ⟨t1, h1, q1⟩ : ∃ t1, PSs (cxOf CX0 P w K mg base ["codes", "parts", "exponent", "halves", "groups", "whole", "decimals", "code"] "read_figure" (defScope sRfig) f cdv A outer s H E).nox ((defBody sRfig).drop 1) t1 ∧
        ∀ (p : Addr) (qs : List Addr) (ls : List Bytes) (H2 : Hp), Same H H2 → H2 p = some (.lst (qs.map V.ref)) → ListsAt H2 qs ls → (∀ x ∈ ls, x.length ≤ 70000) → ls ≠ [] → TY.figF b = (match ls with
            | [p] => TY.figH p 0
            | [p, t] => if TY.isExp t = true then TY.figH p (TY.expOf t) else none
            | _ => none) → t1 { nx := fun _ H' => Q .non H', rt := Q } [some (.ref a), some (.ref p), none, none, none, none, none, none] H2 := by
      refine ⟨_, (pss_cons (ps_if (PW.pt (pw_or (pt_cmpR op_gt (pe_callB call_len_seq rfl T.n_len (by decide +kernel) (pa_cons (pv 1) pa_nil)) pe_int (nomark _)) (pw_or1 (PW.pt (pw_and (pt_cmpR op_eq (pe_callB call_len_seq rfl T.n_len (by decide +kernel) (pa_cons (pv 1) pa_nil)) pe_int (nomark _)) (pw_and1 (pt_not (pt_val (pe_own O_is_exponent (hr.mono (by decide)) pass0 (pa_cons (pe_ix ix_list (pv 1) pe_int (fun _ _ => rfl)) pa_nil)))))))))) (pss_one (ps_ret pe_non)) pss_nil)
      (pss_cons (ps_set (i := 2) nd rfl (Or.inl rfl) (pe_ifExp (pt_cmpR op_eq (pe_callB call_len_seq rfl T.n_len (by decide +kernel) (pa_cons (pv 1) pa_nil)) pe_int (nomark _)) (pe_own O_exponent_of (hr.mono (by decide)) pass0 (pa_cons (pe_ix ix_list (pv 1) pe_int (fun _ _ => rfl)) pa_nil)) pe_int))
      (pss_cons (ps_set (i := 3) nd rfl (Or.inl rfl) (pe_own O_parted (hr.mono (by decide)) pass0 (pa_cons (pe_ix ix_list (pv 1) pe_int (fun _ _ => rfl)) (pa_cons (pe_gi T.c_POINT) pa_nil))))
      h4))), ?_⟩
      intro p qs ls H2 sm hp hL pl hne hf
      cases hL with
      | nil => exact absurd rfl hne
      | @cons q0 p0 qs' ls' c0 hL =>
      cases hL with
      | nil =>
        dsimp only at hf
        have lp := pl p0 List.mem_cons_self
        refine ⟨_, rfl, p, _, rfl, .inl (SqL.of hp), _, _, rfl, rfl, _, rfl, ite2 (fun q => by simp at q) fun _ => ?_⟩
        refine ⟨_, rfl, p, _, rfl, .inl (SqL.of hp), rfl, _, rfl, ite2 (fun q => by simp at q) fun _ => iteF ?_⟩
        refine ⟨_, rfl, p, _, rfl, .inl (SqL.of hp), rfl, _, rfl, ite2 (fun q => by simp at q) fun _ => ?_⟩
        exact ⟨_, rfl, p, _, _, _, rfl, rfl, SqL.of hp, atI_nat (j := 0) rfl, q0, p0, 46, rfl, SqL.of c0, lp, fun hv H3 gs s3 hg hgL => q4 0 p hv gs p0 H3 (sm.trans s3) hg hgL lp hf⟩
      | @cons q1 t qs' ls' c1 hL =>
      cases hL with
      | nil =>
        dsimp only at hf
        have lp := pl p0 List.mem_cons_self
        refine ⟨_, rfl, p, _, rfl, .inl (SqL.of hp), _, _, rfl, rfl, _, rfl, ite2 (fun q => by simp at q) fun _ => ?_⟩
        refine ⟨_, rfl, p, _, rfl, .inl (SqL.of hp), rfl, _, rfl, ite2 (fun _ => ?_) (fun q => by simp at q)⟩
        refine ⟨_, rfl, p, _, _, _, rfl, rfl, SqL.of hp, atI_nat (j := 1) rfl, q1, t, rfl, SqL.of c1, fun H3 s3 => ⟨_, rfl, ?_⟩⟩
        cases hx : TY.isExp t with
        | false =>
          rw [hx] at hf
          exact iteT (k0 _ (sm.trans s3) hf)
        | true =>
          rw [hx, if_pos rfl] at hf
          refine iteF ⟨_, rfl, p, _, rfl, .inl (SqL.of (s3 _ _ hp)), rfl, _, rfl, ite2 (fun _ => ?_) (fun q => by simp at q)⟩
          refine ⟨_, rfl, p, _, _, _, rfl, rfl, SqL.of (s3 _ _ hp), atI_nat (j := 1) rfl, q1, t, rfl, SqL.of (s3 _ _ c1), hx, fun H4 s4 => ?_⟩
          have s5 := s3.trans s4
          exact ⟨_, rfl, p, _, _, _, rfl, rfl, SqL.of (s5 _ _ hp), atI_nat (j := 0) rfl, q0, p0, 46, rfl, SqL.of (s5 _ _ c0), lp, fun hv H6 gs s6 hg hgL => q4 _ p hv gs p0 H6 ((sm.trans s5).trans s6) hg hgL lp hf⟩
      | @cons q2 d2 qs' ls' c2 hL =>
        dsimp only at hf
        refine ⟨_, rfl, p, _, rfl, .inl (SqL.of hp), _, _, rfl, rfl, _, rfl, ite2 (fun _ => iteT (k0 _ sm hf)) fun q => ?_⟩
        refine absurd (decide_eq_true ?_) q
        simp only [List.map_cons, List.length_cons]
        omega
    refine ⟨_, (pss_cons (ps_set (i := 1) nd rfl (Or.inl rfl) (pe_own O_parted (hr.mono (by decide)) pass0 (pa_cons (pe_lc rfl nd (pi_list (pv 0)) (blkOk_by (N := ["codes", "parts", "exponent", "halves", "groups", "whole", "decimals", "code"]) (sc := defScope (top 70)) (own := [("code", 7)]) (by decide +kernel)) (fun _ _ _ _ _ => pg_name (i := 7) nd rfl (Or.inl rfl) (.inr rfl)) (fun _ _ _ _ _ => pts_nil) (fun _ _ _ _ _ => (pe_own O_small (hr.mono (by decide)) pass0 (pa_cons (pv 7) pa_nil)))) (pa_cons (pe_gi T.c_SMALL_E) pa_nil))))
      h1), ?_⟩
    refine ⟨_, rfl, a, rfl, ⟨_, hS⟩, fun D hD => lc_pure (K := K) (a := a) (xs := bv b) lowS hS hD (by rw [bv_length]; omega) ?_ ?_⟩
    · intro x H' hx sm Q1 Q2 y1 y2
      obtain ⟨n, hn, rfl⟩ := List.mem_map.mp hx
      exact ⟨rfl, _, rfl, n, rfl, y1 _ rfl⟩
    · rw [lowV]
      have sD := Same.upd (o := .lst (bv (b.map lower))) hD
      refine ⟨D, b.map lower, 101, rfl, SqL.of upd_same, (by rw [List.length_map]; exact hlen), fun p H2 qs s2 hp hL => ?_⟩
      exact q1 p qs _ H2 (sD.trans s2) hp hL (fun x hx => Nat.le_trans (part_len hx) (by rw [List.length_map]; exact hlen)) (List.splitOn_ne_nil _ _) rfl
end
end NP
end
section
set_option Elab.async false
set_option linter.all false
set_option maxRecDepth 100000
set_option maxHeartbeats 1000000
namespace NP
open PySem PySem.Spec PyProof.Rows L2
open Sv68 (isDigit lower)
theorem pow10 {e : Nat} (h : e ≤ 300) : (0 : Int) < 10 ^ e ∧ (10 : Int) ^ e < 2 ^ 1000 ∧ ((10 : Int) ^ e).natAbs < 2 ^ 1000 := by
  have h1 : (10 : Nat) ^ e ≤ 10 ^ 300 := Nat.pow_le_pow_right (by decide) h
  have h2 : (10 : Nat) ^ 300 < 2 ^ 1000 := by decide +kernel
  have h3 : ((10 : Nat) ^ e : Nat) < 2 ^ 1000 := Nat.lt_of_le_of_lt h1 h2
  have h4 : (10 : Int) ^ e = ((10 ^ e : Nat) : Int) := by rw [Int.natCast_pow]; rfl
  have h0 : 0 < (10 : Nat) ^ e := Nat.pow_pos (by decide)
  rw [h4, Int.natAbs_natCast]
  refine ⟨by omega, ?_, h3⟩
  generalize (10 : Nat) ^ e = n at *
  omega
theorem num_small {b : Bytes} (h : b.all isDigit = true) (hl : b.length ≤ 60) : ((Sv68.number b : Nat) : Int).natAbs < 2 ^ 1000 := by
  have h1 := TY.number_lt h
  have h2 : (10 : Nat) ^ b.length ≤ 10 ^ 60 := Nat.pow_le_pow_right (by decide) hl
  have h3 : (10 : Nat) ^ 60 < 2 ^ 1000 := by decide +kernel
  rw [Int.natAbs_natCast]
  exact Nat.lt_of_lt_of_le h1 (Nat.le_of_lt (Nat.lt_of_le_of_lt h2 h3))
structure FigOk (f : TY.Fig) : Prop where
  dig : f.digits.all isDigit = true
  len : f.digits.length ≤ 60
  lo : -200 ≤ f.scale
  hi : f.scale ≤ 200
theorem exp_small {t : Bytes} (h : TY.isExp t = true) : -100 < TY.expOf t ∧ TY.expOf t < 100 := by
  obtain ⟨h1, h2, h3⟩ := TY.dg_iff.mp h
  have h4 := TY.number_lt h3
  have h5 : (10 : Nat) ^ (TY.stripE t).length ≤ 10 ^ 2 := Nat.pow_le_pow_right (by decide) h2
  unfold TY.expOf
  split <;> omega
theorem figW_ok {h d : Bytes} {e : Int} {f : TY.Fig} (q : TY.figW h d e = some f) (e1 : -100 < e) (e2 : e < 100) : FigOk f := by
  unfold TY.figW at q
  split at q
  · rename_i z
    cases q
    obtain ⟨h1, h2, h3⟩ := TY.dg_iff.mp z.2
    have := h2
    rw [List.length_append] at this
    exact ⟨h3, h2, (by show -200 ≤ e - (d.length : Int); omega), (by show e - (d.length : Int) ≤ 200; omega)⟩
  · cases q
theorem figH_ok {p : Bytes} {e : Int} {f : TY.Fig} (q : TY.figH p e = some f) (e1 : -100 < e) (e2 : e < 100) : FigOk f := by
  unfold TY.figH at q
  split at q
  · exact figW_ok q e1 e2
  · exact figW_ok q e1 e2
  · cases q
theorem figF_ok {b : Bytes} {f : TY.Fig} (q : TY.figF b = some f) : FigOk f := by
  unfold TY.figF at q
  split at q
  · exact figH_ok q (by decide) (by decide)
  · split at q
    · rename_i hx
      exact figH_ok q (exp_small hx).1 (exp_small hx).2
    · cases q
  · cases q
section
variable {P : Program} {w : World} {K : PySem.W.Frag} {mg : Str → Option Value} {base : Heap}
abbrev sRofg : Stmt := top 75
theorem scRofg : FnScope ["figure", "number", "scale"] ["figure"] (defScope sRofg) := ⟨rfl, rfl, rfl, by decide +kernel, rfl, by decide +kernel, by decide +kernel⟩
def spRofg (C : Addr) : Sp := fun vs H Q _ => ∃ x f, vs = [.ref x] ∧ FigAt C H x f ∧ FigOk f ∧ Q (.int (TY.valF f)) H
theorem ok_rofg {f C : Addr} {fd : FuncData} (T : TX P w K mg) (TF : Tx_Figure K C) (O_number_of : Own P w K mg base CX0 1 "number_of" ["digits"] (spNumof K)) (O_power : Own P w K mg base CX0 1 "power" ["base", "exponent"] spPower) (O_round_halves_even : Own P w K mg base CX0 1 "round_halves_even" ["number", "divisor"] spRhe)
    (F : Fun K "round_figure" "round_figure" sRofg f fd) : FnOk P w K mg base CX0 2 f fd ["figure"] (spRofg C) := by
  refine F.ok scRofg (fun vs H Q E h => ?_) (fun cdv A outer s H vs Q E hr h => ?_)
  · obtain ⟨x, f, rfl, _⟩ := h
    rfl
  · obtain ⟨x, fg, rfl, hA, ok, k⟩ := h
    have nd := scRofg.nd
    refine ⟨_, (pss_cons (ps_set (i := 1) nd rfl (Or.inl rfl) (pe_own O_number_of (hr.mono (by decide)) pass0 (pa_cons (pe_fld (pv 0) rfl) pa_nil)))
      (pss_cons (ps_set (i := 2) nd rfl (Or.inl rfl) (pe_op op_add (pe_fld (pv 0) rfl) (pe_gi T.c_DECIMALS)))
      (pss_cons (ps_if (pt_cmpR op_ge (pv 2) pe_int (nomark _)) (pss_one (ps_ret (pe_op op_mulL (pv 1) (pe_own O_power (hr.mono (by decide)) pass0 (pa_cons pe_int (pa_cons (pv 2) pa_nil)))))) pss_nil)
      (pss_one (ps_ret (pe_own O_round_halves_even (hr.mono (by decide)) pass0 (pa_cons (pv 1) (pa_cons (pe_own O_power (hr.mono (by decide)) pass0 (pa_cons pe_int (pa_cons (pe_un un_neg (pv 2)) pa_nil))) pa_nil)))))))), ?_⟩
    obtain ⟨a, d, ⟨dx, hx⟩, ha, hd⟩ := hA
    have ns := num_small ok.dig ok.len
    have lo := ok.lo
    have hi := ok.hi
    unfold TY.valF at k
    refine ⟨_, rfl, x, C, dx, _, _, rfl, hx, TF.cl, TF.n_digits, fs_Figure_digits _ _ _ _, a, fg.digits, rfl, SqL.of ha, ok.dig, ?_⟩
    refine ⟨_, rfl, x, C, dx, _, _, rfl, hx, TF.cl, TF.n_scale, fs_Figure_scale _ _ _ _, _, _, rfl, rfl, ?_⟩
    refine ⟨_, rfl, _, _, rfl, rfl, _, rfl, ite2 (fun q => ?_) (fun q => ?_)⟩
    · have q1 : 0 ≤ fg.scale + 12 := of_decide_eq_true q
      rw [if_pos q1] at k
      refine ⟨_, rfl, _, rfl, (10 : Int), (fg.scale + 12).toNat, ?_, by decide, by decide, by omega, _, _, rfl, rfl, ⟨ns, (pow10 (by omega)).2.2⟩, k⟩
      rw [show (((fg.scale + 12).toNat : Nat) : Int) = fg.scale + 12 by omega]
      rfl
    · have q1 : ¬ 0 ≤ fg.scale + 12 := fun z => q (decide_eq_true z)
      rw [if_neg q1] at k
      refine ⟨_, rfl, _, rfl, _, rfl, (10 : Int), (-(fg.scale + 12)).toNat, ?_, by decide, by decide, by omega, _, _, rfl, (pow10 (by omega)).1, (pow10 (by omega)).2.1, k⟩
      rw [show (((-(fg.scale + 12)).toNat : Nat) : Int) = -(fg.scale + 12) by omega]
      rfl
abbrev sFpic : Stmt := top 76
theorem scFpic : FnScope ["figure", "is_percent", "has_decimals"] ["figure", "is_percent"] (defScope sFpic) := ⟨rfl, rfl, rfl, by decide +kernel, rfl, by decide +kernel, by decide +kernel⟩
def spFpic (C : Addr) : Sp := fun vs H Q _ => ∃ x f, ∃ pc : Bool, vs = [.ref x, .bl pc] ∧ FigAt C H x f ∧ ∀ q H', Same H H' → H' q = some (.lst (bv (TY.picF f pc))) → Q (.ref q) H'
theorem ok_fpic {f C : Addr} {fd : FuncData} (T : TX P w K mg) (TF : Tx_Figure K C) (O_codes_of : Own P w K mg base CX0 1 "codes_of" ["word"] spCodes) (F : Fun K "find_picture" "find_picture" sFpic f fd) : FnOk P w K mg base CX0 2 f fd ["figure", "is_percent"] (spFpic C) := by
  refine F.ok scFpic (fun vs H Q E h => ?_) (fun cdv A outer s H vs Q E hr h => ?_)
  · obtain ⟨x, f, pc, rfl, _⟩ := h
    rfl
  · obtain ⟨x, fg, pc, rfl, hA, k⟩ := h
    have nd := scFpic.nd
    have hu64 := hr.units
    refine ⟨_, (pss_cons (ps_set (i := 2) nd rfl (Or.inl rfl) (pe_cmpR (op_neD hu64) (pe_fld (pv 0) rfl) (pe_lst pa_nil) (nomark _)))
      (pss_cons (ps_if (pt_val (pv 1)) (pss_one (ps_ret (pe_op op_catL (pe_own O_codes_of (hr.mono (by decide)) pass0 (pa_cons (pe_ifExp (pt_val (pv 2)) pe_str pe_str) pa_nil)) (pe_lst (pa_cons (pe_gi T.c_PERCENT) pa_nil))))) pss_nil)
      (pss_cons (ps_if (pt_val (pe_fld (pv 0) rfl)) (pss_one (ps_ret (pe_own O_codes_of (hr.mono (by decide)) pass0 (pa_cons (pe_ifExp (pt_val (pv 2)) pe_str pe_str) pa_nil)))) pss_nil)
      (pss_one (ps_ret (pe_lst pa_nil)))))), ?_⟩
    obtain ⟨a, d, ⟨dx, hx⟩, ha, hd⟩ := hA
    unfold TY.picF at k
    refine ⟨_, rfl, x, C, dx, _, _, rfl, hx, TF.cl, TF.n_decimals, fs_Figure_decimals _ _ _ _, Nat.zero_le _, fun p hp => ?_⟩
    have s1 := Same.upd (o := .lst []) hp
    refine ⟨_, _, dp_ints (l := bi fg.decimals) (SqL.of (s1 _ _ hd)), dp_ints (l := []) (SqL.of upd_same), shaped_ints _, shaped_ints _, ?_⟩
    rw [eqv_ints]
    have eb : (!decide (bi fg.decimals = [])) = decide (fg.decimals ≠ []) := by
      cases fg.decimals with
      | nil => rfl
      | cons c r => rfl
    rw [eb]
    refine ⟨_, rfl, _, rfl, ?_⟩
    cases pc with
    | true =>
      rw [if_pos rfl] at k
      refine iteT ⟨_, rfl, _, rfl, ite2 (fun q => ?_) (fun q => ?_)⟩
      · rw [if_pos (of_decide_eq_true q)] at k
        refine ⟨_, rfl, by decide +kernel, fun p2 hp2 => ⟨(by show 1 ≤ 2 ^ 24; decide), fun p3 hp3 => ?_⟩⟩
        have s2 := Same.upd (o := .lst ((codesI "0.00").map V.int)) hp2
        have s3 := Same.upd (o := .lst [V.int 37]) hp3
        refine ⟨p2, p3, _, _, rfl, rfl, SqL.of (s3 _ _ upd_same), SqL.of upd_same, by decide +kernel, fun p4 hp4 => ?_⟩
        exact k p4 _ (((s1.trans s2).trans s3).trans (Same.upd hp4)) upd_same
      · rw [if_neg (fun z => q (decide_eq_true z))] at k
        refine ⟨_, rfl, by decide +kernel, fun p2 hp2 => ⟨(by show 1 ≤ 2 ^ 24; decide), fun p3 hp3 => ?_⟩⟩
        have s2 := Same.upd (o := .lst ((codesI "0").map V.int)) hp2
        have s3 := Same.upd (o := .lst [V.int 37]) hp3
        refine ⟨p2, p3, _, _, rfl, rfl, SqL.of (s3 _ _ upd_same), SqL.of upd_same, by decide +kernel, fun p4 hp4 => ?_⟩
        exact k p4 _ (((s1.trans s2).trans s3).trans (Same.upd hp4)) upd_same
    | false =>
      rw [if_neg (by decide)] at k
      refine iteF ⟨_, rfl, x, C, dx, _, _, rfl, s1 _ _ hx, TF.cl, TF.n_has_commas, fs_Figure_has_commas _ _ _ _, _, rfl, ite2 (fun q => ?_) (fun q => ?_)⟩
      · rw [if_pos q] at k
        refine ⟨_, rfl, _, rfl, ite2 (fun q => ?_) (fun q => ?_)⟩
        · rw [if_pos (of_decide_eq_true q)] at k
          refine ⟨_, rfl, by decide +kernel, fun p2 hp2 => ?_⟩
          exact k p2 _ (s1.trans (Same.upd hp2)) upd_same
        · rw [if_neg (fun z => q (decide_eq_true z))] at k
          refine ⟨_, rfl, by decide +kernel, fun p2 hp2 => ?_⟩
          exact k p2 _ (s1.trans (Same.upd hp2)) upd_same
      · rw [if_neg q] at k
        exact ⟨Nat.zero_le _, fun p2 hp2 => k p2 _ (s1.trans (Same.upd hp2)) upd_same⟩
abbrev sRnum : Stmt := top 66
theorem scRnum : FnScope ["codes", "bare", "is_percent", "figure", "number"] ["codes"] (defScope sRnum) := ⟨rfl, rfl, rfl, by decide +kernel, rfl, by decide +kernel, by decide +kernel⟩
def spRnum (K : PySem.W.Frag) (C : Addr) : Sp := fun vs H Q _ => ∃ a b, vs = [.ref a] ∧ SqL K H a (bv b) ∧ b ≠ [] ∧ b.length ≤ 70000 ∧ (∀ H', Same H H' → TY.numF b = none → Q .non H') ∧ ∀ v pic, TY.numF b = some (v, pic) → spEnt C H Q [1, v] pic
theorem ok_rnum {f C CF : Addr} {fd : FuncData} (T : TX P w K mg) (O_without_sign : Own P w K mg base CX0 2 "without_sign" ["codes"] (spWsg K)) (O_read_figure : Own P w K mg base CX0 4 "read_figure" ["codes"] (spRfig K CF)) (O_round_figure : Own P w K mg base CX0 2 "round_figure" ["figure"] (spRofg CF))
    (O_round_halves_even : Own P w K mg base CX0 1 "round_halves_even" ["number", "divisor"] spRhe) (O_is_number : Own P w K mg base CX0 1 "is_number" ["number"] spIsnm) (O_number_entry : Own P w K mg base CX0 3 "number_entry" ["number", "picture"] (spNent C)) (O_is_below_0 : Own P w K mg base CX0 2 "is_below_0" ["codes"] (spIb0 K)) (O_find_picture : Own P w K mg base CX0 2 "find_picture" ["figure", "is_percent"] (spFpic CF))
    (F : Fun K "read_number" "read_number" sRnum f fd) : FnOk P w K mg base CX0 5 f fd ["codes"] (spRnum K C) := by
  refine F.ok scRnum (fun vs H Q E h => ?_) (fun cdv A outer s H vs Q E hr h => ?_)
  · obtain ⟨a, b, rfl, _⟩ := h
    rfl
  · obtain ⟨a, b, rfl, hS, hne, hlen, k0, k1⟩ := h
    have nd := scRnum.nd
    have hu64 := hr.units
    -- if not is_number(number); return ..
    obtain ⟨t6, h6, q6⟩ : ∃ t6, PSs (cxOf CX0 P w K mg base ["codes", "bare", "is_percent", "figure", "number"] "read_number" (defScope sRnum) f cdv A outer s H E).nox ((defBody sRnum).drop 6) t6 ∧
        ∀ (p x : Addr) (fg : TY.Fig) (H2 : Hp), Same H H2 → TY.figF (TY.noPc (TY.noSign b)) = some fg → FigAt CF H2 x fg →
          t6 { nx := fun _ H' => Q .non H', rt := Q } [some (.ref a), some (.ref p), some (.bl (TY.isPc (TY.noSign b))), some (.ref x), some (.int (TY.absF fg (TY.isPc (TY.noSign b))))] H2 := by
      refine ⟨_, (pss_cons (ps_if (pt_not (pt_val (pe_own O_is_number (hr.mono (by decide)) pass0 (pa_cons (pv 4) pa_nil)))) (pss_one (ps_ret pe_non)) pss_nil)
      (pss_one (ps_ret (pe_own O_number_entry (hr.mono (by decide)) pass0 (pa_cons (pe_ifExp (pt_val (pe_own O_is_below_0 (hr.mono (by decide)) pass0 (pa_cons (pv 0) pa_nil))) (pe_un un_neg (pv 4)) (pv 4)) (pa_cons (pe_own O_find_picture (hr.mono (by decide)) pass0 (pa_cons (pv 3) (pa_cons (pv 2) pa_nil))) pa_nil)))))), ?_⟩
      intro p x fg H2 sm hf hA
      have en : TY.numF b = if Wbk.fits (TY.absF fg (TY.isPc (TY.noSign b))) = false then none else some (if TY.below b = true then -TY.absF fg (TY.isPc (TY.noSign b)) else TY.absF fg (TY.isPc (TY.noSign b)), TY.picF fg (TY.isPc (TY.noSign b))) := by
        unfold TY.numF
        rw [hf]
        rfl
      refine ⟨_, rfl, _, rfl, _, rfl, ?_⟩
      cases hF : Wbk.fits (TY.absF fg (TY.isPc (TY.noSign b))) with
      | false =>
        rw [hF, if_pos rfl] at en
        exact iteT (k0 _ sm en)
      | true =>
        rw [hF, if_neg (by decide)] at en
        have kk := k1 _ _ en
        have fin : ∀ v : Int, spEnt C H Q [1, v] (TY.picF fg (TY.isPc (TY.noSign b))) → spFpic CF ([.ref x, .bl (TY.isPc (TY.noSign b))] ++ []) H2 (fun y H' => spNent C ([V.int v, y] ++ []) H' Q E0) E0 := by
          intro v kk
          refine ⟨x, fg, _, rfl, hA, fun q H3 s3 hq => ⟨v, q, _, rfl, hq, fun e H4 s4 hE => kk e H4 ((sm.trans s3).trans s4) hE⟩⟩
        refine iteF ⟨_, rfl, a, b, rfl, sm.seq hS, hne, _, rfl, ite2 (fun q => ?_) (fun q => ?_)⟩
        · rw [if_pos q] at kk
          exact ⟨_, rfl, _, rfl, _, rfl, _, rfl, fin _ kk⟩
        · rw [if_neg q] at kk
          exact ⟨_, rfl, _, rfl, _, rfl, fin _ kk⟩
    obtain ⟨t3, h3, q3⟩ : ∃ t3, PSs (cxOf CX0 P w K mg base ["codes", "bare", "is_percent", "figure", "number"] "read_number" (defScope sRnum) f cdv A outer s H E).nox ((defBody sRnum).drop 3) t3 ∧
        (∀ (p : Addr) (H2 : Hp), Same H H2 → TY.figF (TY.noPc (TY.noSign b)) = none → t3 { nx := fun _ H' => Q .non H', rt := Q } [some (.ref a), some (.ref p), some (.bl (TY.isPc (TY.noSign b))), some .non, none] H2) ∧
        ∀ (p x : Addr) (fg : TY.Fig) (H2 : Hp), Same H H2 → TY.figF (TY.noPc (TY.noSign b)) = some fg → FigAt CF H2 x fg →
          t3 { nx := fun _ H' => Q .non H', rt := Q } [some (.ref a), some (.ref p), some (.bl (TY.isPc (TY.noSign b))), some (.ref x), none] H2 := by
      refine ⟨_, (pss_cons (ps_if (pt_cmpR op_isN (pv 3) pe_non (nomark _)) (pss_one (ps_ret pe_non)) pss_nil)
      (pss_cons (ps_set (i := 4) nd rfl (Or.inl rfl) (pe_own O_round_figure (hr.mono (by decide)) pass0 (pa_cons (pv 3) pa_nil)))
      (pss_cons (ps_if (pt_val (pv 2)) (pss_one (ps_set (i := 4) nd rfl (Or.inl rfl) (pe_own O_round_halves_even (hr.mono (by decide)) pass0 (pa_cons (pv 4) (pa_cons pe_int pa_nil))))) pss_nil)
      h6))), fun p H2 sm hn => ?_, fun p x fg H2 sm hf hA => ?_⟩
      · exact ⟨_, rfl, rfl, _, rfl, iteT (k0 _ sm (by unfold TY.numF; rw [hn]; rfl))⟩
      · refine ⟨_, rfl, rfl, _, rfl, iteF ⟨_, rfl, x, fg, rfl, hA, figF_ok hf, ?_⟩⟩
        have z := q6 p x fg H2 sm hf hA
        unfold TY.absF at z
        refine ⟨_, rfl, _, rfl, ite2 (fun q => ?_) (fun q => ?_)⟩
        · rw [if_pos q] at z
          exact ⟨_, rfl, _, _, rfl, by decide, by decide, z⟩
        · rw [if_neg q] at z
          exact z
    refine ⟨_, (pss_cons (ps_set (i := 1) nd rfl (Or.inl rfl) (pe_own O_without_sign (hr.mono (by decide)) pass0 (pa_cons (pv 0) pa_nil)))
      (pss_cons (ps_set (i := 2) nd rfl (Or.inl rfl) (pe_cmpR (op_eqD hu64) (pe_slice sl_list (pv 1) (po_some (pe_un un_neg pe_int)) po_none) (pe_lst (pa_cons (pe_gi T.c_PERCENT) pa_nil)) (nomark _)))
      (pss_cons (ps_set (i := 3) nd rfl (Or.inl rfl) (pe_own O_read_figure (hr.mono (by decide)) pass0 (pa_cons (pe_ifExp (pt_val (pv 2)) (pe_slice sl_list (pv 1) po_none (po_some (pe_un un_neg pe_int))) (pv 1)) pa_nil)))
      h3))), ?_⟩
    refine ⟨_, rfl, a, b, rfl, hS, hne, fun p H1 s1 hp => ?_⟩
    refine ⟨_, rfl, _, rfl, (-1 : Int), rfl, p, _, rfl, hp, ?_⟩
    rw [cut_last]
    refine fun q hq => ⟨(by show 1 ≤ 2 ^ 24; decide), fun r hr' => ?_⟩
    have s2 := Same.upd (o := .lst (bv (TY.noSign b).getLast?.toList)) hq
    have qr : q ≠ r := ne_of_none upd_same hr'
    have s3 := s2.trans (Same.upd (o := .lst [V.int 37]) hr')
    refine ⟨_, _, dp_ints (l := bi (TY.noSign b).getLast?.toList) (SqL.of (by rw [upd_ne qr, upd_same])), dp_ints (l := [37]) (SqL.of upd_same), shaped_ints _, shaped_ints _, ?_⟩
    rw [eqv_ints]
    have ep : decide (bi (TY.noSign b).getLast?.toList = [37]) = TY.isPc (TY.noSign b) := by
      unfold TY.isPc
      cases (TY.noSign b).getLast? with
      | none => rfl
      | some c =>
        rw [Bool.eq_iff_iff, decide_eq_true_iff, beq_iff_eq]
        constructor
        · intro z
          exact congrArg some (u8_eq.mpr (List.cons.inj z).1)
        · intro z
          cases z
          rfl
    rw [ep]
    refine ⟨_, rfl, _, rfl, ?_⟩
    have sh := s1.trans s3
    have lp : (TY.noPc (TY.noSign b)).length ≤ 70000 := by
      have h1 : (TY.noSign b).length ≤ b.length := by
        unfold TY.noSign
        split
        · rw [List.length_dropLast, List.length_drop]
          omega
        · split
          · rw [List.length_drop]
            omega
          · exact Nat.le_refl _
      have h2 : (TY.noPc (TY.noSign b)).length ≤ (TY.noSign b).length := by
        unfold TY.noPc
        split
        · rw [List.length_dropLast]
          omega
        · exact Nat.le_refl _
      omega
    refine ite2 (fun z => ?_) (fun z => ?_)
    · have enp : TY.noPc (TY.noSign b) = (TY.noSign b).dropLast := by unfold TY.noPc; rw [if_pos z]
      refine ⟨_, rfl, _, rfl, (-1 : Int), rfl, p, _, rfl, s3.seq hp, ?_⟩
      rw [cut_m1, ← enp]
      intro u hu
      have s4 := Same.upd (o := .lst (bv (TY.noPc (TY.noSign b)))) hu
      refine ⟨u, _, rfl, SqL.of upd_same, lp, fun H5 s5 hn => ?_, fun x H5 fg hf s5 hA => ?_⟩
      · exact q3.1 p H5 ((sh.trans s4).trans s5) hn
      · exact q3.2 p x fg H5 ((sh.trans s4).trans s5) hf hA
    · have enp : TY.noPc (TY.noSign b) = TY.noSign b := by unfold TY.noPc; rw [if_neg z]
      refine ⟨_, rfl, p, TY.noPc (TY.noSign b), rfl, (by rw [enp]; exact s3.seq hp), lp, fun H5 s5 hn => ?_, fun x H5 fg hf s5 hA => ?_⟩
      · exact q3.1 p H5 (sh.trans s5) hn
      · exact q3.2 p x fg H5 (sh.trans s5) hf hA
end
end NP
end
section
set_option Elab.async false
set_option linter.all false
set_option maxRecDepth 100000
set_option maxHeartbeats 1000000
namespace NP
open PySem PySem.Spec PyProof.Rows L2
open Sv68 (isDigit lower)
theorem isDay_nat (y m d : Nat) : IsDay (y : Int) (m : Int) (d : Int) ↔ DY.Real y m d := by
  unfold IsDay DY.Real
  rw [Int.toNat_natCast, Int.toNat_natCast]
  omega
section
variable {P : Program} {w : World} {K : PySem.W.Frag} {mg : Str → Option Value} {base : Heap}
abbrev sFday : Stmt := top 85
theorem scFday : FnScope ["year", "month", "day"] ["year", "month", "day"] (defScope sFday) := ⟨rfl, rfl, rfl, by decide +kernel, rfl, by decide +kernel, by decide +kernel⟩
def spFday (K : PySem.W.Frag) : Sp := fun vs H Q _ => ∃ ay am ad y m d, vs = [.ref ay, .ref am, .ref ad] ∧ SqL K H ay (bv y) ∧ SqL K H am (bv m) ∧ SqL K H ad (bv d) ∧ Q (.int (TY.findDay y m d)) H
theorem ok_fday {f : Addr} {fd : FuncData} (T : TX P w K mg) (O_are_digits : Own P w K mg base CX0 2 "are_digits" ["codes", "least", "most"] (spAred K)) (O_number_of : Own P w K mg base CX0 1 "number_of" ["digits"] (spNumof K)) (O_is_date : Own P w K mg base CX0 3 "is_date" ["year", "month", "day"] spIsDate) (O_number_of_date : Own P w K mg base CX0 3 "number_of_date" ["year", "month", "day"] spNod)
    (F : Fun K "find_day" "find_day" sFday f fd) : FnOk P w K mg base CX0 4 f fd ["year", "month", "day"] (spFday K) := by
  refine F.ok scFday (fun vs H Q E h => ?_) (fun cdv A outer s H vs Q E hr h => ?_)
  · obtain ⟨ay, am, ad, y, m, d, rfl, _⟩ := h
    rfl
  · obtain ⟨ay, am, ad, y, m, d, rfl, hy, hm, hd, k⟩ := h
    refine ⟨_, (pss_cons (ps_if (PW.pt (pw_or (pt_not (pt_val (pe_own O_are_digits (hr.mono (by decide)) pass0 (pa_cons (pv 0) (pa_cons pe_int (pa_cons pe_int pa_nil)))))) (pw_or (pt_not (pt_val (pe_own O_are_digits (hr.mono (by decide)) pass0 (pa_cons (pv 1) (pa_cons pe_int (pa_cons pe_int pa_nil)))))) (pw_or1 (pt_not (pt_val (pe_own O_are_digits (hr.mono (by decide)) pass0 (pa_cons (pv 2) (pa_cons pe_int (pa_cons pe_int pa_nil)))))))))) (pss_one (ps_ret pe_int)) pss_nil)
      (pss_cons (ps_if (pt_not (pt_val (pe_own O_is_date (hr.mono (by decide)) pass0 (pa_cons (pe_own O_number_of (hr.mono (by decide)) pass0 (pa_cons (pv 0) pa_nil)) (pa_cons (pe_own O_number_of (hr.mono (by decide)) pass0 (pa_cons (pv 1) pa_nil)) (pa_cons (pe_own O_number_of (hr.mono (by decide)) pass0 (pa_cons (pv 2) pa_nil)) pa_nil)))))) (pss_one (ps_ret pe_int)) pss_nil)
      (pss_one (ps_ret (pe_own O_number_of_date (hr.mono (by decide)) pass0 (pa_cons (pe_own O_number_of (hr.mono (by decide)) pass0 (pa_cons (pv 0) pa_nil)) (pa_cons (pe_own O_number_of (hr.mono (by decide)) pass0 (pa_cons (pv 1) pa_nil)) (pa_cons (pe_own O_number_of (hr.mono (by decide)) pass0 (pa_cons (pv 2) pa_nil)) pa_nil)))))))), ?_⟩
    have no : ¬ (TY.dg y 4 4 = true ∧ TY.dg m 1 2 = true ∧ TY.dg d 1 2 = true ∧ DY.Real (Sv68.number y) (Sv68.number m) (Sv68.number d)) → Q (.int 0) H := fun z => by
      unfold TY.findDay at k
      rw [if_neg z] at k
      exact k
    refine ⟨_, rfl, ay, y, 4, 4, rfl, hy, _, rfl, ?_⟩
    cases h1 : areDig y 4 4 with
    | false => exact iteT (iteT (no fun z => by rw [show TY.dg y 4 4 = areDig y 4 4 from rfl, h1] at z; exact absurd z.1 (by decide)))
    | true =>
      refine iteF ⟨_, rfl, am, m, 1, 2, rfl, hm, _, rfl, ?_⟩
      cases h2 : areDig m 1 2 with
      | false => exact iteT (iteT (no fun z => by rw [show TY.dg m 1 2 = areDig m 1 2 from rfl, h2] at z; exact absurd z.2.1 (by decide)))
      | true =>
        refine iteF ⟨_, rfl, ad, d, 1, 2, rfl, hd, _, rfl, ?_⟩
        cases h3 : areDig d 1 2 with
        | false => exact iteT (no fun z => by rw [show TY.dg d 1 2 = areDig d 1 2 from rfl, h3] at z; exact absurd z.2.2.1 (by decide))
        | true =>
          have a1 := (TY.dg_iff.mp (show TY.dg y 4 4 = true from h1)).2.2
          have a2 := (TY.dg_iff.mp (show TY.dg m 1 2 = true from h2)).2.2
          have a3 := (TY.dg_iff.mp (show TY.dg d 1 2 = true from h3)).2.2
          refine iteF ⟨_, rfl, ay, y, rfl, hy, a1, _, rfl, am, m, rfl, hm, a2, _, rfl, ad, d, rfl, hd, a3, _, _, _, rfl, _, rfl, ite2 (fun q => ?_) (fun q => ?_)⟩
          · have h4 : ¬ DY.Real (Sv68.number y) (Sv68.number m) (Sv68.number d) := fun z => by
              rw [decide_eq_true ((isDay_nat _ _ _).mpr z)] at q
              cases q
            exact no fun z => h4 z.2.2.2
          · have h4 : DY.Real (Sv68.number y) (Sv68.number m) (Sv68.number d) := by
              by_cases z : DY.Real (Sv68.number y) (Sv68.number m) (Sv68.number d)
              · exact z
              · exact (q (by rw [decide_eq_false (fun y => z ((isDay_nat _ _ _).mp y))]; rfl)).elim
            refine ⟨_, rfl, ay, y, rfl, hy, a1, _, rfl, am, m, rfl, hm, a2, _, rfl, ad, d, rfl, hd, a3, _, _, _, rfl, (isDay_nat _ _ _).mpr h4, ?_⟩
            unfold TY.findDay at k
            rw [if_pos ⟨h1, h2, h3, h4⟩] at k
            rw [Int.toNat_natCast, Int.toNat_natCast, Int.toNat_natCast]
            exact k
def dz2 (b : Bytes) : Nat := match b.splitOn 47 with
  | [m, d, y] => TY.findDay y m d
  | _ => 0
def dz1 (b : Bytes) : Nat := match b.splitOn 46 with
  | [d, m, y] => TY.findDay y m d
  | _ => dz2 b
def dz0 (b : Bytes) : Nat := match b.splitOn 45 with
  | [y, m, d] => TY.findDay y m d
  | _ => dz1 b
def day3 (b : Bytes) : Nat → Nat
  | 0 => dz0 b
  | 1 => dz1 b
  | 2 => dz2 b
  | _ => 0
theorem day3_eq (b : Bytes) : TY.dayF b = day3 b 0 := by
  show TY.dayF b = dz0 b
  unfold TY.dayF dz0 dz1 dz2
  generalize b.splitOn 45 = l1
  generalize b.splitOn 46 = l2
  generalize b.splitOn 47 = l3
  split
  · rfl
  · rename_i h
    split
    · exact (h _ _ _ rfl).elim
    · rfl
  · rename_i h1 h2
    split
    · exact (h1 _ _ _ rfl).elim
    · split
      · exact (h2 _ _ _ rfl).elim
      · rfl
  · rename_i h1 h2 h3
    split
    · exact (h1 _ _ _ rfl).elim
    · split
      · exact (h2 _ _ _ rfl).elim
      · split
        · exact (h3 _ _ _ rfl).elim
        · rfl
def SGN : List UInt8 := [45, 46, 47]
def ORDK (t1 t2 t3 : Addr) : List (Key × V) := [(.inl 45, .ref t1), (.inl 46, .ref t2), (.inl 47, .ref t3)]
abbrev sRday : Stmt := top 84
theorem scRday : FnScope ["codes", "sign", "parts", "order"] ["codes"] (defScope sRday) := ⟨rfl, rfl, rfl, by decide +kernel, rfl, by decide +kernel, by decide +kernel⟩
def spRday (K : PySem.W.Frag) : Sp := fun vs H Q _ => ∃ a b, vs = [.ref a] ∧ SqL K H a (bv b) ∧ b.length ≤ 70000 ∧ ∀ H', Same H H' → Q (.int (TY.dayF b)) H'
theorem ok_rday {f : Addr} {fd : FuncData} (T : TX P w K mg) (O_parted : Own P w K mg base CX0 1 "parted" ["codes", "sign"] (spParted K)) (O_find_day : Own P w K mg base CX0 4 "find_day" ["year", "month", "day"] (spFday K))
    (F : Fun K "read_day" "read_day" sRday f fd) : FnOk P w K mg base CX0 5 f fd ["codes"] (spRday K) := by
  refine F.ok scRday (fun vs H Q E h => ?_) (fun cdv A outer s H vs Q E hr h => ?_)
  · obtain ⟨a, b, rfl, _⟩ := h
    rfl
  · obtain ⟨a, b, rfl, hS, hlen, k⟩ := h
    have nd := scRday.nd
    obtain ⟨t1, t2, t3, ⟨a_ORDERS, g_ORDERS, d_ORDERS⟩, o1, o2, o3⟩ := T.c_ORDERS
    refine ⟨_, (pss_cons (ps_for PassesOwn.never rfl (pi_tup (pe_tup (pa_cons (pe_gi T.c_MINUS) (pa_cons (pe_gi T.c_POINT) (pa_cons (pe_gi T.c_SLASH) pa_nil))))) (pg_name (i := 1) nd rfl (Or.inl rfl)) (pss_cons (ps_set (i := 2) nd rfl (Or.inl rfl) (pe_own O_parted (hr.mono (by decide)) pass0 (pa_cons (pv 0) (pa_cons (pv 1) pa_nil))))
      (pss_one (ps_if (pt_cmpR op_eq (pe_callB call_len_seq rfl T.n_len (by decide +kernel) (pa_cons (pv 2) pa_nil)) pe_int (nomark _)) (pss_cons (ps_set (i := 3) nd rfl (Or.inl rfl) (pe_kget (pe_gr g_ORDERS) (pv 1) (fun _ _ => rfl)))
      (pss_one (ps_ret (pe_own O_find_day (hr.mono (by decide)) pass0 (pa_cons (pe_ix ix_list (pv 2) (pe_ix ix_tup (pv 3) pe_int (fun _ _ => rfl)) (fun _ _ => rfl)) (pa_cons (pe_ix ix_list (pv 2) (pe_ix ix_tup (pv 3) pe_int (fun _ _ => rfl)) (fun _ _ => rfl)) (pa_cons (pe_ix ix_list (pv 2) (pe_ix ix_tup (pv 3) pe_int (fun _ _ => rfl)) (fun _ _ => rfl)) pa_nil))))))) pss_nil))))
      (pss_one (ps_ret pe_int))), ?_⟩
    refine ⟨(by show 3 ≤ 2 ^ 24; decide), fun t ht => ?_⟩
    have st := Same.upd (o := .tup [.int 45, .int 46, .int 47]) ht
    refine ⟨t, rfl, ⟨_, SqT.of upd_same⟩, for_tup (K := K) (a := t) (xs := SGN.map fun c => V.int (c.toNat : Int)) (fun i σ H' => ∃ v1 v2 v3 : Option V, σ = [some (.ref a), v1, v2, v3] ∧ Same (upd H t (.tup [.int 45, .int 46, .int 47])) H' ∧ TY.dayF b = day3 b i) ⟨none, none, none, rfl, Same.refl _, day3_eq b⟩ (fun i σ H' _ ⟨_, _, _, _, sm, _⟩ => SqT.of (sm _ _ upd_same)) ?_ ?_⟩
    · rintro i y σ H' hy ⟨v1, v2, v3, rfl, sm', hc⟩
      rw [List.getElem?_map] at hy
      obtain ⟨c, hz, rfl⟩ := Option.map_eq_some_iff.mp hy
      have sm := st.trans sm'
      refine ⟨_, rfl, _, rfl, a, b, c, rfl, sm.seq hS, hlen, fun p H2 qs s2 hp hL => ?_⟩
      refine ⟨_, rfl, p, _, rfl, .inl (SqL.of hp), rfl, _, rfl, ite2 (fun q => ?_) (fun q => ?_)⟩
      · have h3 : qs.length = 3 := by
          have h1 : (((qs.map V.ref).length : Nat) : Int) = 3 := V.int.inj (of_decide_eq_true q)
          rw [List.length_map] at h1
          omega
        have hl := hL.length
        obtain ⟨q0, q1, q2, eq⟩ : ∃ q0 q1 q2, qs = [q0, q1, q2] := by
          match qs, h3 with
          | [x, y, z], _ => exact ⟨x, y, z, rfl⟩
        subst eq
        revert hL hl
        generalize el : b.splitOn c = ls
        intro hL hl
        obtain ⟨l0, l1, l2, eq⟩ : ∃ q0 q1 q2, ls = [q0, q1, q2] := by
          match ls, hl with
          | [x, y, z], _ => exact ⟨x, y, z, rfl⟩
        subst eq
        cases hL with
        | cons c0 hL =>
        cases hL with
        | cons c1 hL =>
        cases hL with
        | cons c2 hL =>
        have kk := k H2 (sm.trans s2)
        match i, hz with
        | 0, hz =>
          cases hz
          replace hc : TY.dayF b = dz0 b := hc
          unfold dz0 at hc
          rw [el] at hc
          dsimp only at hc
          rw [hc] at kk
          refine ⟨_, rfl, a_ORDERS, _, .inl 45, _, rfl, d_ORDERS, rfl, rfl, ?_⟩
          exact ⟨_, rfl, _, rfl, t1, _, _, _, rfl, rfl, o1 _, atI_nat (j := 0) rfl, p, _, _, _, rfl, rfl, SqL.of hp, atI_nat (j := 0) rfl, _, rfl, _, rfl, t1, _, _, _, rfl, rfl, o1 _, atI_nat (j := 1) rfl, p, _, _, _, rfl, rfl, SqL.of hp, atI_nat (j := 1) rfl, _, rfl, _, rfl, t1, _, _, _, rfl, rfl, o1 _, atI_nat (j := 2) rfl, p, _, _, _, rfl, rfl, SqL.of hp, atI_nat (j := 2) rfl, q0, q1, q2, l0, l1, l2, rfl, SqL.of c0, SqL.of c1, SqL.of c2, kk⟩
        | 1, hz =>
          cases hz
          replace hc : TY.dayF b = dz1 b := hc
          unfold dz1 at hc
          rw [el] at hc
          dsimp only at hc
          rw [hc] at kk
          refine ⟨_, rfl, a_ORDERS, _, .inl 46, _, rfl, d_ORDERS, rfl, rfl, ?_⟩
          exact ⟨_, rfl, _, rfl, t2, _, _, _, rfl, rfl, o2 _, atI_nat (j := 0) rfl, p, _, _, _, rfl, rfl, SqL.of hp, atI_nat (j := 2) rfl, _, rfl, _, rfl, t2, _, _, _, rfl, rfl, o2 _, atI_nat (j := 1) rfl, p, _, _, _, rfl, rfl, SqL.of hp, atI_nat (j := 1) rfl, _, rfl, _, rfl, t2, _, _, _, rfl, rfl, o2 _, atI_nat (j := 2) rfl, p, _, _, _, rfl, rfl, SqL.of hp, atI_nat (j := 0) rfl, q2, q1, q0, l2, l1, l0, rfl, SqL.of c2, SqL.of c1, SqL.of c0, kk⟩
        | 2, hz =>
          cases hz
          replace hc : TY.dayF b = dz2 b := hc
          unfold dz2 at hc
          rw [el] at hc
          dsimp only at hc
          rw [hc] at kk
          refine ⟨_, rfl, a_ORDERS, _, .inl 47, _, rfl, d_ORDERS, rfl, rfl, ?_⟩
          exact ⟨_, rfl, _, rfl, t3, _, _, _, rfl, rfl, o3 _, atI_nat (j := 0) rfl, p, _, _, _, rfl, rfl, SqL.of hp, atI_nat (j := 2) rfl, _, rfl, _, rfl, t3, _, _, _, rfl, rfl, o3 _, atI_nat (j := 1) rfl, p, _, _, _, rfl, rfl, SqL.of hp, atI_nat (j := 0) rfl, _, rfl, _, rfl, t3, _, _, _, rfl, rfl, o3 _, atI_nat (j := 2) rfl, p, _, _, _, rfl, rfl, SqL.of hp, atI_nat (j := 1) rfl, q2, q0, q1, l2, l0, l1, rfl, SqL.of c2, SqL.of c0, SqL.of c1, kk⟩
        | n + 3, hz => cases hz
      · have h3 : ¬ (b.splitOn c).length = 3 := fun z => q (decide_eq_true (by rw [List.length_map, hL.length, z]; rfl))
        refine ⟨_, _, _, rfl, sm'.trans s2, ?_⟩
        rw [hc]
        match i, hz with
        | 0, hz =>
          cases hz
          show dz0 b = dz1 b
          unfold dz0
          split
          · rename_i e
            exact absurd (by rw [e]; rfl) h3
          · rfl
        | 1, hz =>
          cases hz
          show dz1 b = dz2 b
          unfold dz1
          split
          · rename_i e
            exact absurd (by rw [e]; rfl) h3
          · rfl
        | 2, hz =>
          cases hz
          show dz2 b = 0
          unfold dz2
          split
          · rename_i e
            exact absurd (by rw [e]; rfl) h3
          · rfl
        | n + 3, hz => cases hz
    · rintro σ H' ⟨v1, v2, v3, rfl, sm', hc⟩
      have kk := k H' (st.trans sm')
      rw [hc] at kk
      have e : day3 b (SGN.map fun c => V.int (c.toNat : Int)).length = 0 := by
        rfl
      rw [e] at kk
      exact kk
end
end NP
end
section
set_option Elab.async false
set_option linter.all false
set_option maxRecDepth 100000
set_option maxHeartbeats 1000000
namespace NP
open PySem PySem.Spec PyProof.Rows L2
open Sv68 (isDigit lower)
def orM1 : Option Nat → Int
  | some n => (n : Int)
  | none => -1
theorem shaped_one (l : List Int) : SeqAt.shaped (.list [.list (l.map PyData.int)]) = true := by
  unfold SeqAt.shaped
  show ((PyData.canLayAll0 (l.map PyData.int) && true) && decide (max (PyData.depthAll (l.map PyData.int) + 1) 0 + 1 ≤ 64)) = true
  rw [can_ints, dep_ints]
  rfl
section
variable {P : Program} {w : World} {K : PySem.W.Frag} {mg : Str → Option Value} {base : Heap}
abbrev sFhr : Stmt := top 87
theorem scFhr : FnScope ["hour", "words", "word", "code"] ["hour", "words"] (defScope sFhr) := ⟨rfl, rfl, rfl, by decide +kernel, rfl, by decide +kernel, by decide +kernel⟩
def spFhr (K : PySem.W.Frag) : Sp := fun vs H Q _ => ∃ (h : Nat) (a : Addr) (qs : List Addr) (ls : List Bytes), vs = [.int h, .ref a] ∧ H a = some (.lst (qs.map V.ref)) ∧ ListsAt H qs ls ∧ ls.length ≤ 1 ∧ (∀ x ∈ ls, x.length ≤ 70000) ∧ ∀ H', Same H H' → Q (.int (orM1 (TY.hourF h ls.head?))) H'
theorem ok_fhr {f : Addr} {fd : FuncData} (T : TX P w K mg) (O_small : Own P w K mg base CX0 1 "small" ["code"] spSmall) (O_codes_of : Own P w K mg base CX0 1 "codes_of" ["word"] spCodes) (F : Fun K "find_hour" "find_hour" sFhr f fd) : FnOk P w K mg base CX0 2 f fd ["hour", "words"] (spFhr K) := by
  refine F.ok scFhr (fun vs H Q E h => ?_) (fun cdv A outer s H vs Q E hr h => ?_)
  · obtain ⟨h, a, qs, ls, rfl, _⟩ := h
    rfl
  · obtain ⟨h, a, qs, ls, rfl, ha, hL, hl, pl, k⟩ := h
    have nd := scFhr.nd
    have hu64 := hr.units
    have hu65 : (A.deeper (envOfC "find_hour" (defScope sFhr) s.heap.objs.size f cdv)).units + 65 < cLine := by
      have := hr.un
      omega
    refine ⟨_, (pss_cons (ps_if (pt_cmpR (op_eqD hu64) (pv 1) (pe_lst pa_nil) (nomark _)) (pss_one (ps_ret (pe_ifExp (pt_cmpR op_lt (pv 0) pe_int (nomark _)) (pv 0) (pe_un un_neg pe_int)))) pss_nil)
      (pss_cons (ps_setLc (i := 2) rfl nd rfl rfl (sw_true rfl rfl rfl rfl) (pi_list (pe_ix ix_list (pv 1) pe_int (fun _ _ => rfl))) (blkOk_by (N := ["hour", "words", "word", "code"]) (sc := defScope (top 87)) (own := [("code", 3)]) (by decide +kernel)) (fun _ _ _ _ _ => pg_name (i := 3) nd rfl (Or.inl rfl) (.inr rfl)) (fun _ _ _ _ _ => pts_nil) (fun _ _ _ _ _ => (pe_own O_small (hr.mono (by decide)) pass0 (pa_cons (pv 3) pa_nil))))
      (pss_cons (ps_if (PW.pt (pw_or (pt_cmpR (op_notInD hu65) (pv 2) (pe_tup (pa_cons (pe_own O_codes_of (hr.mono (by decide)) pass0 (pa_cons pe_str pa_nil)) (pa_cons (pe_own O_codes_of (hr.mono (by decide)) pass0 (pa_cons pe_str pa_nil)) pa_nil))) (by with_unfolding_all rfl)) (pw_or1 (pt_not (pt_chain op_le op_le pe_int (pv 0) pe_int))))) (pss_one (ps_ret (pe_un un_neg pe_int))) pss_nil)
      (pss_one (ps_ret (pe_ifExp (pt_cmpR (op_eqD hu64) (pv 2) (pe_own O_codes_of (hr.mono (by decide)) pass0 (pa_cons pe_str pa_nil)) (nomark _)) (pe_op op_add (pe_op op_mod (pv 0) pe_int) pe_int) (pe_op op_mod (pv 0) pe_int))))))), ?_⟩
    refine ⟨_, rfl, Nat.zero_le _, fun p hp => ?_⟩
    have s1 := Same.upd (o := .lst []) hp
    cases hL with
    | nil =>
      refine ⟨_, _, .lst (SqL.of (s1 _ _ ha)) .nil, dp_ints (l := []) (SqL.of upd_same), rfl, shaped_ints _, ?_⟩
      have kk := k _ s1
      unfold TY.hourF at kk
      refine ⟨_, rfl, iteT ?_⟩
      refine ⟨_, rfl, _, _, rfl, rfl, _, rfl, ite2 (fun q => ?_) (fun q => ?_)⟩
      · have q1 : h < 24 := by have := of_decide_eq_true q; omega
        dsimp only [List.head?_nil] at kk
        rw [if_pos q1] at kk
        exact ⟨_, rfl, kk⟩
      · have q1 : ¬ h < 24 := fun z => q (decide_eq_true (by omega))
        dsimp only [List.head?_nil] at kk
        rw [if_neg q1] at kk
        exact ⟨_, rfl, kk⟩
    | @cons q0 l0 qs' ls' c0 hL =>
    cases hL with
    | cons _ _ => exact absurd hl (by simp)
    | nil =>
      have l70 := pl l0 List.mem_cons_self
      refine ⟨_, _, .lst (SqL.of (s1 _ _ ha)) (.cons (dp_ints (SqL.of (s1 _ _ c0))) .nil), dp_ints (l := []) (SqL.of upd_same), shaped_one _, shaped_ints _, ?_⟩
      refine ⟨_, rfl, iteF ?_⟩
      refine ⟨_, rfl, a, _, _, _, rfl, rfl, SqL.of (s1 _ _ ha), atI_nat (j := 0) rfl, q0, rfl, ⟨_, SqL.of (s1 _ _ c0)⟩, fun D hD => lc_pure (K := K) (a := q0) (xs := bv l0) lowS (SqL.of (s1 _ _ c0)) hD (by rw [bv_length]; omega) ?_ ?_⟩
      · intro x H' hx sm Q1 Q2 y1 y2
        obtain ⟨n, hn, rfl⟩ := List.mem_map.mp hx
        exact ⟨rfl, _, rfl, n, rfl, y1 _ rfl⟩
      · rw [lowV]
        have sD := Same.upd (o := .lst (bv (l0.map lower))) hD
        refine ⟨_, rfl, "am", rfl, by decide +kernel, fun p2 hp2 => ?_⟩
        have s2 := Same.upd (o := .lst ((codesI "am").map V.int)) hp2
        refine ⟨"pm", rfl, by decide +kernel, fun p3 hp3 => ?_⟩
        have s3 := Same.upd (o := .lst ((codesI "pm").map V.int)) hp3
        refine ⟨(by show 2 ≤ 2 ^ 24; decide), fun p4 hp4 => ?_⟩
        have s4 := Same.upd (o := .tup [.ref p2, .ref p3]) hp4
        have sA := (s2.trans s3).trans s4
        refine ⟨_, _, dp_ints (l := bi (l0.map lower)) (SqL.of (sA _ _ upd_same)), .tup (SqT.of upd_same) (.cons (dp_ints (l := codesI "am") (SqL.of (s4 _ _ (s3 _ _ upd_same)))) (.cons (dp_ints (l := codesI "pm") (SqL.of (s4 _ _ upd_same))) .nil)), shaped_ints _, rfl, ?_⟩
        have e1 : ([PyData.list ((codesI "am").map PyData.int), PyData.list ((codesI "pm").map PyData.int)].any fun e => PyData.eqv e (.list ((bi (l0.map lower)).map PyData.int))) = decide (l0.map lower = Sv68.str "am" ∨ l0.map lower = Sv68.str "pm") := by
          show (PyData.eqv _ _ || (PyData.eqv _ _ || false)) = _
          rw [eqv_ints, eqv_ints, Bool.or_false]
          have x1 := str_codes (z := "am") (s := "am") (by decide +kernel) (l0.map lower)
          have x2 := str_codes (z := "pm") (s := "pm") (by decide +kernel) (l0.map lower)
          rw [show decide (codesI "am" = bi (l0.map lower)) = decide (bi (l0.map lower) = codesI "am") from decide_eq_decide.mpr eq_comm, show decide (codesI "pm" = bi (l0.map lower)) = decide (bi (l0.map lower) = codesI "pm") from decide_eq_decide.mpr eq_comm, x1, x2, Bool.decide_or]
        rw [e1]
        have sm := (s1.trans sD).trans sA
        have kk := k _ sm
        unfold TY.hourF at kk
        dsimp only [List.head?_cons] at kk
        refine ⟨_, rfl, ite2 (fun q => ?_) (fun q => ?_)⟩
        · have q1 : ¬ (l0.map lower = Sv68.str "am" ∨ l0.map lower = Sv68.str "pm") := fun z => by
            rw [decide_eq_true z] at q
            cases q
          rw [if_neg fun z => q1 z.1] at kk
          exact iteT ⟨_, rfl, kk⟩
        · have q1 : l0.map lower = Sv68.str "am" ∨ l0.map lower = Sv68.str "pm" := by
            by_cases z : l0.map lower = Sv68.str "am" ∨ l0.map lower = Sv68.str "pm"
            · exact z
            · exact (q (by rw [decide_eq_false z]; rfl)).elim
          have no : ¬ (1 ≤ h ∧ h ≤ 12) → Q (.int (-1)) (upd (upd (upd (upd (upd H p (.lst [])) D (.lst (bv (l0.map lower)))) p2 (.lst ((codesI "am").map V.int))) p3 (.lst ((codesI "pm").map V.int))) p4 (.tup [.ref p2, .ref p3])) := fun z => by
            rw [if_neg fun y => z y.2] at kk
            exact kk
          refine ⟨_, rfl, _, _, rfl, rfl, _, rfl, ite2 (fun q2 => ?_) (fun q2 => ?_)⟩
          · have z1 : 1 ≤ h := by have := of_decide_eq_true q2; omega
            refine ⟨_, _, rfl, rfl, _, rfl, ite2 (fun q3 => ?_) (fun q3 => ?_)⟩
            · have z2 : ¬ h ≤ 12 := fun z => by
                rw [decide_eq_true (show (h : Int) ≤ 12 by omega)] at q3
                cases q3
              exact ⟨_, rfl, no fun z => z2 z.2⟩
            · have z2 : h ≤ 12 := by
                by_cases z : h ≤ 12
                · exact z
                · exact (q3 (by rw [decide_eq_false (show ¬ (h : Int) ≤ 12 by omega)]; rfl)).elim
              rw [if_pos ⟨q1, z1, z2⟩] at kk
              refine ⟨_, rfl, "pm", rfl, by decide +kernel, fun p5 hp5 => ?_⟩
              have s5 := Same.upd (o := .lst ((codesI "pm").map V.int)) hp5
              refine ⟨_, _, dp_ints (l := bi (l0.map lower)) (SqL.of (s5 _ _ (sA _ _ upd_same))), dp_ints (l := codesI "pm") (SqL.of upd_same), shaped_ints _, shaped_ints _, ?_⟩
              rw [eqv_ints, str_codes (s := "pm") (by decide +kernel)]
              have kk5 := k _ (sm.trans s5)
              unfold TY.hourF at kk5
              dsimp only [List.head?_cons] at kk5
              rw [if_pos ⟨q1, z1, z2⟩] at kk5
              refine ⟨_, rfl, ite2 (fun q4 => ?_) (fun q4 => ?_)⟩
              · rw [if_pos (of_decide_eq_true q4)] at kk5
                refine ⟨_, rfl, _, _, rfl, rfl, (by show (0 : Int) < _; decide), _, _, rfl, rfl, ?_⟩
                rw [show orM1 (some (h % 12 + 12)) = (h : Int) % 12 + 12 from (by omega : ((h % 12 + 12 : Nat) : Int) = (h : Int) % 12 + 12)] at kk5
                exact kk5
              · rw [if_neg (fun z => q4 (decide_eq_true z))] at kk5
                refine ⟨_, rfl, _, _, rfl, rfl, (by show (0 : Int) < _; decide), ?_⟩
                rw [show orM1 (some (h % 12)) = (h : Int) % 12 from (by omega : ((h % 12 : Nat) : Int) = (h : Int) % 12)] at kk5
                exact kk5
          · have z1 : ¬ 1 ≤ h := fun z => q2 (decide_eq_true (by omega))
            exact ⟨_, rfl, iteT ⟨_, rfl, no fun z => z1 z.1⟩⟩
abbrev sRsec : Stmt := top 88
theorem scRsec : FnScope ["codes", "parts", "decimals"] ["codes"] (defScope sRsec) := ⟨rfl, rfl, rfl, by decide +kernel, rfl, by decide +kernel, by decide +kernel⟩
def spRsec (K : PySem.W.Frag) : Sp := fun vs H Q _ => ∃ a b, vs = [.ref a] ∧ SqL K H a (bv b) ∧ b.length ≤ 70000 ∧ ∀ H', Same H H' → Q (.int (orM1 (TY.secF b))) H'
theorem ok_rsec {f : Addr} {fd : FuncData} (T : TX P w K mg) (O_parted : Own P w K mg base CX0 1 "parted" ["codes", "sign"] (spParted K)) (O_are_digits : Own P w K mg base CX0 2 "are_digits" ["codes", "least", "most"] (spAred K)) (O_number_of : Own P w K mg base CX0 1 "number_of" ["digits"] (spNumof K)) (O_codes_of : Own P w K mg base CX0 1 "codes_of" ["word"] spCodes)
    (F : Fun K "read_seconds" "read_seconds" sRsec f fd) : FnOk P w K mg base CX0 3 f fd ["codes"] (spRsec K) := by
  refine F.ok scRsec (fun vs H Q E h => ?_) (fun cdv A outer s H vs Q E hr h => ?_)
  · obtain ⟨a, b, rfl, _⟩ := h
    rfl
  · obtain ⟨a, b, rfl, hS, hlen, k⟩ := h
    have nd := scRsec.nd
    obtain ⟨t3, h3, q3⟩ : ∃ t3, PSs (cxOf CX0 P w K mg base ["codes", "parts", "decimals"] "read_seconds" (defScope sRsec) f cdv A outer s H E).nox ((defBody sRsec).drop 3) t3 ∧
        ∀ (p q0 dq : Addr) (qs : List Addr) (x d : Bytes) (H2 : Hp), Same H H2 → H2 p = some (.lst ((q0 :: qs).map V.ref)) → H2 q0 = some (.lst (bv x)) → H2 dq = some (.lst (bv d)) → x.all isDigit = true → d.length ≤ 70000 →
          orM1 (TY.secF b) = (if areDig d 1 3 = true then ((Sv68.number x * 1000 + Sv68.number ((d ++ [48, 48]).take 3) : Nat) : Int) else -1) →
          t3 { nx := fun _ H' => Q .non H', rt := Q } [some (.ref a), some (.ref p), some (.ref dq)] H2 := by
      refine ⟨_, (pss_cons (ps_if (pt_not (pt_val (pe_own O_are_digits (hr.mono (by decide)) pass0 (pa_cons (pv 2) (pa_cons pe_int (pa_cons pe_int pa_nil)))))) (pss_one (ps_ret (pe_un un_neg pe_int))) pss_nil)
      (pss_one (ps_ret (pe_op op_add (pe_op op_mul (pe_own O_number_of (hr.mono (by decide)) pass0 (pa_cons (pe_ix ix_list (pv 1) pe_int (fun _ _ => rfl)) pa_nil)) pe_int) (pe_own O_number_of (hr.mono (by decide)) pass0 (pa_cons (pe_slice sl_list (pe_op op_catL (pv 2) (pe_own O_codes_of (hr.mono (by decide)) pass0 (pa_cons pe_str pa_nil))) po_none (po_some pe_int)) pa_nil)))))), ?_⟩
      intro p q0 dq qs x d H2 sm hp h0 hd ax dl hc
      refine ⟨_, rfl, dq, d, 1, 3, rfl, SqL.of hd, _, rfl, ?_⟩
      cases hA : areDig d 1 3 with
      | false =>
        rw [hA, if_neg (by decide)] at hc
        have kk := k _ sm
        rw [hc] at kk
        exact iteT ⟨_, rfl, kk⟩
      | true =>
        rw [hA, if_pos rfl] at hc
        have dd := (TY.dg_iff.mp (show TY.dg d 1 3 = true from hA)).2.2
        refine iteF ⟨_, rfl, p, _, _, _, rfl, rfl, SqL.of hp, atI_nat (j := 0) rfl, q0, x, rfl, SqL.of h0, ax, _, _, rfl, rfl, .inr ⟨by decide, by decide⟩, ?_⟩
        refine ⟨_, rfl, "00", rfl, by decide +kernel, fun r hr' => ?_⟩
        have sr := Same.upd (o := .lst ((codesI "00").map V.int)) hr'
        refine ⟨dq, r, _, _, rfl, rfl, SqL.of (sr _ _ hd), SqL.of upd_same, (by rw [bv_length]; show d.length + 2 ≤ 2 ^ 24; omega), fun u hu => ?_⟩
        have e1 : bv d ++ (codesI "00").map V.int = bv (d ++ [48, 48]) := by
          rw [← bv_append]
          rfl
        rw [e1]
        have su := sr.trans (Same.upd (o := .lst (bv (d ++ [48, 48]))) hu)
        refine ⟨(3 : Int), rfl, u, _, rfl, SqL.of upd_same, ?_⟩
        rw [show cutV (bv (d ++ [48, 48])) none (some 3) = bv ((d ++ [48, 48]).take 3) from bcut_to _ 3]
        intro v hv
        have sv := su.trans (Same.upd (o := .lst (bv ((d ++ [48, 48]).take 3))) hv)
        refine ⟨v, (d ++ [48, 48]).take 3, rfl, SqL.of upd_same, ?_, _, _, rfl, rfl, ?_⟩
        · refine List.all_eq_true.mpr fun c hc' => ?_
          rcases List.mem_append.mp (List.mem_of_mem_take hc') with z | z
          · exact List.all_eq_true.mp dd c z
          · simp at z
            rw [z]
            rfl
        · have kk := k _ (sm.trans sv)
          rw [hc] at kk
          have e9 : ∀ m n : Nat, ((m * 1000 + n : Nat) : Int) = (m : Int) * 1000 + (n : Int) := fun m n => by omega
          rw [e9] at kk
          exact kk
    refine ⟨_, (pss_cons (ps_set (i := 1) nd rfl (Or.inl rfl) (pe_own O_parted (hr.mono (by decide)) pass0 (pa_cons (pv 0) (pa_cons (pe_gi T.c_POINT) pa_nil))))
      (pss_cons (ps_if (PW.pt (pw_or (pt_cmpR op_gt (pe_callB call_len_seq rfl T.n_len (by decide +kernel) (pa_cons (pv 1) pa_nil)) pe_int (nomark _)) (pw_or (pt_not (pt_val (pe_own O_are_digits (hr.mono (by decide)) pass0 (pa_cons (pe_ix ix_list (pv 1) pe_int (fun _ _ => rfl)) (pa_cons pe_int (pa_cons pe_int pa_nil)))))) (pw_or1 (pt_cmpR op_ge (pe_own O_number_of (hr.mono (by decide)) pass0 (pa_cons (pe_ix ix_list (pv 1) pe_int (fun _ _ => rfl)) pa_nil)) pe_int (nomark _)))))) (pss_one (ps_ret (pe_un un_neg pe_int))) pss_nil)
      (pss_cons (ps_set (i := 2) nd rfl (Or.inl rfl) (pe_ifExp (pt_cmpR op_eq (pe_callB call_len_seq rfl T.n_len (by decide +kernel) (pa_cons (pv 1) pa_nil)) pe_int (nomark _)) (pe_ix ix_list (pv 1) pe_int (fun _ _ => rfl)) (pe_own O_codes_of (hr.mono (by decide)) pass0 (pa_cons pe_str pa_nil))))
      h3))), ?_⟩
    refine ⟨_, rfl, a, b, 46, rfl, hS, hlen, fun p H2 qs sm hp hL => ?_⟩
    have pl : ∀ x ∈ b.splitOn 46, x.length ≤ 70000 := fun x hx => Nat.le_trans (part_len hx) hlen
    have hne : b.splitOn 46 ≠ [] := List.splitOn_ne_nil _ _
    have kk := k _ sm
    have hf : TY.secF b = (match b.splitOn 46 with
      | [x] => if TY.dg x 1 2 = true ∧ Sv68.number x < 60 then some (Sv68.number x * 1000) else none
      | [x, f] => if TY.dg x 1 2 = true ∧ Sv68.number x < 60 ∧ TY.dg f 1 3 = true then some (Sv68.number x * 1000 + Sv68.number ((f ++ [48, 48]).take 3)) else none
      | _ => none) := rfl
    revert hL pl hne hf
    generalize b.splitOn 46 = ls
    intro hL pl hne hf
    cases hL with
    | nil => exact absurd rfl hne
    | @cons q0 x qs' ls' c0 hL =>
    cases hL with
    | nil =>
      dsimp only at hf
      refine ⟨_, rfl, p, _, rfl, .inl (SqL.of hp), _, _, rfl, rfl, _, rfl, ite2 (fun q => by simp at q) fun _ => ?_⟩
      refine ⟨_, rfl, p, _, _, _, rfl, rfl, SqL.of hp, atI_nat (j := 0) rfl, q0, x, 1, 2, rfl, SqL.of c0, _, rfl, ?_⟩
      cases hA : areDig x 1 2 with
      | false =>
        rw [if_neg (fun z => absurd (show areDig x 1 2 = true from z.1) (by rw [hA]; decide))] at hf
        rw [hf] at kk
        exact iteT (iteT ⟨_, rfl, kk⟩)
      | true =>
        have ax := (TY.dg_iff.mp (show TY.dg x 1 2 = true from hA)).2.2
        refine iteF ⟨_, rfl, p, _, _, _, rfl, rfl, SqL.of hp, atI_nat (j := 0) rfl, q0, x, rfl, SqL.of c0, ax, _, _, rfl, rfl, _, rfl, ite2 (fun q => ?_) (fun q => ?_)⟩
        · have q1 : ¬ Sv68.number x < 60 := by have := of_decide_eq_true q; omega
          rw [if_neg (fun z => q1 z.2)] at hf
          rw [hf] at kk
          exact ⟨_, rfl, kk⟩
        · have q1 : Sv68.number x < 60 := by
            rcases Nat.lt_or_ge (Sv68.number x) 60 with z | z
            · exact z
            · exact absurd (decide_eq_true (show (60 : Int) ≤ (Sv68.number x : Int) by omega)) q
          rw [if_pos ⟨hA, q1⟩] at hf
          refine ⟨_, rfl, p, _, rfl, .inl (SqL.of hp), rfl, _, rfl, ite2 (fun q => by simp at q) fun _ => ?_⟩
          refine ⟨"0", rfl, by decide +kernel, fun r hr' => ?_⟩
          have sr := Same.upd (o := .lst ((codesI "0").map V.int)) hr'
          refine q3 p q0 r [] x [48] _ (sm.trans sr) (sr _ _ hp) (sr _ _ c0) upd_same ax (by decide) ?_
          rw [hf]
          rfl
    | @cons q1 d qs' ls' c1 hL =>
    cases hL with
    | nil =>
      dsimp only at hf
      refine ⟨_, rfl, p, _, rfl, .inl (SqL.of hp), _, _, rfl, rfl, _, rfl, ite2 (fun q => by simp at q) fun _ => ?_⟩
      refine ⟨_, rfl, p, _, _, _, rfl, rfl, SqL.of hp, atI_nat (j := 0) rfl, q0, x, 1, 2, rfl, SqL.of c0, _, rfl, ?_⟩
      cases hA : areDig x 1 2 with
      | false =>
        rw [if_neg (fun z => absurd (show areDig x 1 2 = true from z.1) (by rw [hA]; decide))] at hf
        rw [hf] at kk
        exact iteT (iteT ⟨_, rfl, kk⟩)
      | true =>
        have ax := (TY.dg_iff.mp (show TY.dg x 1 2 = true from hA)).2.2
        refine iteF ⟨_, rfl, p, _, _, _, rfl, rfl, SqL.of hp, atI_nat (j := 0) rfl, q0, x, rfl, SqL.of c0, ax, _, _, rfl, rfl, _, rfl, ite2 (fun q => ?_) (fun q => ?_)⟩
        · have q1 : ¬ Sv68.number x < 60 := by have := of_decide_eq_true q; omega
          rw [if_neg (fun z => q1 z.2.1)] at hf
          rw [hf] at kk
          exact ⟨_, rfl, kk⟩
        · have q1' : Sv68.number x < 60 := by
            rcases Nat.lt_or_ge (Sv68.number x) 60 with z | z
            · exact z
            · exact absurd (decide_eq_true (show (60 : Int) ≤ (Sv68.number x : Int) by omega)) q
          refine ⟨_, rfl, p, _, rfl, .inl (SqL.of hp), rfl, _, rfl, ite2 (fun _ => ?_) (fun q => by simp at q)⟩
          refine ⟨_, rfl, p, _, _, _, rfl, rfl, SqL.of hp, atI_nat (j := 1) rfl, q3 p q0 q1 [q1] x d _ sm hp c0 c1 ax (pl d (List.mem_cons_of_mem _ List.mem_cons_self)) ?_⟩
          rw [hf]
          by_cases z : areDig d 1 3 = true
          · rw [if_pos ⟨hA, q1', z⟩, if_pos z]
            rfl
          · rw [if_neg (fun y => z y.2.2), if_neg z]
            rfl
    | @cons q2 d2 qs' ls' c2 hL =>
      dsimp only at hf
      rw [hf] at kk
      refine ⟨_, rfl, p, _, rfl, .inl (SqL.of hp), _, _, rfl, rfl, _, rfl, ite2 (fun _ => iteT ⟨_, rfl, kk⟩) fun q => ?_⟩
      refine absurd (decide_eq_true ?_) q
      simp only [List.map_cons, List.length_cons]
      omega
end
end NP
end
section
set_option Elab.async false
set_option linter.all false
set_option maxRecDepth 100000
set_option maxHeartbeats 1000000
namespace NP
open PySem PySem.Spec PyProof.Rows L2
open Sv68 (isDigit lower)
def fs_Time (v1 v2 : V) : List (Str × V) := (putF "has_seconds" v2 (putF "thousandths" v1 []))
theorem fs_Time_thousandths (v1 v2 : V) : (fs_Time v1 v2).lookup ("thousandths" : Str) = some v1 := by
  unfold fs_Time
  rw [lookup_putF, if_neg (by decide +kernel), lookup_putF, if_pos rfl]
theorem fs_Time_has_seconds (v1 v2 : V) : (fs_Time v1 v2).lookup ("has_seconds" : Str) = some v2 := by
  unfold fs_Time
  rw [lookup_putF, if_pos rfl]
structure Tx_Time (K : PySem.W.Frag) (C : Addr) : Prop where
  cl : Cls K C
  n_thousandths : NoAttr K C "thousandths"
  n_has_seconds : NoAttr K C "has_seconds"
def At_Time (C : Addr) (H : Hp) (a : Addr) (v1 v2 : V) : Prop := ∃ dx, H a = some (.ins C dx (fs_Time v1 v2))
abbrev si_Time : Stmt := inClass (top 81) 0
def sp_Time (C : Addr) : Sp := fun vs H Q _ => ∃ (p dx : Addr) (v1 v2 : V), vs = [.ref p, v1, v2] ∧ H p = some (.ins C dx []) ∧ Q .non (upd H p (.ins C dx (fs_Time v1 v2)))
theorem sc_Time : FnScope ["self", "thousandths", "has_seconds"] ["self", "thousandths", "has_seconds"] (defScope si_Time) := ⟨rfl, rfl, rfl, by decide +kernel, rfl, by decide +kernel, by decide +kernel⟩
theorem ok_Time {P : Program} {w : World} {K : PySem.W.Frag} {mg : Str → Option Value} {base : Heap} {f C : Addr} {fd : FuncData} (T : Tx_Time K C) (F : Fun K "__init__" "Time.__init__" si_Time f fd) : FnOk P w K mg base CX0 1 f fd ["self", "thousandths", "has_seconds"] (sp_Time C) := by
  refine F.ok sc_Time (fun vs H Q E h => ?_) (fun cdv A outer s H vs Q E hr h => ?_)
  · obtain ⟨p, dx, v1, v2, rfl, _⟩ := h
    rfl
  · obtain ⟨p, dx, v1, v2, rfl, hp, k⟩ := h
    refine ⟨_, (pss_cons (ps_fld (pv 0) (pv 1) rfl) (pss_one (ps_fld (pv 0) (pv 2) rfl))), ?_⟩
    refine ⟨_, rfl, _, rfl, p, C, dx, [], rfl, hp, T.cl, T.n_thousandths, (by show 0 < 1000; decide), ?_⟩
    refine ⟨_, rfl, _, rfl, p, C, dx, _, rfl, upd_same, T.cl, T.n_has_seconds, (by show 1 < 1000; decide), ?_⟩
    rw [upd_upd]
    exact k
def TimeAt (C : Addr) (H : Hp) (x : Addr) (t : Nat × Bool) : Prop := At_Time C H x (.int (t.1 : Int)) (.bl t.2)
def tmP (ps : List Bytes) (ow : Option Bytes) : Option (Nat × Bool) := match ps with
  | [h, m] => TY.mkF h m ow (some 0) false
  | [h, m, s] => TY.mkF h m ow (TY.secF s) true
  | _ => none
theorem time_words {b w0 : Bytes} {ws : List Bytes} (h : b.splitOn 32 = w0 :: ws) : TY.timeF b = if ws.length ≤ 1 then tmP (w0.splitOn 58) ws.head? else none := by
  unfold TY.timeF
  rw [h]
  match ws with
  | [] => rfl
  | [x] => rfl
  | x :: y :: r => exact (if_neg (by simp)).symm
section
variable {P : Program} {w : World} {K : PySem.W.Frag} {mg : Str → Option Value} {base : Heap}
abbrev sRtm : Stmt := top 86
theorem scRtm : FnScope ["codes", "words", "parts", "hour", "minute", "thousandths"] ["codes"] (defScope sRtm) := ⟨rfl, rfl, rfl, by decide +kernel, rfl, by decide +kernel, by decide +kernel⟩
def spRtm (K : PySem.W.Frag) (C : Addr) : Sp := fun vs H Q _ => ∃ a b, vs = [.ref a] ∧ SqL K H a (bv b) ∧ b.length ≤ 70000 ∧ (∀ H', Same H H' → TY.timeF b = none → Q .non H') ∧ ∀ x H' t, TY.timeF b = some t → Same H H' → TimeAt C H' x t → Q (.ref x) H'
theorem ok_rtm {f C : Addr} {fd : FuncData} (T : TX P w K mg) (O_parted : Own P w K mg base CX0 1 "parted" ["codes", "sign"] (spParted K)) (O_are_digits : Own P w K mg base CX0 2 "are_digits" ["codes", "least", "most"] (spAred K)) (O_number_of : Own P w K mg base CX0 1 "number_of" ["digits"] (spNumof K))
    (O_find_hour : Own P w K mg base CX0 2 "find_hour" ["hour", "words"] (spFhr K)) (O_read_seconds : Own P w K mg base CX0 3 "read_seconds" ["codes"] (spRsec K)) (O_Time : OwnC P w K mg base CX0 1 C "Time" ["self", "thousandths", "has_seconds"] (sp_Time C))
    (F : Fun K "read_time" "read_time" sRtm f fd) : FnOk P w K mg base CX0 4 f fd ["codes"] (spRtm K C) := by
  refine F.ok scRtm (fun vs H Q E h => ?_) (fun cdv A outer s H vs Q E hr h => ?_)
  · obtain ⟨a, b, rfl, _⟩ := h
    rfl
  · obtain ⟨a, b, rfl, hS, hlen, k0, k1⟩ := h
    have nd := scRtm.nd
    obtain ⟨t7, h7, q7⟩ : ∃ t7, PSs (cxOf CX0 P w K mg base ["codes", "words", "parts", "hour", "minute", "thousandths"] "read_time" (defScope sRtm) f cdv A outer s H E).nox ((defBody sRtm).drop 7) t7 ∧
        ∀ (wq p : Addr) (oh os : Option Nat) (mm : Nat) (has : Bool) (pq : List Addr) (H2 : Hp), Same H H2 → H2 p = some (.lst (pq.map V.ref)) → decide (pq.length = 3) = has →
          TY.timeF b = (oh.bind fun x => os.bind fun s => if mm < 60 then some ((x * 60 + mm) * 60000 + s, has) else none) →
          t7 { nx := fun _ H' => Q .non H', rt := Q } [some (.ref a), some (.ref wq), some (.ref p), some (.int (orM1 oh)), some (.int mm), some (.int (orM1 os))] H2 := by
      refine ⟨_, (pss_cons (ps_if (PW.pt (pw_or (pt_cmpR op_lt (pv 3) pe_int (nomark _)) (pw_or (pt_cmpR op_ge (pv 4) pe_int (nomark _)) (pw_or1 (pt_cmpR op_lt (pv 5) pe_int (nomark _)))))) (pss_one (ps_ret pe_non)) pss_nil)
      (pss_one (ps_ret (pe_new O_Time (hr.mono (by decide)) pass0 (pa_cons (pe_op op_add (pe_op op_mul (pe_op op_add (pe_op op_mul (pv 3) pe_int) (pv 4)) pe_int) (pv 5)) (pa_cons (pe_cmpR op_eq (pe_callB call_len_seq rfl T.n_len (by decide +kernel) (pa_cons (pv 2) pa_nil)) pe_int (nomark _)) pa_nil)))))), ?_⟩
      intro wq p oh os mm has pq H2 sm hp hh ht
      cases oh with
      | none => exact ⟨_, rfl, _, _, rfl, rfl, _, rfl, iteT (iteT (k0 _ sm ht))⟩
      | some x =>
        refine ⟨_, rfl, _, _, rfl, rfl, _, rfl, ite2 (fun q => absurd (of_decide_eq_true q) (by show ¬ (x : Int) < 0; omega)) fun _ => ?_⟩
        refine ⟨_, rfl, _, _, rfl, rfl, _, rfl, ite2 (fun q => ?_) fun q => ?_⟩
        · have q1 : ¬ mm < 60 := by have := of_decide_eq_true q; omega
          refine iteT (k0 _ sm ?_)
          rw [ht]
          cases os with
          | none => rfl
          | some s => exact if_neg q1
        · have q1 : mm < 60 := by
            rcases Nat.lt_or_ge mm 60 with z | z
            · exact z
            · exact absurd (decide_eq_true (show (60 : Int) ≤ (mm : Int) by omega)) q
          cases os with
          | none => exact ⟨_, rfl, _, _, rfl, rfl, _, rfl, iteT (k0 _ sm ht)⟩
          | some s' =>
            refine ⟨_, rfl, _, _, rfl, rfl, _, rfl, ite2 (fun q => absurd (of_decide_eq_true q) (by show ¬ (s' : Int) < 0; omega)) fun _ => ?_⟩
            have ht' : TY.timeF b = some ((x * 60 + mm) * 60000 + s', has) := by
              rw [ht]
              exact if_pos q1
            refine ⟨_, rfl, _, _, rfl, rfl, .inr ⟨by decide, by decide⟩, _, rfl, _, _, rfl, rfl, _, _, rfl, rfl, .inr ⟨by decide, by decide⟩, _, rfl, _, _, rfl, rfl, _, rfl, p, _, rfl, .inl (SqL.of hp), rfl, fun y dx hy hdx hne => ?_⟩
            refine ⟨y, dx, _, _, rfl, upd_same, rfl, k1 y _ _ ht' (sm.ins hy hdx) ⟨dx, ?_⟩⟩
            have e1 : ((x : Int) * 60 + (mm : Int)) * 60000 + (s' : Int) = (((x * 60 + mm) * 60000 + s' : Nat) : Int) := by omega
            have e2 : decide (V.int ((pq.map V.ref).length : Int) = V.int 3) = has := by
              rw [← hh, List.length_map]
              exact decide_eq_decide.mpr ⟨fun z => by have := V.int.inj z; omega, fun z => by rw [z]; rfl⟩
            rw [upd_same]
            show some (HO.ins C dx (fs_Time (V.int (((x : Int) * 60 + (mm : Int)) * 60000 + (s' : Int))) (V.bl (decide (V.int ((pq.map V.ref).length : Int) = V.int 3))))) = _
            rw [e1, e2]
    obtain ⟨t3, h3, q3⟩ : ∃ t3, PSs (cxOf CX0 P w K mg base ["codes", "words", "parts", "hour", "minute", "thousandths"] "read_time" (defScope sRtm) f cdv A outer s H E).nox ((defBody sRtm).drop 3) t3 ∧
        ∀ (wq p w0 q0 q1 : Addr) (wqs qr : List Addr) (ws : List Bytes) (h m : Bytes) (rs : List Bytes) (H2 : Hp), Same H H2 → H2 wq = some (.lst ((w0 :: wqs).map V.ref)) → ListsAt H2 wqs ws → ws.length ≤ 1 → (∀ x ∈ ws, x.length ≤ 70000) →
          H2 p = some (.lst ((q0 :: q1 :: qr).map V.ref)) → H2 q0 = some (.lst (bv h)) → H2 q1 = some (.lst (bv m)) → ListsAt H2 qr rs → rs.length ≤ 1 → (∀ x ∈ rs, x.length ≤ 70000) →
          TY.timeF b = TY.mkF h m ws.head? (match rs.head? with | none => some 0 | some s => TY.secF s) rs.head?.isSome →
          t3 { nx := fun _ H' => Q .non H', rt := Q } [some (.ref a), some (.ref wq), some (.ref p), none, none, none] H2 := by
      refine ⟨_, (pss_cons (ps_if (PW.pt (pw_or (pt_not (pt_val (pe_own O_are_digits (hr.mono (by decide)) pass0 (pa_cons (pe_ix ix_list (pv 2) pe_int (fun _ _ => rfl)) (pa_cons pe_int (pa_cons pe_int pa_nil)))))) (pw_or1 (pt_not (pt_val (pe_own O_are_digits (hr.mono (by decide)) pass0 (pa_cons (pe_ix ix_list (pv 2) pe_int (fun _ _ => rfl)) (pa_cons pe_int (pa_cons pe_int pa_nil))))))))) (pss_one (ps_ret pe_non)) pss_nil)
      (pss_cons (ps_set (i := 3) nd rfl (Or.inl rfl) (pe_own O_find_hour (hr.mono (by decide)) pass0 (pa_cons (pe_own O_number_of (hr.mono (by decide)) pass0 (pa_cons (pe_ix ix_list (pv 2) pe_int (fun _ _ => rfl)) pa_nil)) (pa_cons (pe_slice sl_list (pv 1) (po_some pe_int) po_none) pa_nil))))
      (pss_cons (ps_set (i := 4) nd rfl (Or.inl rfl) (pe_own O_number_of (hr.mono (by decide)) pass0 (pa_cons (pe_ix ix_list (pv 2) pe_int (fun _ _ => rfl)) pa_nil)))
      (pss_cons (ps_set (i := 5) nd rfl (Or.inl rfl) (pe_ifExp (pt_cmpR op_eq (pe_callB call_len_seq rfl T.n_len (by decide +kernel) (pa_cons (pv 2) pa_nil)) pe_int (nomark _)) (pe_own O_read_seconds (hr.mono (by decide)) pass0 (pa_cons (pe_ix ix_list (pv 2) pe_int (fun _ _ => rfl)) pa_nil)) pe_int))
      h7)))), ?_⟩
      intro wq p w0 q0 q1 wqs qr ws h m rs H2 sm hw hwL hwl wpl hp h0 h1 hrL hrl rpl ht
      unfold TY.mkF at ht
      refine ⟨_, rfl, p, _, _, _, rfl, rfl, SqL.of hp, atI_nat (j := 0) rfl, q0, h, 1, 2, rfl, SqL.of h0, _, rfl, ?_⟩
      cases hA : areDig h 1 2 with
      | false =>
        rw [if_neg (fun z => absurd (show areDig h 1 2 = true from z.1) (by rw [hA]; decide))] at ht
        exact iteT (iteT (k0 _ sm ht))
      | true =>
        refine iteF ⟨_, rfl, p, _, _, _, rfl, rfl, SqL.of hp, atI_nat (j := 1) rfl, q1, m, 1, 2, rfl, SqL.of h1, _, rfl, ?_⟩
        cases hB : areDig m 1 2 with
        | false =>
          rw [if_neg (fun z => absurd (show areDig m 1 2 = true from z.2) (by rw [hB]; decide))] at ht
          exact iteT (k0 _ sm ht)
        | true =>
          rw [if_pos ⟨hA, hB⟩] at ht
          have ah := (TY.dg_iff.mp (show TY.dg h 1 2 = true from hA)).2.2
          have am := (TY.dg_iff.mp (show TY.dg m 1 2 = true from hB)).2.2
          refine iteF ⟨_, rfl, p, _, _, _, rfl, rfl, SqL.of hp, atI_nat (j := 0) rfl, q0, h, rfl, SqL.of h0, ah, _, rfl, (1 : Int), rfl, wq, _, rfl, SqL.of hw, ?_⟩
          rw [show cutV ((w0 :: wqs).map V.ref) (some 1) none = wqs.map V.ref from cut_from _ 1]
          intro u hu
          have su := Same.upd (o := .lst (wqs.map V.ref)) hu
          refine ⟨_, u, wqs, ws, rfl, upd_same, hwL.same su, hwl, wpl, fun H3 s3 => ?_⟩
          have s4 := su.trans s3
          refine ⟨_, rfl, p, _, _, _, rfl, rfl, SqL.of (s4 _ _ hp), atI_nat (j := 1) rfl, q1, m, rfl, SqL.of (s4 _ _ h1), am, ?_⟩
          refine ⟨_, rfl, p, _, rfl, .inl (SqL.of (s4 _ _ hp)), rfl, _, rfl, ?_⟩
          cases hrL with
          | nil => exact ite2 (fun q => by simp at q) fun _ => q7 wq p _ (some 0) _ false _ H3 (sm.trans s4) (s4 _ _ hp) rfl ht
          | @cons q2 s2 qr' rs' c2 hrL =>
          cases hrL with
          | cons _ _ => exact absurd hrl (by simp)
          | nil =>
            refine ite2 (fun _ => ?_) (fun q => by simp at q)
            refine ⟨_, rfl, p, _, _, _, rfl, rfl, SqL.of (s4 _ _ hp), atI_nat (j := 2) rfl, q2, s2, rfl, SqL.of (s4 _ _ c2), rpl s2 List.mem_cons_self, fun H5 s5 => ?_⟩
            have s6 := s4.trans s5
            exact q7 wq p _ (TY.secF s2) _ true _ H5 (sm.trans s6) (s6 _ _ hp) rfl ht
    obtain ⟨t2, h2, q2⟩ : ∃ t2, PSs (cxOf CX0 P w K mg base ["codes", "words", "parts", "hour", "minute", "thousandths"] "read_time" (defScope sRtm) f cdv A outer s H E).nox ((defBody sRtm).drop 2) t2 ∧
        ∀ (wq p w0 : Addr) (wqs pq : List Addr) (ws ps : List Bytes) (H2 : Hp), Same H H2 → H2 wq = some (.lst ((w0 :: wqs).map V.ref)) → ListsAt H2 wqs ws → (∀ x ∈ ws, x.length ≤ 70000) →
          H2 p = some (.lst (pq.map V.ref)) → ListsAt H2 pq ps → (∀ x ∈ ps, x.length ≤ 70000) → ps ≠ [] → TY.timeF b = (if ws.length ≤ 1 then tmP ps ws.head? else none) →
          t2 { nx := fun _ H' => Q .non H', rt := Q } [some (.ref a), some (.ref wq), some (.ref p), none, none, none] H2 := by
      refine ⟨_, (pss_cons (ps_if (PW.pt (pw_or (pt_cmpR op_gt (pe_callB call_len_seq rfl T.n_len (by decide +kernel) (pa_cons (pv 1) pa_nil)) pe_int (nomark _)) (pw_or1 (pt_not (pt_chain op_le op_le pe_int (pe_callB call_len_seq rfl T.n_len (by decide +kernel) (pa_cons (pv 2) pa_nil)) pe_int))))) (pss_one (ps_ret pe_non)) pss_nil)
      h3), ?_⟩
      intro wq p w0 wqs pq ws ps H2 sm hw hwL wpl hp hpL ppl pne ht
      have wl := hwL.length
      refine ⟨_, rfl, wq, _, rfl, .inl (SqL.of hw), _, _, rfl, rfl, _, rfl, ite2 (fun q => ?_) (fun q => ?_)⟩
      · have q1 : ¬ ws.length ≤ 1 := by
          have := of_decide_eq_true q
          rw [List.length_map, List.length_cons, wl] at this
          omega
        rw [if_neg q1] at ht
        exact iteT (k0 _ sm ht)
      · have hw1 : ws.length ≤ 1 := by
          rcases Nat.lt_or_ge 1 ws.length with z | z
          · exact absurd (decide_eq_true (by rw [List.length_map, List.length_cons, wl]; omega)) q
          · exact z
        rw [if_pos hw1] at ht
        cases hpL with
        | nil => exact absurd rfl pne
        | @cons q0 h pq' ps' c0 hpL =>
        cases hpL with
        | nil => exact ⟨_, rfl, p, _, rfl, .inl (SqL.of hp), _, _, rfl, rfl, _, rfl, ite2 (fun q => by simp at q) fun _ => ⟨_, rfl, iteT (k0 _ sm ht)⟩⟩
        | @cons q1 m pq' ps' c1 hpL =>
        refine ⟨_, rfl, p, _, rfl, .inl (SqL.of hp), _, _, rfl, rfl, _, rfl, ite2 (fun _ => ?_) (fun q => absurd (decide_eq_true (by simp only [List.map_cons, List.length_cons]; omega)) q)⟩
        cases hpL with
        | nil => exact ⟨_, _, rfl, rfl, _, rfl, ite2 (fun q => by simp at q) fun _ => q3 wq p w0 q0 q1 wqs [] ws h m [] H2 sm hw hwL hw1 wpl hp c0 c1 .nil (by simp) (fun x hx => by cases hx) ht⟩
        | @cons q2 s2 pq' ps' c2 hpL =>
        cases hpL with
        | nil => exact ⟨_, _, rfl, rfl, _, rfl, ite2 (fun q => by simp at q) fun _ => q3 wq p w0 q0 q1 wqs [q2] ws h m [s2] H2 sm hw hwL hw1 wpl hp c0 c1 (.cons c2 .nil) (by simp) (fun x hx => ppl x (by simp at hx; simp [hx])) ht⟩
        | cons _ _ =>
          refine ⟨_, _, rfl, rfl, _, rfl, ite2 (fun _ => k0 _ sm ht) (fun q => ?_)⟩
          refine absurd ?_ q
          simp only [List.map_cons, List.length_cons]
          rw [decide_eq_false (by omega)]
          rfl
    refine ⟨_, (pss_cons (ps_set (i := 1) nd rfl (Or.inl rfl) (pe_own O_parted (hr.mono (by decide)) pass0 (pa_cons (pv 0) (pa_cons (pe_gi T.c_BLANK) pa_nil))))
      (pss_cons (ps_set (i := 2) nd rfl (Or.inl rfl) (pe_own O_parted (hr.mono (by decide)) pass0 (pa_cons (pe_ix ix_list (pv 1) pe_int (fun _ _ => rfl)) (pa_cons (pe_gi T.c_COLON) pa_nil))))
      h2)), ?_⟩
    refine ⟨_, rfl, a, b, 32, rfl, hS, hlen, fun wq H1 wqs s1 hw hwL => ?_⟩
    have wpl : ∀ x ∈ b.splitOn 32, x.length ≤ 70000 := fun x hx => Nat.le_trans (part_len hx) hlen
    have hne : b.splitOn 32 ≠ [] := List.splitOn_ne_nil _ _
    revert hwL wpl hne
    generalize el : b.splitOn 32 = ls
    intro hwL wpl hne
    cases hwL with
    | nil => exact absurd rfl hne
    | @cons w0 l0 wqs ws c0 hwL =>
      have l70 := wpl l0 List.mem_cons_self
      refine ⟨_, rfl, wq, _, _, _, rfl, rfl, SqL.of hw, atI_nat (j := 0) rfl, w0, l0, 58, rfl, SqL.of c0, l70, fun p H2 pq s2 hp hpL => ?_⟩
      exact q2 wq p w0 wqs pq ws _ H2 (s1.trans s2) (s2 _ _ hw) (ListsAt.same s2 hwL) (fun x hx => wpl x (List.mem_cons_of_mem _ hx)) hp hpL (fun x hx => Nat.le_trans (part_len hx) l70) (List.splitOn_ne_nil _ _) (time_words el)
theorem codes_add (x y : Str) : codesI (x ++ y) = codesI x ++ codesI y := by
  unfold codesI
  show ((x.cps ++ y.cps).toList.map fun (c : Nat) => (c : Int)) = _
  rw [Array.toList_append, List.map_append]
abbrev sMent : Stmt := top 83
theorem scMent : FnScope ["day", "time", "front", "number"] ["day", "time", "front"] (defScope sMent) := ⟨rfl, rfl, rfl, by decide +kernel, rfl, by decide +kernel, by decide +kernel⟩
def spMent (C CT : Addr) : Sp := fun vs H Q _ => ∃ (d : Nat) (x : Addr) (t : Nat × Bool) (fr : Str) (pf : Bytes), vs = [.int d, .ref x, .str fr] ∧ TimeAt CT H x t ∧ fr.length ≤ 50 ∧ codesI fr = bi pf ∧ spEnt C H Q [1, Wbk.nearest (((d : Int) * 86400000 + (t.1 : Int)) * Wbk.ONE) 86400000] (pf ++ TY.tpic t.2)
theorem ok_ment {f C CT : Addr} {fd : FuncData} (T : TX P w K mg) (TT : Tx_Time K CT) (O_round_halves_even : Own P w K mg base CX0 1 "round_halves_even" ["number", "divisor"] spRhe) (O_number_entry : Own P w K mg base CX0 3 "number_entry" ["number", "picture"] (spNent C)) (O_codes_of : Own P w K mg base CX0 1 "codes_of" ["word"] spCodes)
    (F : Fun K "make_entry" "make_entry" sMent f fd) : FnOk P w K mg base CX0 4 f fd ["day", "time", "front"] (spMent C CT) := by
  refine F.ok scMent (fun vs H Q E h => ?_) (fun cdv A outer s H vs Q E hr h => ?_)
  · obtain ⟨d, x, t, fr, pf, rfl, _⟩ := h
    rfl
  · obtain ⟨d, x, t, fr, pf, rfl, ⟨dx, hx⟩, hfl, hpf, k⟩ := h
    have nd := scMent.nd
    refine ⟨_, (pss_cons (ps_set (i := 3) nd rfl (Or.inl rfl) (pe_own O_round_halves_even (hr.mono (by decide)) pass0 (pa_cons (pe_op op_mul (pe_op op_add (pe_op op_mul (pv 0) (pe_gi T.c_OF_DAY)) (pe_fld (pv 1) rfl)) (pe_gi T.c_ONE)) (pa_cons (pe_gi T.c_OF_DAY) pa_nil))))
      (pss_one (ps_ret (pe_own O_number_entry (hr.mono (by decide)) pass0 (pa_cons (pv 3) (pa_cons (pe_own O_codes_of (hr.mono (by decide)) pass0 (pa_cons (pe_op op_add_str (pv 2) (pe_ifExp (pt_val (pe_fld (pv 1) rfl)) pe_str pe_str)) pa_nil)) pa_nil)))))), ?_⟩
    have fin : ∀ z : Str, z.length ≤ 10 → codesI z = bi (TY.tpic t.2) → spCodes ([V.str (fr ++ z)] ++ []) H (fun y H' => spNent C ([V.int (Wbk.nearest (((d : Int) * 86400000 + (t.1 : Int)) * Wbk.ONE) 86400000), y] ++ []) H' Q E0) E0 := by
      intro z hz ez
      refine ⟨fr ++ z, rfl, ?_, fun p hp => ?_⟩
      · show (fr.cps ++ z.cps).size ≤ 100
        rw [Array.size_append]
        show fr.length + z.length ≤ 100
        omega
      · rw [codes_add, hpf, ez, List.map_append, bv_append]
        exact ⟨_, p, _, rfl, upd_same, fun e H' s' hE => k e H' ((Same.upd hp).trans s') hE⟩
    refine ⟨_, rfl, _, _, rfl, rfl, .inr ⟨by decide, by decide⟩, _, rfl, x, CT, dx, _, _, rfl, hx, TT.cl, TT.n_thousandths, fs_Time_thousandths _ _, _, _, rfl, rfl, _, _, rfl, rfl, .inr ⟨by decide, by decide⟩, _, _, rfl, by decide, by decide, ?_⟩
    refine ⟨_, rfl, _, rfl, _, rfl, x, CT, dx, _, _, rfl, hx, TT.cl, TT.n_has_seconds, fs_Time_has_seconds _ _, _, rfl, ite2 (fun q => ?_) (fun q => ?_)⟩
    · exact ⟨_, _, rfl, rfl, (by show fr.length + 7 ≤ 2 ^ 24; omega), fin _ (by decide +kernel) (by unfold TY.tpic; rw [if_pos q]; decide +kernel)⟩
    · exact ⟨_, _, rfl, rfl, (by show fr.length + 4 ≤ 2 ^ 24; omega), fin _ (by decide +kernel) (by unfold TY.tpic; rw [if_neg q]; decide +kernel)⟩
theorem bvFlat (b : Bytes) : (bv b).all flatV = true := by
  unfold bv
  rw [List.all_map]
  exact List.all_eq_true.mpr fun _ _ => rfl
theorem blank_in (b : Bytes) : inV (V.int 32) (bv b) = decide ((32 : UInt8) ∈ b) := by
  unfold inV
  rw [Bool.eq_iff_iff, List.any_eq_true, decide_eq_true_iff]
  constructor
  · rintro ⟨y, hy, he⟩
    obtain ⟨n, hn, rfl⟩ := List.mem_map.mp hy
    obtain ⟨c, hc, rfl⟩ := List.mem_map.mp hn
    have : ((c.toNat : Int)) = 32 := by simpa [eqV] using he
    have e : c = 32 := u8_eq.mpr this
    rw [← e]
    exact hc
  · intro h
    exact ⟨V.int 32, List.mem_map.mpr ⟨32, List.mem_map.mpr ⟨32, h, rfl⟩, rfl⟩, rfl⟩
def bef (b : Bytes) : Bytes := b.takeWhile fun c => c != 32
theorem bef_len (b : Bytes) : (bef b).length ≤ b.length := (List.takeWhile_sublist _).length_le
theorem bef_take (b : Bytes) : b.take (bef b).length = bef b := by
  have h := TY.tw_drop (fun c : UInt8 => c != 32) b
  unfold bef
  generalize b.takeWhile (fun c : UInt8 => c != 32) = w at h ⊢
  rw [h, List.take_left]
theorem bef_at {b : Bytes} (h : (32 : UInt8) ∈ b) : b[(bef b).length]? = some 32 := by
  obtain ⟨x, r, e, n⟩ := TY.sp_split h
  have : bef b = x := by
    unfold bef
    rw [e]
    refine TY.tw (List.all_eq_true.mpr fun c hc => ?_) fun y hy => ?_
    · have : c ≠ 32 := fun z => n (z ▸ hc)
      simpa using this
    · cases hy
      rfl
  rw [this, e]
  simp
theorem bef_ne {b : Bytes} {m : Nat} {c : UInt8} (hm : m < (bef b).length) (h : b[m]? = some c) : c ≠ 32 := by
  have h1 : (b.take (bef b).length)[m]? = some c := by
    rw [List.getElem?_take, if_pos hm]
    exact h
  rw [bef_take] at h1
  have := List.mem_of_getElem? h1
  have h2 := List.all_eq_true.mp (List.all_takeWhile (p := fun c : UInt8 => c != 32) (l := b)) c this
  simpa using h2
theorem bef_all {b : Bytes} (h : (32 : UInt8) ∉ b) : bef b = b := by
  unfold bef
  have := TY.tw (p := fun c : UInt8 => c != 32) (w := b) (r := []) (List.all_eq_true.mpr fun c hc => by
    have : c ≠ 32 := fun z => h (z ▸ hc)
    simpa using this) (fun x hx => by cases hx)
  rw [List.append_nil] at this
  exact this
abbrev sRmom : Stmt := top 82
theorem scRmom : FnScope ["codes", "day", "time", "blank"] ["codes"] (defScope sRmom) := ⟨rfl, rfl, rfl, by decide +kernel, rfl, by decide +kernel, by decide +kernel⟩
def spRmom (K : PySem.W.Frag) (C : Addr) : Sp := fun vs H Q _ => ∃ a b, vs = [.ref a] ∧ SqL K H a (bv b) ∧ b.length ≤ 70000 ∧ (∀ H', Same H H' → TY.momF b = none → Q .non H') ∧ ∀ v pic, TY.momF b = some (v, pic) → spEnt C H Q [1, v] pic
theorem ok_rmom {f C CT : Addr} {fd : FuncData} (T : TX P w K mg) (O_read_day : Own P w K mg base CX0 5 "read_day" ["codes"] (spRday K)) (O_read_time : Own P w K mg base CX0 4 "read_time" ["codes"] (spRtm K CT)) (O_number_entry : Own P w K mg base CX0 3 "number_entry" ["number", "picture"] (spNent C)) (O_make_entry : Own P w K mg base CX0 4 "make_entry" ["day", "time", "front"] (spMent C CT)) (O_codes_of : Own P w K mg base CX0 1 "codes_of" ["word"] spCodes)
    (F : Fun K "read_moment" "read_moment" sRmom f fd) : FnOk P w K mg base CX0 6 f fd ["codes"] (spRmom K C) := by
  refine F.ok scRmom (fun vs H Q E h => ?_) (fun cdv A outer s H vs Q E hr h => ?_)
  · obtain ⟨a, b, rfl, _⟩ := h
    rfl
  · obtain ⟨a, b, rfl, hS, hlen, k0, k1⟩ := h
    have nd := scRmom.nd
    -- behind blank = ..
    obtain ⟨t5, h5, q5⟩ : ∃ t5, PSs (cxOf CX0 P w K mg base ["codes", "day", "time", "blank"] "read_moment" (defScope sRmom) f cdv A outer s H E).nox ((defBody sRmom).drop 5) t5 ∧
        ∀ (H2 : Hp), Same H H2 → ¬ 0 < TY.dayF b → TY.timeF b = none → t5 { nx := fun _ H' => Q .non H', rt := Q } [some (.ref a), some (.int (TY.dayF b)), some .non, some (.int (bef b).length)] H2 := by
      refine ⟨_, (pss_cons (ps_set (i := 1) nd rfl (Or.inl rfl) (pe_own O_read_day (hr.mono (by decide)) pass0 (pa_cons (pe_slice sl_list (pv 0) po_none (po_some (pv 3))) pa_nil)))
      (pss_cons (ps_set (i := 2) nd rfl (Or.inl rfl) (pe_own O_read_time (hr.mono (by decide)) pass0 (pa_cons (pe_slice sl_list (pv 0) (po_some (pe_op op_add (pv 3) pe_int)) po_none) pa_nil)))
      (pss_cons (ps_if (PW.pt (pw_or (pt_cmpR op_eq (pv 1) pe_int (nomark _)) (pw_or1 (pt_cmpR op_isN (pv 2) pe_non (nomark _))))) (pss_one (ps_ret pe_non)) pss_nil)
      (pss_one (ps_ret (pe_own O_make_entry (hr.mono (by decide)) pass0 (pa_cons (pv 1) (pa_cons (pv 2) (pa_cons (pe_op op_add_str (pe_gs T.c_DAY_PICTURE) pe_str) pa_nil))))))))), ?_⟩
      intro H2 sm n1 n2
      have em : TY.momF b = if TY.dayF (bef b) = 0 then none else match TY.timeF (b.drop ((bef b).length + 1)) with
          | none => none
          | some t => some (Wbk.nearest (((TY.dayF (bef b) : Int) * 86400000 + (t.1 : Int)) * Wbk.ONE) 86400000, Sv68.str "yyyy-mm-dd " ++ TY.tpic t.2) := by
        unfold TY.momF
        rw [if_neg n1, n2]
        rfl
      refine ⟨_, rfl, _, rfl, ((bef b).length : Int), rfl, a, _, rfl, sm.seq hS, ?_⟩
      rw [bcut_to, bef_take]
      intro p hp
      have sp := Same.upd (o := .lst (bv (bef b))) hp
      refine ⟨p, bef b, rfl, SqL.of upd_same, Nat.le_trans (bef_len b) hlen, fun H3 s3 => ?_⟩
      have s4 := (sm.trans sp).trans s3
      refine ⟨_, rfl, _, rfl, _, _, rfl, rfl, ((bef b).length : Int) + 1, rfl, a, _, rfl, s4.seq hS, ?_⟩
      rw [show cutV (bv b) (some (((bef b).length : Int) + 1)) none = bv (b.drop ((bef b).length + 1)) from bcut_from b ((bef b).length + 1)]
      intro r hr'
      have sr := Same.upd (o := .lst (bv (b.drop ((bef b).length + 1)))) hr'
      refine ⟨r, _, rfl, SqL.of upd_same, (by rw [List.length_drop]; omega), fun H5 s5 hn => ?_, fun x H5 t ht s5 hx => ?_⟩
      · have s6 := (s4.trans sr).trans s5
        have mn : TY.momF b = none := by
          rw [em, hn]
          split <;> rfl
        refine ⟨_, rfl, rfl, _, rfl, ite2 (fun _ => iteT (k0 _ s6 mn)) fun _ => ?_⟩
        exact ⟨_, rfl, rfl, _, rfl, iteT (k0 _ s6 mn)⟩
      · have s6 := (s4.trans sr).trans s5
        refine ⟨_, rfl, rfl, _, rfl, ite2 (fun q => ?_) fun q => ?_⟩
        · have q1 : TY.dayF (bef b) = 0 := by have := V.int.inj (of_decide_eq_true q); omega
          exact iteT (k0 _ s6 (by rw [em, if_pos q1]))
        · have q1 : ¬ TY.dayF (bef b) = 0 := fun z => q (by rw [z]; rfl)
          rw [if_neg q1, ht] at em
          refine ⟨_, rfl, rfl, _, rfl, iteF ⟨_, rfl, _, rfl, _, _, rfl, rfl, by decide +kernel, _, x, t, _, Sv68.str "yyyy-mm-dd ", rfl, hx, by decide +kernel, by decide +kernel, fun e H7 s7 hE => k1 _ _ em e H7 (s6.trans s7) hE⟩⟩
    refine ⟨_, (pss_cons (ps_set (i := 1) nd rfl (Or.inl rfl) (pe_own O_read_day (hr.mono (by decide)) pass0 (pa_cons (pv 0) pa_nil)))
      (pss_cons (ps_if (pt_cmpR op_gt (pv 1) pe_int (nomark _)) (pss_one (ps_ret (pe_own O_number_entry (hr.mono (by decide)) pass0 (pa_cons (pe_op op_mul (pv 1) (pe_gi T.c_ONE)) (pa_cons (pe_own O_codes_of (hr.mono (by decide)) pass0 (pa_cons (pe_gs T.c_DAY_PICTURE) pa_nil)) pa_nil))))) pss_nil)
      (pss_cons (ps_set (i := 2) nd rfl (Or.inl rfl) (pe_own O_read_time (hr.mono (by decide)) pass0 (pa_cons (pv 0) pa_nil)))
      (pss_cons (ps_if (pt_cmpR op_notN (pv 2) pe_non (nomark _)) (pss_one (ps_ret (pe_own O_make_entry (hr.mono (by decide)) pass0 (pa_cons pe_int (pa_cons (pv 2) (pa_cons pe_str pa_nil)))))) pss_nil)
      (pss_cons (ps_set (i := 3) nd rfl (Or.inl rfl) (pe_ifExp (pt_cmpR op_in_seq (pe_gi T.c_BLANK) (pv 0) (by with_unfolding_all rfl)) (pe_bm PySem.F.plainAttrs_list PySem.F.slot_list_index PySem.F.type_list_index mt_index (pv 0) (pa_cons (pe_gi T.c_BLANK) pa_nil)) (pe_callB call_len_seq rfl T.n_len (by decide +kernel) (pa_cons (pv 0) pa_nil))))
      h5))))), ?_⟩
    refine ⟨_, rfl, a, b, rfl, hS, hlen, fun H1 s1 => ?_⟩
    refine ⟨_, rfl, _, _, rfl, rfl, _, rfl, ite2 (fun q => ?_) fun q => ?_⟩
    · have q1 : 0 < TY.dayF b := by have := of_decide_eq_true q; omega
      have em : TY.momF b = some ((TY.dayF b : Int) * Wbk.ONE, Sv68.str "yyyy-mm-dd") := by
        unfold TY.momF
        rw [if_pos q1]
      refine ⟨_, rfl, _, _, rfl, rfl, .inr ⟨by decide, by decide⟩, "yyyy-mm-dd", rfl, by decide +kernel, fun p hp => ?_⟩
      have e : (codesI "yyyy-mm-dd").map V.int = bv (Sv68.str "yyyy-mm-dd") := by decide +kernel
      rw [e]
      exact ⟨_, p, _, rfl, upd_same, fun x H3 s3 hE => k1 _ _ em x H3 ((s1.trans (Same.upd hp)).trans s3) hE⟩
    · have q1 : ¬ 0 < TY.dayF b := fun z => q (decide_eq_true (by omega))
      refine ⟨_, rfl, a, b, rfl, s1.seq hS, hlen, fun H2 s2 hn => ?_, fun x H2 t ht s2 hx => ?_⟩
      · have s3 := s1.trans s2
        refine ⟨_, rfl, rfl, _, rfl, iteF ?_⟩
        refine ⟨_, rfl, a, _, rfl, .inl (s3.seq hS), rfl, bvFlat b, _, rfl, ?_⟩
        rw [show (if false = true then !inV (V.int 32) (bv b) else inV (V.int 32) (bv b)) = decide ((32 : UInt8) ∈ b) from blank_in b]
        refine ite2 (fun z => ?_) (fun z => ?_)
        · have hb := bef_at (of_decide_eq_true z)
          refine ⟨_, rfl, .inl ⟨rfl, _, s3.seq hS⟩, a, _, _, (bef b).length, _, rfl, rfl, s3.seq hS, rfl, bvFlat b, bv_get hb, rfl, fun m z' hm hz' => ?_, q5 H2 s3 q1 hn⟩
          obtain ⟨c, hc, rfl⟩ := bv_got hz'
          have := bef_ne hm hc
          show ((c.toNat : Int) == 32) = false
          rw [beq_eq_false_iff_ne]
          intro y
          exact this (u8_eq.mpr y)
        · have hb := bef_all (fun y => z (decide_eq_true y))
          refine ⟨_, rfl, a, _, rfl, .inl (s3.seq hS), ?_⟩
          have y := q5 H2 s3 q1 hn
          rw [hb] at y
          rw [bv_length]
          exact y
      · have em : TY.momF b = some (Wbk.nearest ((0 * 86400000 + (t.1 : Int)) * Wbk.ONE) 86400000, TY.tpic t.2) := by
          unfold TY.momF
          rw [if_neg q1, ht]
        refine ⟨_, rfl, rfl, _, rfl, iteT ⟨_, rfl, 0, x, t, "", [], rfl, hx, by decide +kernel, by decide +kernel, fun e H3 s3 hE => k1 _ _ em e H3 ((s1.trans s2).trans s3) hE⟩⟩
end
end NP
end
section
set_option Elab.async false
set_option linter.all false
set_option maxRecDepth 100000
set_option maxHeartbeats 1000000
namespace NP
open PySem PySem.Spec PyProof.Rows L2
open Sv68 (isDigit lower)
theorem wordF_len {b : Bytes} {v : List Int} (h : TY.wordF b = some v) : v.length ≤ 2 := by
  unfold TY.wordF at h
  split at h
  · cases h
    decide
  · split at h
    · cases h
      decide
    · split at h
      · cases h
        exact Nat.le_refl 2
      · cases h
theorem trim_len (b : Bytes) : (Sv68.trimmed b).length ≤ b.length := by
  unfold Sv68.trimmed
  rw [List.length_reverse]
  refine Nat.le_trans (List.dropWhile_sublist _).length_le ?_
  rw [List.length_reverse]
  exact (List.dropWhile_sublist _).length_le
section
variable {P : Program} {w : World} {K : PySem.W.Frag} {mg : Str → Option Value} {base : Heap} {CW : Addr} {B newId initId : String} {bm : List Value}
abbrev sRent : Stmt := top 90
theorem scRent : FnScope ["codes", "bare", "entry"] ["codes"] (defScope sRent) := ⟨rfl, rfl, rfl, by decide +kernel, rfl, by decide +kernel, by decide +kernel⟩
def isTx (b : Bytes) : Bool := decide (b.length ≤ 4096) && Wbk.utf8 b
def spRent (K : PySem.W.Frag) (C CW : Addr) : Sp := fun vs H Q E => ∃ a b, vs = [.ref a] ∧ SqL K H a (bv b) ∧ (∀ H', Same H H' → isTx b = false → E (.ref CW) none H') ∧ (isTx b = true → spEnt C H Q (TY.entF b).1 (TY.entF b).2)
theorem ok_rent {f C : Addr} {fd : FuncData} (T : TX P w K mg) (EX_WrongArgument : OwnCls "WrongArgument" CW bm newId mg base) (FB : ExcBaseFacts B newId initId bm)
    (O_is_text : Own P w K mg base CX0 3 "is_text" ["codes"] (spIstx K)) (O_without_blanks : Own P w K mg base CX0 1 "without_blanks" ["codes"] (spWob K)) (O_Entry : OwnC P w K mg base CX0 1 C "Entry" ["self", "value", "picture"] (sp_Entry C)) (O_text_entry : Own P w K mg base CX0 3 "text_entry" ["codes"] (spTent K C))
    (O_read_word : Own P w K mg base CX0 3 "read_word" ["codes"] (spRw K C)) (O_read_number : Own P w K mg base CX0 5 "read_number" ["codes"] (spRnum K C)) (O_read_moment : Own P w K mg base CX0 6 "read_moment" ["codes"] (spRmom K C))
    (F : Fun K "read_entry" "read_entry" sRent f fd) : FnOk P w K mg base (CXN P w CW) 7 f fd ["codes"] (spRent K C CW) := by
  refine F.okX scRent (fun vs H Q E h => ?_) (fun cdv A outer s H vs Q E hr h xk hp => ?_)
  · obtain ⟨a, b, rfl, _⟩ := h
    rfl
  · obtain ⟨a, b, rfl, hS, k0, k1⟩ := h
    have nd := scRent.nd
    have hu64 := hr.units
    -- return text_entry(codes) if entry is None else entry
    obtain ⟨t7, h7, q7⟩ : ∃ t7, PSs (cxOf (CXN P w CW) P w K mg base ["codes", "bare", "entry"] "read_entry" (defScope sRent) f cdv A outer s H E) ((defBody sRent).drop 7) t7 ∧
        (∀ (p : Addr) (H2 : Hp), Same H H2 → b.length ≤ 4096 → spEnt C H Q (TY.textF b) [] → t7 { nx := fun _ H' => Q .non H', rt := Q } [some (.ref a), some (.ref p), some .non] H2) ∧
        ∀ (p e : Addr) (H2 : Hp), Q (.ref e) H2 → t7 { nx := fun _ H' => Q .non H', rt := Q } [some (.ref a), some (.ref p), some (.ref e)] H2 := by
      refine ⟨_, (pss_one (ps_ret (pe_ifExp (pt_cmpR op_isN (pv 2) pe_non (nomark _)) (pe_own O_text_entry (hr.mono (by decide)) pass0 (pa_cons (pv 0) pa_nil)) (pv 2)))), fun p H2 sm hl k => ?_, fun p e H2 k => ?_⟩
      · exact ⟨_, rfl, rfl, _, rfl, iteT ⟨_, rfl, a, b, rfl, sm.seq hS, by omega, fun e H' s' hE => k e H' (sm.trans s') hE⟩⟩
      · exact ⟨_, rfl, rfl, _, rfl, iteF ⟨_, rfl, k⟩⟩
    obtain ⟨t6, h6, q6⟩ : ∃ t6, PSs (cxOf (CXN P w CW) P w K mg base ["codes", "bare", "entry"] "read_entry" (defScope sRent) f cdv A outer s H E) ((defBody sRent).drop 6) t6 ∧
        (∀ (p : Addr) (H2 : Hp), Same H H2 → b.length ≤ 4096 → H2 p = some (.lst (bv (Sv68.trimmed b))) → (TY.momF (Sv68.trimmed b) = none → spEnt C H Q (TY.textF b) []) → (∀ v pic, TY.momF (Sv68.trimmed b) = some (v, pic) → spEnt C H Q [1, v] pic) →
          t6 { nx := fun _ H' => Q .non H', rt := Q } [some (.ref a), some (.ref p), some .non] H2) ∧
        ∀ (p e : Addr) (H2 : Hp), Q (.ref e) H2 → t6 { nx := fun _ H' => Q .non H', rt := Q } [some (.ref a), some (.ref p), some (.ref e)] H2 := by
      refine ⟨_, (pss_cons (ps_if (pt_cmpR op_isN (pv 2) pe_non (nomark _)) (pss_one (ps_set (i := 2) nd rfl (Or.inl rfl) (pe_own O_read_moment (hr.mono (by decide)) pass0 (pa_cons (pv 1) pa_nil)))) pss_nil)
      h7), fun p H2 sm hl hp' kn ks => ?_, fun p e H2 k => ?_⟩
      · refine ⟨_, rfl, rfl, _, rfl, iteT ⟨_, rfl, p, _, rfl, SqL.of hp', Nat.le_trans (trim_len b) (by omega), fun H3 s3 hn => ?_, fun v pic hm e H3 s3 hE => ?_⟩⟩
        · exact q7.1 p H3 (sm.trans s3) hl (kn hn)
        · exact q7.2 p e H3 (ks v pic hm e H3 (sm.trans s3) hE)
      · exact ⟨_, rfl, rfl, _, rfl, iteF (q7.2 p e H2 k)⟩
    obtain ⟨t5, h5, q5⟩ : ∃ t5, PSs (cxOf (CXN P w CW) P w K mg base ["codes", "bare", "entry"] "read_entry" (defScope sRent) f cdv A outer s H E) ((defBody sRent).drop 5) t5 ∧
        (∀ (p : Addr) (H2 : Hp), Same H H2 → b.length ≤ 4096 → H2 p = some (.lst (bv (Sv68.trimmed b))) → Sv68.trimmed b ≠ [] → (TY.numF (Sv68.trimmed b) = none → TY.momF (Sv68.trimmed b) = none → spEnt C H Q (TY.textF b) []) → (TY.numF (Sv68.trimmed b) = none → ∀ v pic, TY.momF (Sv68.trimmed b) = some (v, pic) → spEnt C H Q [1, v] pic) →
          (∀ v pic, TY.numF (Sv68.trimmed b) = some (v, pic) → spEnt C H Q [1, v] pic) → t5 { nx := fun _ H' => Q .non H', rt := Q } [some (.ref a), some (.ref p), some .non] H2) ∧
        ∀ (p e : Addr) (H2 : Hp), Q (.ref e) H2 → t5 { nx := fun _ H' => Q .non H', rt := Q } [some (.ref a), some (.ref p), some (.ref e)] H2 := by
      refine ⟨_, (pss_cons (ps_if (pt_cmpR op_isN (pv 2) pe_non (nomark _)) (pss_one (ps_set (i := 2) nd rfl (Or.inl rfl) (pe_own O_read_number (hr.mono (by decide)) pass0 (pa_cons (pv 1) pa_nil)))) pss_nil)
      h6), fun p H2 sm hl hp' hne kn ks kk => ?_, fun p e H2 k => ?_⟩
      · refine ⟨_, rfl, rfl, _, rfl, iteT ⟨_, rfl, p, _, rfl, SqL.of hp', hne, Nat.le_trans (trim_len b) (by omega), fun H3 s3 hn => ?_, fun v pic hm e H3 s3 hE => ?_⟩⟩
        · exact q6.1 p H3 (sm.trans s3) hl (s3 _ _ hp') (kn hn) (ks hn)
        · exact q6.2 p e H3 (kk v pic hm e H3 (sm.trans s3) hE)
      · exact ⟨_, rfl, rfl, _, rfl, iteF (q6.2 p e H2 k)⟩
    obtain ⟨t1, h1, q1⟩ : ∃ t1, PSs (cxOf (CXN P w CW) P w K mg base ["codes", "bare", "entry"] "read_entry" (defScope sRent) f cdv A outer s H E) ((defBody sRent).drop 1) t1 ∧
        ∀ (H2 : Hp), Same H H2 → b.length ≤ 4096 → spEnt C H Q (TY.entF b).1 (TY.entF b).2 → t1 { nx := fun _ H' => Q .non H', rt := Q } [some (.ref a), none, none] H2 := by
      refine ⟨_, (pss_cons (ps_set (i := 1) nd rfl (Or.inl rfl) (pe_own O_without_blanks (hr.mono (by decide)) pass0 (pa_cons (pv 0) pa_nil)))
      (pss_cons (ps_if (pt_cmpR (op_eqD hu64) (pv 1) (pe_lst pa_nil) (nomark _)) (pss_one (ps_ret (pe_new O_Entry (hr.mono (by decide)) pass0 (pa_cons (pe_lst (pa_cons (pe_gi T.c_EMPTY) pa_nil)) (pa_cons (pe_lst pa_nil) pa_nil))))) pss_nil)
      (pss_cons (ps_if (pt_cmpR op_eq (pe_ix ix_list (pv 0) pe_int (fun _ _ => rfl)) (pe_gi T.c_APOSTROPHE) (nomark _)) (pss_one (ps_ret (pe_own O_text_entry (hr.mono (by decide)) pass0 (pa_cons (pe_slice sl_list (pv 0) (po_some pe_int) po_none) pa_nil)))) pss_nil)
      (pss_cons (ps_set (i := 2) nd rfl (Or.inl rfl) (pe_own O_read_word (hr.mono (by decide)) pass0 (pa_cons (pv 1) pa_nil)))
      h5)))), fun H2 sm hl k => ?_⟩
      refine ⟨_, rfl, a, b, rfl, sm.seq hS, fun p hp' => ?_⟩
      have sp := Same.upd (o := .lst (bv (Sv68.trimmed b))) hp'
      have s1 := sm.trans sp
      refine ⟨_, rfl, Nat.zero_le _, fun q hq => ?_⟩
      have sq := Same.upd (o := .lst []) hq
      have hpq : (upd (upd H2 p (.lst (bv (Sv68.trimmed b)))) q (.lst [])) p = some (.lst (bv (Sv68.trimmed b))) := sq _ _ upd_same
      refine ⟨_, _, dp_ints (l := bi (Sv68.trimmed b)) (SqL.of hpq), dp_ints (l := []) (SqL.of upd_same), shaped_ints _, shaped_ints _, ?_⟩
      rw [eqv_ints]
      have s2 := s1.trans sq
      unfold TY.entF at k
      refine ⟨_, rfl, ite2 (fun z => ?_) (fun z => ?_)⟩
      · have z1 : Sv68.trimmed b = [] := bi_inj (b := []) (of_decide_eq_true z)
        rw [if_pos z1] at k
        refine ⟨(by show 1 ≤ 2 ^ 24; decide), fun r hr' => ⟨Nat.zero_le _, fun r2 hr2 => ?_⟩⟩
        have s3 := Same.upd (o := .lst []) hr2
        exact new_ent k ((s2.trans (Same.upd hr')).trans s3) (s3 _ _ (by rw [upd_same]; rfl)) upd_same
      · have z1 : Sv68.trimmed b ≠ [] := fun y => z (by rw [y]; rfl)
        rw [if_neg z1] at k
        have bne : b ≠ [] := fun y => z1 (by rw [y]; rfl)
        obtain ⟨c, hc⟩ := ne_head bne
        refine ⟨_, rfl, a, _, _, _, rfl, rfl, s2.seq hS, at_0 hc, rfl, _, rfl, ?_⟩
        rw [hc] at k
        rw [u8_dec c 39 39 rfl]
        refine ite2 (fun y => ?_) (fun y => ?_)
        · rw [if_pos (by rw [show c = 39 by simpa using y])] at k
          refine ⟨_, rfl, (1 : Int), rfl, a, _, rfl, s2.seq hS, ?_⟩
          rw [show cutV (bv b) (some 1) none = bv (b.drop 1) from bcut_from b 1]
          intro r hr'
          exact ⟨r, b.drop 1, rfl, SqL.of upd_same, (by rw [List.length_drop]; omega), fun e H' s' hE => k e H' ((s2.trans (Same.upd hr')).trans s') hE⟩
        · rw [if_neg (fun x => y (by rw [show c = 39 from Option.some.inj x]; rfl))] at k
          refine ⟨_, rfl, p, _, rfl, SqL.of hpq, Nat.le_trans (trim_len b) (by omega), fun H3 s3 hn => ?_, fun v hv e H3 s3 hE => ?_⟩
          · rw [hn] at k
            refine q5.1 p H3 (s2.trans s3) hl (s3 _ _ hpq) z1 (fun n1 n2 => ?_) (fun n1 v pic n2 => ?_) fun v pic n1 => ?_
            · rw [n1, n2] at k
              exact k
            · rw [n1, n2] at k
              exact k
            · rw [n1] at k
              exact k
          · rw [hv] at k
            exact q5.2 p e H3 (k e H3 (s2.trans s3) hE)
    refine ⟨_, (pss_cons (ps_if (pt_not (pt_val (pe_own O_is_text (hr.mono (by decide)) pass0 (pa_cons (pv 0) pa_nil)))) (pss_one (ps_raise EX_WrongArgument FB rfl xk rfl (pa_cons pe_str pa_nil))) pss_nil)
      h1), ?_⟩
    refine ⟨_, rfl, a, b, rfl, hS, fun H1 s1 => ⟨_, rfl, ?_⟩⟩
    cases hx : isTx b with
    | false =>
      rw [show (decide (b.length ≤ 4096) && Wbk.utf8 b) = false from hx]
      exact iteT ⟨(by show 1 ≤ 2 ^ 24; decide), k0 H1 s1 hx⟩
    | true =>
      rw [show (decide (b.length ≤ 4096) && Wbk.utf8 b) = true from hx]
      have hl : b.length ≤ 4096 := by
        unfold isTx at hx
        rw [Bool.and_eq_true] at hx
        exact of_decide_eq_true hx.1
      exact iteF (q1 H1 s1 hl (k1 hx))
abbrev sTyp : Stmt := top 95
theorem scTyp : FnScope ["text", "entry"] ["text"] (defScope sTyp) := ⟨rfl, rfl, rfl, by decide +kernel, rfl, by decide +kernel, by decide +kernel⟩
def spTyp (K : PySem.W.Frag) : Sp := fun vs H Q _ => ∃ a b, vs = [.ref a] ∧ SqL K H a (bv b) ∧ ∀ (p : Addr) (H' : Hp), H' p = some (.lst ((TY.tyF b).map V.int)) → Q (.ref p) H'
theorem isTx_iff (b : Bytes) : isTx b = true ↔ b.length ≤ 4096 ∧ Wbk.utf8 b = true := by
  unfold isTx
  rw [Bool.and_eq_true, decide_eq_true_iff]
theorem ent_len {b : Bytes} (h : b.length ≤ 4096) : (TY.entF b).1.length ≤ 5000 ∧ (TY.entF b).2.length ≤ 100 := by
  have tl : ∀ x : Bytes, x.length ≤ 4096 → (TY.textF x).length ≤ 5000 := fun x hx => by
    unfold TY.textF TY.bi
    rw [List.length_append, List.length_map]
    show 2 + x.length ≤ 5000
    omega
  have np : ∀ t v pic, TY.numF t = some (v, pic) → pic.length ≤ 100 := fun t v pic q => by
    unfold TY.numF at q
    obtain ⟨f, _, q⟩ := Option.bind_eq_some_iff.mp q
    split at q
    · cases q
    · cases q
      unfold TY.picF
      split
      · split <;> decide
      · split
        · split <;> decide
        · decide
  have tp : ∀ x, (TY.tpic x).length ≤ 10 := fun x => by cases x <;> decide
  have mp : ∀ t v pic, TY.momF t = some (v, pic) → pic.length ≤ 100 := fun t v pic q => by
    unfold TY.momF at q
    split at q
    · cases q
      decide
    · split at q
      · rename_i x _
        cases q
        have := tp x.2
        omega
      · split at q
        · cases q
        · split at q
          · cases q
          · rename_i x _
            cases q
            have := tp x.2
            rw [List.length_append]
            show 11 + _ ≤ 100
            omega
  unfold TY.entF
  split
  · decide
  · split
    · exact ⟨tl _ (by rw [List.length_drop]; omega), Nat.zero_le _⟩
    · split
      · rename_i v hv
        exact ⟨Nat.le_trans (wordF_len hv) (by decide), Nat.zero_le _⟩
      · split
        · rename_i x hx
          exact ⟨(by show 2 ≤ 5000; decide), np _ x.1 x.2 hx⟩
        · split
          · rename_i x hx
            exact ⟨(by show 2 ≤ 5000; decide), mp _ x.1 x.2 hx⟩
          · exact ⟨tl _ h, Nat.zero_le _⟩
theorem ok_typ {f C : Addr} {fd : FuncData} (T : TX P w K mg) (TE' : Tx_Entry K C) (EX_WrongArgument : OwnCls "WrongArgument" CW bm newId mg base) (FB : ExcBaseFacts B newId initId bm) (O_read_entry : Own P w K mg base (CXN P w CW) 7 "read_entry" ["codes"] (spRent K C CW))
    (F : Fun K "typed" "typed" sTyp f fd) : FnOk P w K mg base CX0 8 f fd ["text"] (spTyp K) := by
  refine F.ok scTyp (fun vs H Q E h => ?_) (fun cdv A outer s H vs Q E hr h => ?_)
  · obtain ⟨a, b, rfl, _⟩ := h
    rfl
  · obtain ⟨a, b, rfl, hS, k⟩ := h
    have nd := scTyp.nd
    obtain ⟨t1, h1, q1⟩ : ∃ t1, PSs (cxOf CX0 P w K mg base ["text", "entry"] "typed" (defScope sTyp) f cdv A outer s H E).nox ((defBody sTyp).drop 1) t1 ∧
        ∀ (e : Addr) (H1 : Hp), isTx b = true → EntAt C H1 e (TY.entF b).1 (TY.entF b).2 → t1 { nx := fun _ H' => Q .non H', rt := Q } [some (.ref a), some (.ref e)] H1 := by
      refine ⟨_, (pss_one (ps_ret (pe_op op_catL (pe_op op_catL (pe_op op_catL (pe_lst (pa_cons pe_int pa_nil)) (pe_fld (pv 1) rfl)) (pe_lst (pa_cons (pe_callB call_len_seq rfl T.n_len (by decide +kernel) (pa_cons (pe_fld (pv 1) rfl) pa_nil)) pa_nil))) (pe_fld (pv 1) rfl)))), ?_⟩
      intro e H1 hx hE
      obtain ⟨v, q, ⟨dx, he⟩, hv, hq⟩ := hE
      have ok := (isTx_iff b).mp hx
      obtain ⟨l1, l2⟩ := ent_len ok.1
      unfold TY.tyF at k
      rw [if_pos ok] at k
      refine ⟨(by show 1 ≤ 2 ^ 24; decide), fun p hp => ?_⟩
      have s1 := Same.upd (o := .lst [V.int 0]) hp
      refine ⟨_, rfl, e, C, dx, _, _, rfl, s1 _ _ he, TE'.cl, TE'.n_value, fs_Entry_value _ _, p, v, _, _, rfl, rfl, SqL.of upd_same, SqL.of (s1 _ _ hv), (by rw [List.length_map]; show 1 + _ ≤ 2 ^ 24; omega), fun p2 hp2 => ?_⟩
      have s2 := s1.trans (Same.upd (o := .lst ([V.int 0] ++ (TY.entF b).1.map V.int)) hp2)
      refine ⟨_, rfl, e, C, dx, _, _, rfl, s2 _ _ he, TE'.cl, TE'.n_picture, fs_Entry_picture _ _, q, _, rfl, .inl (SqL.of (s2 _ _ hq)), (by show 1 ≤ 2 ^ 24; decide), fun p3 hp3 => ?_⟩
      rw [bv_length]
      have s3 := Same.upd (o := .lst [V.int ((TY.entF b).2.length : Int)]) hp3
      refine ⟨p2, p3, _, _, rfl, rfl, SqL.of (s3 _ _ upd_same), SqL.of upd_same, (by rw [List.length_append, List.length_map]; show 1 + _ + 1 ≤ 2 ^ 24; omega), fun p4 hp4 => ?_⟩
      have s4 := (s2.trans s3).trans (Same.upd (o := .lst ([V.int 0] ++ (TY.entF b).1.map V.int ++ [V.int ((TY.entF b).2.length : Int)])) hp4)
      refine ⟨_, rfl, e, C, dx, _, _, rfl, s4 _ _ he, TE'.cl, TE'.n_picture, fs_Entry_picture _ _, p4, q, _, _, rfl, rfl, SqL.of upd_same, SqL.of (s4 _ _ hq), (by rw [bv_length, List.length_append, List.length_append, List.length_map]; show 1 + _ + 1 + _ ≤ 2 ^ 24; omega), fun p5 hp5 => k p5 _ ?_⟩
      rw [upd_same, List.map_append, List.map_append, List.map_append]
      rfl
    refine ⟨_, pss_cons (ps_try (C := CW) (fun H' => isTx b = false) EX_WrongArgument FB.hasBase rfl rfl (fun _ => rfl) rfl rfl rfl
      (fun E pn xk hp => (pss_one (ps_set (i := 1) nd rfl (Or.inl rfl) (pe_own O_read_entry (hr.mono (by decide)) (passN (E := fun _ _ H' => isTx b = false) xk (fun _ z => z)) (pa_cons (pv 0) pa_nil)))))
      (fun e => (pss_one (ps_ret (pe_lst (pa_cons (pe_gi T.c_WRONG_ARGUMENT) pa_nil)))))) h1, ?_⟩
    refine ⟨⟨_, rfl, a, b, rfl, hS, fun H' sm hn => hn, fun hx e H' sm hE => q1 e H' hx hE⟩, fun σ' H' hE => ?_⟩
    have no : ¬ (b.length ≤ 4096 ∧ Wbk.utf8 b = true) := fun z => by
      rw [(isTx_iff b).mpr z] at hE
      cases hE
    unfold TY.tyF at k
    rw [if_neg no] at k
    exact ⟨by decide, fun p hp => k p _ upd_same⟩
end
end NP
end
def PySem.W.Fast.tw9744786378391567166 : Unit := ()
def PySem.W.Fast.tw14636315685095988959 : Unit := ()
def PySem.W.Fast.tw69342923393797105 : Unit := ()
def PySem.W.Fast.tw14273359858698726604 : Unit := ()
def PySem.W.Fast.tw14369175582880997554 : Unit := ()
def PySem.W.Fast.tw283856481959759189 : Unit := ()
def PySem.W.Fast.tw5017025402562255539 : Unit := ()
def PySem.W.Fast.tw6811789343988451170 : Unit := ()
def PySem.W.Fast.tw12873888687616983014 : Unit := ()
def PySem.W.Fast.tw2447706888951481992 : Unit := ()
def PySem.W.Fast.tw11696871762959974790 : Unit := ()
def PySem.W.Fast.tw4679652726452123904 : Unit := ()
def PySem.W.Fast.tw9722522068301514764 : Unit := ()
def PySem.W.Fast.tw2542194081293626097 : Unit := ()
def PySem.W.Fast.tw2235446792858017597 : Unit := ()
def PySem.W.Fast.tw11354225261185197043 : Unit := ()
def PySem.W.Fast.tw17147182990464619052 : Unit := ()
def PySem.W.Fast.tw2246228842247487899 : Unit := ()
def PySem.W.Fast.tw15184509651209700126 : Unit := ()
def PySem.W.Fast.tw11974123926859557098 : Unit := ()
def PySem.W.Fast.tw12258584618066527054 : Unit := ()
def PySem.W.Fast.tw11304329358103564761 : Unit := ()
def PySem.W.Fast.tw12592829613254838048 : Unit := ()
def PySem.W.Fast.tw124190250169240898 : Unit := ()
def PySem.W.Fast.tw13529225706637753141 : Unit := ()
def PySem.W.Fast.tw3290452722187911851 : Unit := ()
def PySem.W.Fast.tw3684132512167223878 : Unit := ()
def PySem.W.Fast.tw2218706032726290512 : Unit := ()
def PySem.W.Fast.tw3049820405870255554 : Unit := ()
def PySem.W.Fast.tw10844307036278395386 : Unit := ()
def PySem.W.Fast.tw11476417247899810720 : Unit := ()
def PySem.W.Fast.tw17021627872808540213 : Unit := ()
def PySem.W.Fast.tw9128012461900047880 : Unit := ()
def PySem.W.Fast.tw12889766793414680991 : Unit := ()
def PySem.W.Fast.tw18131250262780866888 : Unit := ()
def PySem.W.Fast.tw1644003791955851084 : Unit := ()
def PySem.W.Fast.tw13195421507978531888 : Unit := ()
def PySem.W.Fast.tw5247143353016137908 : Unit := ()
def PySem.W.Fast.tw16686377234754110519 : Unit := ()
def PySem.W.Fast.tw17916921758070189606 : Unit := ()
def PySem.W.Fast.tw8449829007521012771 : Unit := ()
def PySem.W.Fast.tw15548427386604358396 : Unit := ()
def PySem.W.Fast.tw18203570456979613140 : Unit := ()
def PySem.W.Fast.tw11099818592723240223 : Unit := ()
def PySem.W.Fast.tw13928176248817251670 : Unit := ()
def PySem.W.Fast.tw5384698056286558327 : Unit := ()
def PySem.W.Fast.tw8923205575630021621 : Unit := ()
def PySem.W.Fast.tw3538112658971313424 : Unit := ()
def PySem.W.Fast.tw17294073718950682178 : Unit := ()
def PySem.W.Fast.tw3115854948520072779 : Unit := ()
def PySem.W.Fast.tw6115467846283064072 : Unit := ()
def PySem.W.Fast.tw13260762772069602775 : Unit := ()
def PySem.W.Fast.tw5850813651077039759 : Unit := ()
def PySem.W.Fast.tw9104997118578978819 : Unit := ()
def PySem.W.Fast.tw4912269997266472519 : Unit := ()
def PySem.W.Fast.tw16528289401792443499 : Unit := ()
def PySem.W.Fast.tw7532689119726773186 : Unit := ()
def PySem.W.Fast.tw8093342200912036220 : Unit := ()
def PySem.W.Fast.tw17119809584810912362 : Unit := ()
def PySem.W.Fast.tw16120355920829595551 : Unit := ()
def PySem.W.Fast.tw16043725202763616757 : Unit := ()
def PySem.W.Fast.tw10029574683044292061 : Unit := ()
def PySem.W.Fast.tw14143505472892657760 : Unit := ()
def PySem.W.Fast.tw14418905935212046886 : Unit := ()
def PySem.W.Fast.tw1850305167126183632 : Unit := ()
def PySem.W.Fast.tw5832716569469389804 : Unit := ()
def PySem.W.Fast.tw14790414126150120598 : Unit := ()
def PySem.W.Fast.tw17267017704226484385 : Unit := ()
def PySem.W.Fast.tw17044216485570797761 : Unit := ()
def PySem.W.Fast.tw17082940622088461260 : Unit := ()
def PySem.W.Fast.tw3311887207158701993 : Unit := ()
def PySem.W.Fast.tw7387222071803378927 : Unit := ()
def PySem.W.Fast.tw8212405097412945372 : Unit := ()
def PySem.W.Fast.tw10432901327170412654 : Unit := ()
def PySem.W.Fast.tw5631930828393291888 : Unit := ()
def PySem.W.Fast.tw1114677095528834691 : Unit := ()
def PySem.W.Fast.tw15992604219498352202 : Unit := ()
def PySem.W.Fast.tw4410098686750826079 : Unit := ()
def PySem.W.Fast.tw11891053417045612007 : Unit := ()
def PySem.W.Fast.tw16836732647986741275 : Unit := ()
def PySem.W.Fast.tw7583491344453862172 : Unit := ()
def PySem.W.Fast.tw11045150044202830167 : Unit := ()
def PySem.W.Fast.tw3159675427402112257 : Unit := ()
def PySem.W.Fast.tw3255680258305632848 : Unit := ()
def PySem.W.Fast.tw14958963503913130583 : Unit := ()
def PySem.W.Fast.tw9580361301107905039 : Unit := ()
def PySem.W.Fast.tw13648086121058448466 : Unit := ()
def PySem.W.Fast.tw15596139480829533005 : Unit := ()
def PySem.W.Fast.tw5695174433622427911 : Unit := ()
def PySem.W.Fast.tw9985576149941143718 : Unit := ()
def PySem.W.Fast.tw9155212165708995480 : Unit := ()
def PySem.W.Fast.tw13618104901912488336 : Unit := ()
def PySem.W.Fast.tw8844843148706829215 : Unit := ()
def PySem.W.Fast.tw8242784873375089226 : Unit := ()
def PySem.W.Fast.tw4742896734773054761 : Unit := ()
def PySem.W.Fast.tw5701366270606607379 : Unit := ()
def PySem.W.Fast.tw3433731019731085121 : Unit := ()
def PySem.W.Fast.tw16179001595177950367 : Unit := ()
def PySem.W.Fast.tw4896512057015645918 : Unit := ()
def PySem.W.Fast.tw10963703572364663867 : Unit := ()
def PySem.W.Fast.tw16990029411384803715 : Unit := ()
def PySem.W.Fast.tw1400903441976857169 : Unit := ()
def PySem.W.Fast.tw12992987843269640952 : Unit := ()
def PySem.W.Fast.tw9557894663745977517 : Unit := ()
def PySem.W.Fast.tw11141126607087325351 : Unit := ()
def PySem.W.Fast.tw2735626078143825151 : Unit := ()
def PySem.W.Fast.tw16293095070142086378 : Unit := ()
def PySem.W.Fast.tw807196814366137801 : Unit := ()
def PySem.W.Fast.tw7551100073390397621 : Unit := ()
def PySem.W.Fast.tw12808690235383893154 : Unit := ()
def PySem.W.Fast.tw9408650228616046016 : Unit := ()
def PySem.W.Fast.tw14265135473795128026 : Unit := ()
def PySem.W.Fast.tw8729419410089075941 : Unit := ()
def PySem.W.Fast.tw5927563011582666742 : Unit := ()
def PySem.W.Fast.tw7472374734862983957 : Unit := ()
def PySem.W.Fast.tw17082198668734054077 : Unit := ()
def PySem.W.Fast.tw3553549529201270542 : Unit := ()
def PySem.W.Fast.tw12172886785319488723 : Unit := ()
def PySem.W.Fast.tw12094188047090972179 : Unit := ()
def PySem.W.Fast.tw6985298341887259094 : Unit := ()
def PySem.W.Fast.tw3118526012659397287 : Unit := ()
def PySem.W.Fast.tw17489554015710875232 : Unit := ()
def PySem.W.Fast.tw11196364744971711440 : Unit := ()
def PySem.W.Fast.tw16176996474772549918 : Unit := ()
def PySem.W.Fast.tw3094490446117640455 : Unit := ()
def PySem.W.Fast.tw13971241457160499352 : Unit := ()
def PySem.W.Fast.tw13901102809477385913 : Unit := ()
def PySem.W.Fast.tw7059146201159141753 : Unit := ()
def PySem.W.Fast.tw7575927893040136681 : Unit := ()
def PySem.W.Fast.tw15115902527225330359 : Unit := ()
def PySem.W.Fast.tw502662598090825647 : Unit := ()
def PySem.W.Fast.tw10974016342436803329 : Unit := ()
def PySem.W.Fast.tw8765091257401285984 : Unit := ()
def PySem.W.Fast.tw10084496200198473322 : Unit := ()
def PySem.W.Fast.tw6992556984046731027 : Unit := ()
def PySem.W.Fast.tw1012873059734237985 : Unit := ()
def PySem.W.Fast.tw3310604668218082258 : Unit := ()
def PySem.W.Fast.tw11464215742239876968 : Unit := ()
def PySem.W.Fast.tw15777013816217290494 : Unit := ()
def PySem.W.Fast.tw16225129581755906424 : Unit := ()
def PySem.W.Fast.tw12064268568647325520 : Unit := ()
def PySem.W.Fast.tw4246954558689725087 : Unit := ()
def PySem.W.Fast.tw10096089218301128685 : Unit := ()
def PySem.W.Fast.tw11691612744076664835 : Unit := ()
def PySem.W.Fast.tw6332352830538429052 : Unit := ()
def PySem.W.Fast.tw9802095692038483613 : Unit := ()
def PySem.W.Fast.tw4708814467903826177 : Unit := ()
def PySem.W.Fast.tw2342442765225036592 : Unit := ()
def PySem.W.Fast.tw6909491989698244766 : Unit := ()
def PySem.W.Fast.tw17214153822111328355 : Unit := ()
def PySem.W.Fast.tw17715592960500008414 : Unit := ()
def PySem.W.Fast.tw8834698494255370573 : Unit := ()
def PySem.W.Fast.tw17253531354533750791 : Unit := ()
def PySem.W.Fast.tw13740421249068881983 : Unit := ()
def PySem.W.Fast.tw5353283697498180584 : Unit := ()
def PySem.W.Fast.tw18059932684343372822 : Unit := ()
def PySem.W.Fast.tw10559137024842013415 : Unit := ()
def PySem.W.Fast.tw16702038926018669398 : Unit := ()
def PySem.W.Fast.tw1458403194493217374 : Unit := ()
def PySem.W.Fast.tw12956332850204733519 : Unit := ()
def PySem.W.Fast.tw3985036590852391538 : Unit := ()
def PySem.W.Fast.tw1614892812413341379 : Unit := ()
def PySem.W.Fast.tw14946946439243223419 : Unit := ()
def PySem.W.Fast.tw14956823581530210470 : Unit := ()
def PySem.W.Fast.tw3236306007631336912 : Unit := ()
def PySem.W.Fast.tw9742198120014808415 : Unit := ()
def PySem.W.Fast.tw13090287029685545535 : Unit := ()
def PySem.W.Fast.tw2978072128226663103 : Unit := ()
def PySem.W.Fast.tw2747122693184736415 : Unit := ()
def PySem.W.Fast.tw18257345621003610966 : Unit := ()
def PySem.W.Fast.tw15153043250226419027 : Unit := ()
def PySem.W.Fast.tw6307612659087151217 : Unit := ()
def PySem.W.Fast.tw7157093656515972349 : Unit := ()
def PySem.W.Fast.tw11005868148854283629 : Unit := ()
def PySem.W.Fast.tw4919073798173307027 : Unit := ()
def PySem.W.Fast.tw4083642384931826258 : Unit := ()
def PySem.W.Fast.tw13411287434327179431 : Unit := ()
def PySem.W.Fast.tw8250187285864577432 : Unit := ()
def PySem.W.Fast.tw5662179944985616302 : Unit := ()
def PySem.W.Fast.tw17554561297757551958 : Unit := ()
def PySem.W.Fast.tw814252240619289681 : Unit := ()
def PySem.W.Fast.tw11872898283029966892 : Unit := ()
def PySem.W.Fast.tw10778878278788777043 : Unit := ()
def PySem.W.Fast.tw4766804880033011606 : Unit := ()
def PySem.W.Fast.tw5579777387376147706 : Unit := ()
def PySem.W.Fast.tw17031220422833526796 : Unit := ()
def PySem.W.Fast.tw16399927921395726301 : Unit := ()
def PySem.W.Fast.tw9981281047700472906 : Unit := ()
def PySem.W.Fast.tw8526171041979461668 : Unit := ()
def PySem.W.Fast.tw7082935958647697022 : Unit := ()
def PySem.W.Fast.tw5737454469829250033 : Unit := ()
def PySem.W.Fast.tw13634766870817727494 : Unit := ()
def PySem.W.Fast.tw1070153720413733115 : Unit := ()
def PySem.W.Fast.tw10957866331360528789 : Unit := ()
def PySem.W.Fast.tw11419569191074616597 : Unit := ()
def PySem.W.Fast.tw11128168140532462970 : Unit := ()
def PySem.W.Fast.tw15697884741983434789 : Unit := ()
def PySem.W.Fast.tw2272615215020271992 : Unit := ()
def PySem.W.Fast.tw18374880981035088554 : Unit := ()
def PySem.W.Fast.tw17363441684050355631 : Unit := ()
def PySem.W.Fast.tw17000969830951284647 : Unit := ()
def PySem.W.Fast.tw16860604788927989574 : Unit := ()
def PySem.W.Fast.tw3623806336081012752 : Unit := ()
def PySem.W.Fast.tw10170164090194963212 : Unit := ()
def PySem.W.Fast.tw6559734318460707843 : Unit := ()
def PySem.W.Fast.tw1086011076146540260 : Unit := ()
def PySem.W.Fast.tw16737172948210794384 : Unit := ()
def PySem.W.Fast.tw1459560941092434907 : Unit := ()
def PySem.W.Fast.tw15373537687713833509 : Unit := ()
def PySem.W.Fast.tw15901692627754822853 : Unit := ()
def PySem.W.Fast.tw15249131119230269420 : Unit := ()
def PySem.W.Fast.tw16500174124328738333 : Unit := ()
def PySem.W.Fast.tw2248304081507208572 : Unit := ()
def PySem.W.Fast.tw11986464497417419960 : Unit := ()
def PySem.W.Fast.tw9894503726683405060 : Unit := ()
def PySem.W.Fast.tw14272576529276925498 : Unit := ()
def PySem.W.Fast.tw5018611160712149337 : Unit := ()
def PySem.W.Fast.tw13710482854780073055 : Unit := ()
def PySem.W.Fast.tw7395579637766849164 : Unit := ()
def PySem.W.Fast.tw13860977918918760357 : Unit := ()
def PySem.W.Fast.tw11275667245793807663 : Unit := ()
def PySem.W.Fast.tw12026645176777690666 : Unit := ()
def PySem.W.Fast.tw7044254745329259768 : Unit := ()
def PySem.W.Fast.tw7827503178767806845 : Unit := ()
def PySem.W.Fast.tw6798378738340881072 : Unit := ()
def PySem.W.Fast.tw15827304647084175587 : Unit := ()
def PySem.W.Fast.tw15467169004306458982 : Unit := ()
def PySem.W.Fast.tw9793334811658405873 : Unit := ()
def PySem.W.Fast.tw15052014867796752834 : Unit := ()
def PySem.W.Fast.tw10142850315147759683 : Unit := ()
def PySem.W.Fast.tw2114024912551795251 : Unit := ()
def PySem.W.Fast.tw12229499146788205133 : Unit := ()
def PySem.W.Fast.tw18332889896555626128 : Unit := ()
def PySem.W.Fast.tw10600212621387296284 : Unit := ()
def PySem.W.Fast.tw15986217146568670942 : Unit := ()
def PySem.W.Fast.tw14073186261602129784 : Unit := ()
def PySem.W.Fast.tw10811404884308778657 : Unit := ()
def PySem.W.Fast.tw4394982432215403192 : Unit := ()
def PySem.W.Fast.tw12578967186489081847 : Unit := ()
def PySem.W.Fast.tw8277667227946601186 : Unit := ()
def PySem.W.Fast.tw795852101509226738 : Unit := ()
def PySem.W.Fast.tw2035608215904197226 : Unit := ()
def PySem.W.Fast.tw5558633694222770524 : Unit := ()
def PySem.W.Fast.tw12752112424381675192 : Unit := ()
def PySem.W.Fast.tw5127601558015535794 : Unit := ()
def PySem.W.Fast.tw3810687983676328346 : Unit := ()
def PySem.W.Fast.tw4915225272397787682 : Unit := ()
def PySem.W.Fast.tw14451315809813745155 : Unit := ()
def PySem.W.Fast.tw17389619583083578964 : Unit := ()
def PySem.W.Fast.tw17683035393936457678 : Unit := ()
def PySem.W.Fast.tw14254596961479999063 : Unit := ()
def PySem.W.Fast.tw9641010250123204150 : Unit := ()
def PySem.W.Fast.tw9120669405524005131 : Unit := ()
def PySem.W.Fast.tw6466658747295690271 : Unit := ()
def PySem.W.Fast.tw12382855314115813433 : Unit := ()
def PySem.W.Fast.tw6156799515156510248 : Unit := ()
def PySem.W.Fast.tw11716988727228837857 : Unit := ()
def PySem.W.Fast.tw1695714170258746078 : Unit := ()
def PySem.W.Fast.tw16503145060143138834 : Unit := ()
def PySem.W.Fast.tw7595581020985964772 : Unit := ()
def PySem.W.Fast.tw11606228890241209881 : Unit := ()
def PySem.W.Fast.tw415933041575965783 : Unit := ()
def PySem.W.Fast.tw14559646740014996891 : Unit := ()
def PySem.W.Fast.tw5902138892874566790 : Unit := ()
def PySem.W.Fast.tw12604664748772553858 : Unit := ()
def PySem.W.Fast.tw17394206817062045428 : Unit := ()
def PySem.W.Fast.tw8841238253720269441 : Unit := ()
def PySem.W.Fast.tw9173801377233426944 : Unit := ()
def PySem.W.Fast.tw2221037227108578486 : Unit := ()
def PySem.W.Fast.tw11450327980982320673 : Unit := ()
def PySem.W.Fast.tw12013916212717319083 : Unit := ()
def PySem.W.Fast.tw5720308413053742946 : Unit := ()
def PySem.W.Fast.tw14998223604741532587 : Unit := ()
def PySem.W.Fast.tw12427479069676095920 : Unit := ()
def PySem.W.Fast.tw10293652642786499769 : Unit := ()
def PySem.W.Fast.tw17153301742192768836 : Unit := ()
def PySem.W.Fast.tw12489586987046411950 : Unit := ()
def PySem.W.Fast.tw11799468529364795398 : Unit := ()
def PySem.W.Fast.tw225864384163603531 : Unit := ()
def PySem.W.Fast.tw7799473650553820492 : Unit := ()
def PySem.W.Fast.tw13649865871624145642 : Unit := ()
def PySem.W.Fast.tw15744451594179932192 : Unit := ()
def PySem.W.Fast.tw4817363445319060096 : Unit := ()
def PySem.W.Fast.tw11255062899505069479 : Unit := ()
def PySem.W.Fast.tw2192655005929767061 : Unit := ()
def PySem.W.Fast.tw9873834326607219886 : Unit := ()
def PySem.W.Fast.tw10104999802346930629 : Unit := ()
def PySem.W.Fast.tw5938879608330813287 : Unit := ()
def PySem.W.Fast.tw5244050416769692176 : Unit := ()
def PySem.W.Fast.tw4449552625833795176 : Unit := ()
def PySem.W.Fast.tw12151247878075790439 : Unit := ()
def PySem.W.Fast.tw11332559868164929025 : Unit := ()
def PySem.W.Fast.tw17741950583530194395 : Unit := ()
def PySem.W.Fast.tw9374417970347712207 : Unit := ()
def PySem.W.Fast.tw7002078094701708539 : Unit := ()
def PySem.W.Fast.tw14835359734189503997 : Unit := ()
def PySem.W.Fast.tw5553861706294622675 : Unit := ()
def PySem.W.Fast.tw5814942149698666270 : Unit := ()
def PySem.W.Fast.tw18131411473037623934 : Unit := ()
def PySem.W.Fast.tw9130112390325717792 : Unit := ()
def PySem.W.Fast.tw5812378544270545654 : Unit := ()
def PySem.W.Fast.tw13966664661128223394 : Unit := ()
def PySem.W.Fast.tw5176922413377819479 : Unit := ()
def PySem.W.Fast.tw15931042110721985290 : Unit := ()
def PySem.W.Fast.tw3100694536184844045 : Unit := ()
def PySem.W.Fast.tw13891660269317100507 : Unit := ()
def PySem.W.Fast.tw9694241950848569898 : Unit := ()
def PySem.W.Fast.tw12758411574573078544 : Unit := ()
def PySem.W.Fast.tw11023073488828889598 : Unit := ()
def PySem.W.Fast.tw9306475001935737513 : Unit := ()
def PySem.W.Fast.tw14509020071754816644 : Unit := ()
def PySem.W.Fast.tw1244989902273204091 : Unit := ()
def PySem.W.Fast.tw6189758285218167927 : Unit := ()
def PySem.W.Fast.tw1985346471279169983 : Unit := ()
def PySem.W.Fast.tw16400268721647846435 : Unit := ()
def PySem.W.Fast.tw682130620526505642 : Unit := ()
def PySem.W.Fast.tw4798848446694567066 : Unit := ()
def PySem.W.Fast.tw4195648107080236569 : Unit := ()
def PySem.W.Fast.tw16275487792292335319 : Unit := ()
def PySem.W.Fast.tw14798663163177632957 : Unit := ()
def PySem.W.Fast.tw5530021821511670223 : Unit := ()
def PySem.W.Fast.tw14944395242752762757 : Unit := ()
def PySem.W.Fast.tw10909578912834047764 : Unit := ()
def PySem.W.Fast.tw6560764994750966321 : Unit := ()
def PySem.W.Fast.tw16692454742423241721 : Unit := ()
def PySem.W.Fast.tw10731237183141686156 : Unit := ()
def PySem.W.Fast.tw5018990888369975669 : Unit := ()
def PySem.W.Fast.tw5068027426674341008 : Unit := ()
def PySem.W.Fast.tw9434483495095300330 : Unit := ()
def PySem.W.Fast.tw13831743363256441869 : Unit := ()
def PySem.W.Fast.tw9701114348257596762 : Unit := ()
def PySem.W.Fast.tw16480675649273886319 : Unit := ()
def PySem.W.Fast.tw10664208911001737604 : Unit := ()
def PySem.W.Fast.tw1065228214090874127 : Unit := ()
def PySem.W.Fast.tw11350092087491198145 : Unit := ()
def PySem.W.Fast.tw9759854727303288914 : Unit := ()
def PySem.W.Fast.tw1342902457240818313 : Unit := ()
def PySem.W.Fast.tw16165917309297454519 : Unit := ()
def PySem.W.Fast.tw12767561265252114901 : Unit := ()
def PySem.W.Fast.tw9516432223769816867 : Unit := ()
def PySem.W.Fast.tw12388243087277144274 : Unit := ()
def PySem.W.Fast.tw330402458384985493 : Unit := ()
def PySem.W.Fast.tw2034526071169064116 : Unit := ()
def PySem.W.Fast.tw8247705141745688756 : Unit := ()
def PySem.W.Fast.tw4019907900230673452 : Unit := ()
def PySem.W.Fast.tw13326901902190218521 : Unit := ()
def PySem.W.Fast.tw2180261666107793244 : Unit := ()
def PySem.W.Fast.tw17940421018358885823 : Unit := ()
def PySem.W.Fast.tw14715342276122200490 : Unit := ()
def PySem.W.Fast.tw8932878166832532894 : Unit := ()
def PySem.W.Fast.tw15238130854866775302 : Unit := ()
def PySem.W.Fast.tw9472465443737942465 : Unit := ()
def PySem.W.Fast.tw5285960184182366416 : Unit := ()
def PySem.W.Fast.tw366922037294146542 : Unit := ()
def PySem.W.Fast.tw17941224341748855767 : Unit := ()
def PySem.W.Fast.tw15111173951932277441 : Unit := ()
def PySem.W.Fast.tw17954746565844056062 : Unit := ()
def PySem.W.Fast.tw11397341968965477333 : Unit := ()
def PySem.W.Fast.tw12060212960177100841 : Unit := ()
def PySem.W.Fast.tw16258609235035176451 : Unit := ()
set_option Elab.async false
set_option linter.all false
set_option maxRecDepth 100000
open PySem PySem.W PyProof.Rows
set_option maxRecDepth 100000 in
set_option maxHeartbeats 0 in
theorem PySem.Challenge.cw_numberpictures_s03_typed_holds : PySem.Challenge.rw_numberpictures_s03_typed.Holds := by
  w_on; k_headS; (case hw => exact ⟨[.list []], by decide +kernel, by decide +kernel⟩)
  k_fillS
  refine L2.walk_specK (r := PySem.Challenge.rw_numberpictures_s03_typed) (k := 8) (CX := L2.CX0) (ps := ["text"]) (sp := NP.spTyp) (by decide +kernel) rfl rfl ⟨rfl, by decide, by decide⟩ (fun w h Y => PySem.W.kIn_of Y) ?F ?S (fun _ _ _ _ z => z)
  case F =>
    intro w mg fa h Y KX G hmg
    have n_len : mg "len" = none := by refine' L2.nm_mk KX G ?a; (case a => k_is)
    have n_ord : mg "ord" = none := by refine' L2.nm_mk KX G ?a; (case a => k_is)
    have n_range : mg "range" = none := by refine' L2.nm_mk KX G ?a; (case a => k_is)
    have n_enumerate : mg "enumerate" = none := by refine' L2.nm_mk KX G ?a; (case a => k_is)
    have n_all : mg "all" = none := by refine' L2.nm_mk KX G ?a; (case a => k_is)
    have c_FIRST_YEAR : L2.GI mg "FIRST_YEAR" 1900 := by refine' L2.gi_mk KX G ?a; (case a => k_is)
    have c_LAST_YEAR : L2.GI mg "LAST_YEAR" 9999 := by refine' L2.gi_mk KX G ?a; (case a => k_is)
    have c_MONTH_LENGTHS : L2.TupX KX mg "MONTH_LENGTHS" [.int 31, .int 28, .int 31, .int 30, .int 31, .int 30, .int 31, .int 31, .int 30, .int 31, .int 30, .int 31] := by
      refine' L2.tup_mk KX G ?a ?l ?z ?v
      (case a => k_is); (case l => k_is)
      case z => decide
      case v => exact (.cons ⟨_, rfl⟩ (.cons ⟨_, rfl⟩ (.cons ⟨_, rfl⟩ (.cons ⟨_, rfl⟩ (.cons ⟨_, rfl⟩ (.cons ⟨_, rfl⟩ (.cons ⟨_, rfl⟩ (.cons ⟨_, rfl⟩ (.cons ⟨_, rfl⟩ (.cons ⟨_, rfl⟩ (.cons ⟨_, rfl⟩ (.cons ⟨_, rfl⟩ .nil))))))))))))
    have c_FEBRUARY : L2.GI mg "FEBRUARY" 2 := by refine' L2.gi_mk KX G ?a; (case a => k_is)
    have c_BLANK : L2.GI mg "BLANK" 32 := by refine' L2.gi_mk KX G ?a; (case a => k_is)
    have c_PERCENT : L2.GI mg "PERCENT" 37 := by refine' L2.gi_mk KX G ?a; (case a => k_is)
    have c_APOSTROPHE : L2.GI mg "APOSTROPHE" 39 := by refine' L2.gi_mk KX G ?a; (case a => k_is)
    have c_OPENING : L2.GI mg "OPENING" 40 := by refine' L2.gi_mk KX G ?a; (case a => k_is)
    have c_CLOSING : L2.GI mg "CLOSING" 41 := by refine' L2.gi_mk KX G ?a; (case a => k_is)
    have c_PLUS : L2.GI mg "PLUS" 43 := by refine' L2.gi_mk KX G ?a; (case a => k_is)
    have c_COMMA : L2.GI mg "COMMA" 44 := by refine' L2.gi_mk KX G ?a; (case a => k_is)
    have c_MINUS : L2.GI mg "MINUS" 45 := by refine' L2.gi_mk KX G ?a; (case a => k_is)
    have c_POINT : L2.GI mg "POINT" 46 := by refine' L2.gi_mk KX G ?a; (case a => k_is)
    have c_SLASH : L2.GI mg "SLASH" 47 := by refine' L2.gi_mk KX G ?a; (case a => k_is)
    have c_ZERO : L2.GI mg "ZERO" 48 := by refine' L2.gi_mk KX G ?a; (case a => k_is)
    have c_NINE : L2.GI mg "NINE" 57 := by refine' L2.gi_mk KX G ?a; (case a => k_is)
    have c_COLON : L2.GI mg "COLON" 58 := by refine' L2.gi_mk KX G ?a; (case a => k_is)
    have c_LARGE_A : L2.GI mg "LARGE_A" 65 := by refine' L2.gi_mk KX G ?a; (case a => k_is)
    have c_LARGE_Z : L2.GI mg "LARGE_Z" 90 := by refine' L2.gi_mk KX G ?a; (case a => k_is)
    have c_SMALL_E : L2.GI mg "SMALL_E" 101 := by refine' L2.gi_mk KX G ?a; (case a => k_is)
    have c_LAST_CHARACTER : L2.GI mg "LAST_CHARACTER" 1114111 := by refine' L2.gi_mk KX G ?a; (case a => k_is)
    have c_FIRST_SURROGATE : L2.GI mg "FIRST_SURROGATE" 55296 := by refine' L2.gi_mk KX G ?a; (case a => k_is)
    have c_LAST_SURROGATE : L2.GI mg "LAST_SURROGATE" 57343 := by refine' L2.gi_mk KX G ?a; (case a => k_is)
    have c_LEAST_BY_SIZE : L2.TupX KX mg "LEAST_BY_SIZE" [.int 0, .int 0, .int 128, .int 2048, .int 65536] := by
      refine' L2.tup_mk KX G ?a ?l ?z ?v
      (case a => k_is); (case l => k_is)
      case z => decide
      case v => exact (.cons ⟨_, rfl⟩ (.cons ⟨_, rfl⟩ (.cons ⟨_, rfl⟩ (.cons ⟨_, rfl⟩ (.cons ⟨_, rfl⟩ .nil)))))
    have c_EMPTY : L2.GI mg "EMPTY" 0 := by refine' L2.gi_mk KX G ?a; (case a => k_is)
    have c_NUMBER : L2.GI mg "NUMBER" 1 := by refine' L2.gi_mk KX G ?a; (case a => k_is)
    have c_TEXT : L2.GI mg "TEXT" 2 := by refine' L2.gi_mk KX G ?a; (case a => k_is)
    have c_TRUTH : L2.GI mg "TRUTH" 3 := by refine' L2.gi_mk KX G ?a; (case a => k_is)
    have c_ERROR : L2.GI mg "ERROR" 4 := by refine' L2.gi_mk KX G ?a; (case a => k_is)
    have c_DECIMALS : L2.GI mg "DECIMALS" 12 := by refine' L2.gi_mk KX G ?a; (case a => k_is)
    have c_ONE : L2.GI mg "ONE" 1000000000000 := by refine' L2.gi_mk KX G ?a; (case a => k_is)
    have c_TOO_LARGE : L2.GI mg "TOO_LARGE" 1000000000000000000000000000000000000 := by refine' L2.gi_mk KX G ?a; (case a => k_is)
    have c_LONGEST_TEXT : L2.GI mg "LONGEST_TEXT" 4096 := by refine' L2.gi_mk KX G ?a; (case a => k_is)
    have c_ERROR_NAMES : L2.TupX KX mg "ERROR_NAMES" [.str "#DIV/0!", .str "#VALUE!", .str "#REF!", .str "#NAME?", .str "#NUM!", .str "#N/A", .str "#RING!", .str "#ROOM!"] := by
      refine' L2.tup_mk KX G ?a ?l ?z ?v
      (case a => k_is); (case l => k_is)
      case z => decide
      case v => exact (.cons ⟨_, rfl⟩ (.cons ⟨_, rfl⟩ (.cons ⟨_, rfl⟩ (.cons ⟨_, rfl⟩ (.cons ⟨_, rfl⟩ (.cons ⟨_, rfl⟩ (.cons ⟨_, rfl⟩ (.cons ⟨_, rfl⟩ .nil))))))))
    have c_MOST_DIGITS : L2.GI mg "MOST_DIGITS" 60 := by refine' L2.gi_mk KX G ?a; (case a => k_is)
    have c_OF_DAY : L2.GI mg "OF_DAY" 86400000 := by refine' L2.gi_mk KX G ?a; (case a => k_is)
    have c_DAY_PICTURE : L2.GS mg "DAY_PICTURE" "yyyy-mm-dd" := by refine' L2.gs_mk KX G ?a; (case a => k_is)
    have c_ORDERS : ∃ t0 t1 t2 : Addr, L2.DicX KX NP.PR w mg "ORDERS" [(.inl 45, .ref t0), (.inl 46, .ref t1), (.inl 47, .ref t2)] ∧ L2.SqTX KX t0 [.int 0, .int 1, .int 2] ∧ L2.SqTX KX t1 [.int 2, .int 1, .int 0] ∧ L2.SqTX KX t2 [.int 2, .int 0, .int 1] := by
      refine' ⟨_, _, _, L2.dic_mk KX G ?a ?l ?ns ?few ?nd ?en, L2.tupl_mk ?l0 ?z0 ?v0, L2.tupl_mk ?l1 ?z1 ?v1, L2.tupl_mk ?l2 ?z2 ?v2⟩
      (case a => k_is); (case l => k_is)
      case ns => rfl
      case en => exact (.cons rfl rfl rfl (.cons rfl rfl rfl (.cons rfl rfl rfl .nil)))
      case few => decide
      case nd => decide +kernel
      (case l0 => k_is)
      case z0 => decide
      case v0 => exact (.cons ⟨_, rfl⟩ (.cons ⟨_, rfl⟩ (.cons ⟨_, rfl⟩ .nil)))
      (case l1 => k_is)
      case z1 => decide
      case v1 => exact (.cons ⟨_, rfl⟩ (.cons ⟨_, rfl⟩ (.cons ⟨_, rfl⟩ .nil)))
      (case l2 => k_is)
      case z2 => decide
      case v2 => exact (.cons ⟨_, rfl⟩ (.cons ⟨_, rfl⟩ (.cons ⟨_, rfl⟩ .nil)))
    have c_WRONG_ARGUMENT : L2.GI mg "WRONG_ARGUMENT" (-1) := by refine' L2.gi_mk KX G ?a; (case a => k_is)
    have T : NP.TX NP.PR w _ mg := ⟨n_len, n_ord, n_range, n_enumerate, n_all, c_FIRST_YEAR, c_LAST_YEAR, c_MONTH_LENGTHS, c_FEBRUARY, c_BLANK, c_PERCENT, c_APOSTROPHE, c_OPENING, c_CLOSING, c_PLUS, c_COMMA, c_MINUS, c_POINT, c_SLASH, c_ZERO, c_NINE, c_COLON, c_LARGE_A, c_LARGE_Z, c_SMALL_E, c_LAST_CHARACTER, c_FIRST_SURROGATE, c_LAST_SURROGATE, c_LEAST_BY_SIZE, c_EMPTY, c_NUMBER, c_TEXT, c_TRUTH, c_ERROR, c_DECIMALS, c_ONE, c_TOO_LARGE, c_LONGEST_TEXT, c_ERROR_NAMES, c_MOST_DIGITS, c_OF_DAY, c_DAY_PICTURE, c_ORDERS, c_WRONG_ARGUMENT⟩
    have d_is_leap_year : L2.DefInX KX mg "is_leap_year" (NP.top 5) ["year"] := by
      refine' L2.defIn_mk KX G ?a ?l ?c ?k ?b
      (case a => k_is); (case l => k_is); (case c => k_is); (case k => k_is)
      case b => exact fun _ _ _ _ _ _ us hl => match us, hl with | [_], _ => rfl
    have d_month_length : L2.DefInX KX mg "month_length" (NP.top 6) ["year", "month"] := by
      refine' L2.defIn_mk KX G ?a ?l ?c ?k ?b
      (case a => k_is); (case l => k_is); (case c => k_is); (case k => k_is)
      case b => exact fun _ _ _ _ _ _ us hl => match us, hl with | [_, _], _ => rfl
    have d_leap_years_before : L2.DefInX KX mg "leap_years_before" (NP.top 7) ["year"] := by
      refine' L2.defIn_mk KX G ?a ?l ?c ?k ?b
      (case a => k_is); (case l => k_is); (case c => k_is); (case k => k_is)
      case b => exact fun _ _ _ _ _ _ us hl => match us, hl with | [_], _ => rfl
    have d_first_day : L2.DefInX KX mg "first_day" (NP.top 8) ["year"] := by
      refine' L2.defIn_mk KX G ?a ?l ?c ?k ?b
      (case a => k_is); (case l => k_is); (case c => k_is); (case k => k_is)
      case b => exact fun _ _ _ _ _ _ us hl => match us, hl with | [_], _ => rfl
    have d_is_date : L2.DefInX KX mg "is_date" (NP.top 9) ["year", "month", "day"] := by
      refine' L2.defIn_mk KX G ?a ?l ?c ?k ?b
      (case a => k_is); (case l => k_is); (case c => k_is); (case k => k_is)
      case b => exact fun _ _ _ _ _ _ us hl => match us, hl with | [_, _, _], _ => rfl
    have d_number_of_date : L2.DefInX KX mg "number_of_date" (NP.top 10) ["year", "month", "day"] := by
      refine' L2.defIn_mk KX G ?a ?l ?c ?k ?b
      (case a => k_is); (case l => k_is); (case c => k_is); (case k => k_is)
      case b => exact fun _ _ _ _ _ _ us hl => match us, hl with | [_, _, _], _ => rfl
    have d_small : L2.DefInX KX mg "small" (NP.top 28) ["code"] := by
      refine' L2.defIn_mk KX G ?a ?l ?c ?k ?b
      (case a => k_is); (case l => k_is); (case c => k_is); (case k => k_is)
      case b => exact fun _ _ _ _ _ _ us hl => match us, hl with | [_], _ => rfl
    have d_codes_of : L2.DefInX KX mg "codes_of" (NP.top 29) ["word"] := by
      refine' L2.defIn_mk KX G ?a ?l ?c ?k ?b
      (case a => k_is); (case l => k_is); (case c => k_is); (case k => k_is)
      case b => exact fun _ _ _ _ _ _ us hl => match us, hl with | [_], _ => rfl
    have d_end_of_digits : L2.DefInX KX mg "end_of_digits" (NP.top 30) ["codes", "begin"] := by
      refine' L2.defIn_mk KX G ?a ?l ?c ?k ?b
      (case a => k_is); (case l => k_is); (case c => k_is); (case k => k_is)
      case b => exact fun _ _ _ _ _ _ us hl => match us, hl with | [_, _], _ => rfl
    have d_are_digits : L2.DefInX KX mg "are_digits" (NP.top 31) ["codes", "least", "most"] := by
      refine' L2.defIn_mk KX G ?a ?l ?c ?k ?b
      (case a => k_is); (case l => k_is); (case c => k_is); (case k => k_is)
      case b => exact fun _ _ _ _ _ _ us hl => match us, hl with | [_, _, _], _ => rfl
    have d_parted : L2.DefInX KX mg "parted" (NP.top 32) ["codes", "sign"] := by
      refine' L2.defIn_mk KX G ?a ?l ?c ?k ?b
      (case a => k_is); (case l => k_is); (case c => k_is); (case k => k_is)
      case b => exact fun _ _ _ _ _ _ us hl => match us, hl with | [_, _], _ => rfl
    have d_number_of : L2.DefInX KX mg "number_of" (NP.top 33) ["digits"] := by
      refine' L2.defIn_mk KX G ?a ?l ?c ?k ?b
      (case a => k_is); (case l => k_is); (case c => k_is); (case k => k_is)
      case b => exact fun _ _ _ _ _ _ us hl => match us, hl with | [_], _ => rfl
    have d_character_size : L2.DefInX KX mg "character_size" (NP.top 39) ["first"] := by
      refine' L2.defIn_mk KX G ?a ?l ?c ?k ?b
      (case a => k_is); (case l => k_is); (case c => k_is); (case k => k_is)
      case b => exact fun _ _ _ _ _ _ us hl => match us, hl with | [_], _ => rfl
    have d_is_character : L2.DefInX KX mg "is_character" (NP.top 40) ["codes"] := by
      refine' L2.defIn_mk KX G ?a ?l ?c ?k ?b
      (case a => k_is); (case l => k_is); (case c => k_is); (case k => k_is)
      case b => exact fun _ _ _ _ _ _ us hl => match us, hl with | [_], _ => rfl
    have d_is_well_made : L2.DefInX KX mg "is_well_made" (NP.top 41) ["codes"] := by
      refine' L2.defIn_mk KX G ?a ?l ?c ?k ?b
      (case a => k_is); (case l => k_is); (case c => k_is); (case k => k_is)
      case b => exact fun _ _ _ _ _ _ us hl => match us, hl with | [_], _ => rfl
    obtain ⟨C_WrongArgument, e_WrongArgument, q_WrongArgument⟩ : ∃ C, L2.OwnExX KX "WrongArgument" C := by
      refine' L2.ownEx_mk KX ?exa ?exq
      (case exa => k_is)
      case exq => k_exc
    have d_is_number : L2.DefInX KX mg "is_number" (NP.top 54) ["number"] := by
      refine' L2.defIn_mk KX G ?a ?l ?c ?k ?b
      (case a => k_is); (case l => k_is); (case c => k_is); (case k => k_is)
      case b => exact fun _ _ _ _ _ _ us hl => match us, hl with | [_], _ => rfl
    have d_is_text : L2.DefInX KX mg "is_text" (NP.top 55) ["codes"] := by
      refine' L2.defIn_mk KX G ?a ?l ?c ?k ?b
      (case a => k_is); (case l => k_is); (case c => k_is); (case k => k_is)
      case b => exact fun _ _ _ _ _ _ us hl => match us, hl with | [_], _ => rfl
    obtain ⟨C_Entry, dc_Entry, na_Entry_value, na_Entry_picture⟩ : ∃ C, L2.ClsInX KX mg "Entry" "Entry.__init__" (L2.inClass (NP.top 57) 0) ["self", "value", "picture"] C ∧ L2.NoAttrX KX C "value" ∧ L2.NoAttrX KX C "picture" := by
      refine' ⟨_, L2.clsIn_mk KX G ?a ?a1 ?i1 ?l ?c ?k ?pg ?hd ?po ?sa ?mk ?kc ?b, ?n_value, ?n_picture⟩
      (case a => k_is); (case a1 => k_is); (case i1 => k_is); (case l => k_is); (case c => k_is); (case k => k_is); (case pg => k_is); (case hd => k_is); (case po => k_is); (case sa => k_is); (case mk => k_is); (case kc => k_is)
      case b => exact fun _ _ _ _ _ _ us hl => match us, hl with | [_, _, _], _ => rfl
      (case n_value => show PySem.W.findIn _ _ _ = some none; k_is)
      (case n_picture => show PySem.W.findIn _ _ _ = some none; k_is)
    have tx_Entry : NP.Tx_Entry _ C_Entry := ⟨dc_Entry.cl, na_Entry_value, na_Entry_picture⟩
    have d_number_entry : L2.DefInX KX mg "number_entry" (NP.top 58) ["number", "picture"] := by
      refine' L2.defIn_mk KX G ?a ?l ?c ?k ?b
      (case a => k_is); (case l => k_is); (case c => k_is); (case k => k_is)
      case b => exact fun _ _ _ _ _ _ us hl => match us, hl with | [_, _], _ => rfl
    have d_text_entry : L2.DefInX KX mg "text_entry" (NP.top 59) ["codes"] := by
      refine' L2.defIn_mk KX G ?a ?l ?c ?k ?b
      (case a => k_is); (case l => k_is); (case c => k_is); (case k => k_is)
      case b => exact fun _ _ _ _ _ _ us hl => match us, hl with | [_], _ => rfl
    have d_power : L2.DefInX KX mg "power" (NP.top 61) ["base", "exponent"] := by
      refine' L2.defIn_mk KX G ?a ?l ?c ?k ?b
      (case a => k_is); (case l => k_is); (case c => k_is); (case k => k_is)
      case b => exact fun _ _ _ _ _ _ us hl => match us, hl with | [_, _], _ => rfl
    have d_round_halves_even : L2.DefInX KX mg "round_halves_even" (NP.top 62) ["number", "divisor"] := by
      refine' L2.defIn_mk KX G ?a ?l ?c ?k ?b
      (case a => k_is); (case l => k_is); (case c => k_is); (case k => k_is)
      case b => exact fun _ _ _ _ _ _ us hl => match us, hl with | [_, _], _ => rfl
    obtain ⟨C_Figure, dc_Figure, na_Figure_digits, na_Figure_decimals, na_Figure_scale, na_Figure_has_commas⟩ : ∃ C, L2.ClsInX KX mg "Figure" "Figure.__init__" (L2.inClass (NP.top 65) 0) ["self", "digits", "decimals", "scale", "has_commas"] C ∧ L2.NoAttrX KX C "digits" ∧ L2.NoAttrX KX C "decimals" ∧ L2.NoAttrX KX C "scale" ∧ L2.NoAttrX KX C "has_commas" := by
      refine' ⟨_, L2.clsIn_mk KX G ?a ?a1 ?i1 ?l ?c ?k ?pg ?hd ?po ?sa ?mk ?kc ?b, ?n_digits, ?n_decimals, ?n_scale, ?n_has_commas⟩
      (case a => k_is); (case a1 => k_is); (case i1 => k_is); (case l => k_is); (case c => k_is); (case k => k_is); (case pg => k_is); (case hd => k_is); (case po => k_is); (case sa => k_is); (case mk => k_is); (case kc => k_is)
      case b => exact fun _ _ _ _ _ _ us hl => match us, hl with | [_, _, _, _, _], _ => rfl
      (case n_digits => show PySem.W.findIn _ _ _ = some none; k_is)
      (case n_decimals => show PySem.W.findIn _ _ _ = some none; k_is)
      (case n_scale => show PySem.W.findIn _ _ _ = some none; k_is)
      (case n_has_commas => show PySem.W.findIn _ _ _ = some none; k_is)
    have tx_Figure : NP.Tx_Figure _ C_Figure := ⟨dc_Figure.cl, na_Figure_digits, na_Figure_decimals, na_Figure_scale, na_Figure_has_commas⟩
    have d_read_number : L2.DefInX KX mg "read_number" (NP.top 66) ["codes"] := by
      refine' L2.defIn_mk KX G ?a ?l ?c ?k ?b
      (case a => k_is); (case l => k_is); (case c => k_is); (case k => k_is)
      case b => exact fun _ _ _ _ _ _ us hl => match us, hl with | [_], _ => rfl
    have d_is_bracketed : L2.DefInX KX mg "is_bracketed" (NP.top 67) ["codes"] := by
      refine' L2.defIn_mk KX G ?a ?l ?c ?k ?b
      (case a => k_is); (case l => k_is); (case c => k_is); (case k => k_is)
      case b => exact fun _ _ _ _ _ _ us hl => match us, hl with | [_], _ => rfl
    have d_is_below_0 : L2.DefInX KX mg "is_below_0" (NP.top 68) ["codes"] := by
      refine' L2.defIn_mk KX G ?a ?l ?c ?k ?b
      (case a => k_is); (case l => k_is); (case c => k_is); (case k => k_is)
      case b => exact fun _ _ _ _ _ _ us hl => match us, hl with | [_], _ => rfl
    have d_without_sign : L2.DefInX KX mg "without_sign" (NP.top 69) ["codes"] := by
      refine' L2.defIn_mk KX G ?a ?l ?c ?k ?b
      (case a => k_is); (case l => k_is); (case c => k_is); (case k => k_is)
      case b => exact fun _ _ _ _ _ _ us hl => match us, hl with | [_], _ => rfl
    have d_read_figure : L2.DefInX KX mg "read_figure" (NP.top 70) ["codes"] := by
      refine' L2.defIn_mk KX G ?a ?l ?c ?k ?b
      (case a => k_is); (case l => k_is); (case c => k_is); (case k => k_is)
      case b => exact fun _ _ _ _ _ _ us hl => match us, hl with | [_], _ => rfl
    have d_is_exponent : L2.DefInX KX mg "is_exponent" (NP.top 71) ["codes"] := by
      refine' L2.defIn_mk KX G ?a ?l ?c ?k ?b
      (case a => k_is); (case l => k_is); (case c => k_is); (case k => k_is)
      case b => exact fun _ _ _ _ _ _ us hl => match us, hl with | [_], _ => rfl
    have d_without_exponent_sign : L2.DefInX KX mg "without_exponent_sign" (NP.top 72) ["codes"] := by
      refine' L2.defIn_mk KX G ?a ?l ?c ?k ?b
      (case a => k_is); (case l => k_is); (case c => k_is); (case k => k_is)
      case b => exact fun _ _ _ _ _ _ us hl => match us, hl with | [_], _ => rfl
    have d_exponent_of : L2.DefInX KX mg "exponent_of" (NP.top 73) ["codes"] := by
      refine' L2.defIn_mk KX G ?a ?l ?c ?k ?b
      (case a => k_is); (case l => k_is); (case c => k_is); (case k => k_is)
      case b => exact fun _ _ _ _ _ _ us hl => match us, hl with | [_], _ => rfl
    have d_are_groups : L2.DefInX KX mg "are_groups" (NP.top 74) ["groups"] := by
      refine' L2.defIn_mk KX G ?a ?l ?c ?k ?b
      (case a => k_is); (case l => k_is); (case c => k_is); (case k => k_is)
      case b => exact fun _ _ _ _ _ _ us hl => match us, hl with | [_], _ => rfl
    have d_round_figure : L2.DefInX KX mg "round_figure" (NP.top 75) ["figure"] := by
      refine' L2.defIn_mk KX G ?a ?l ?c ?k ?b
      (case a => k_is); (case l => k_is); (case c => k_is); (case k => k_is)
      case b => exact fun _ _ _ _ _ _ us hl => match us, hl with | [_], _ => rfl
    have d_find_picture : L2.DefInX KX mg "find_picture" (NP.top 76) ["figure", "is_percent"] := by
      refine' L2.defIn_mk KX G ?a ?l ?c ?k ?b
      (case a => k_is); (case l => k_is); (case c => k_is); (case k => k_is)
      case b => exact fun _ _ _ _ _ _ us hl => match us, hl with | [_, _], _ => rfl
    obtain ⟨C_Time, dc_Time, na_Time_thousandths, na_Time_has_seconds⟩ : ∃ C, L2.ClsInX KX mg "Time" "Time.__init__" (L2.inClass (NP.top 81) 0) ["self", "thousandths", "has_seconds"] C ∧ L2.NoAttrX KX C "thousandths" ∧ L2.NoAttrX KX C "has_seconds" := by
      refine' ⟨_, L2.clsIn_mk KX G ?a ?a1 ?i1 ?l ?c ?k ?pg ?hd ?po ?sa ?mk ?kc ?b, ?n_thousandths, ?n_has_seconds⟩
      (case a => k_is); (case a1 => k_is); (case i1 => k_is); (case l => k_is); (case c => k_is); (case k => k_is); (case pg => k_is); (case hd => k_is); (case po => k_is); (case sa => k_is); (case mk => k_is); (case kc => k_is)
      case b => exact fun _ _ _ _ _ _ us hl => match us, hl with | [_, _, _], _ => rfl
      (case n_thousandths => show PySem.W.findIn _ _ _ = some none; k_is)
      (case n_has_seconds => show PySem.W.findIn _ _ _ = some none; k_is)
    have tx_Time : NP.Tx_Time _ C_Time := ⟨dc_Time.cl, na_Time_thousandths, na_Time_has_seconds⟩
    have d_read_moment : L2.DefInX KX mg "read_moment" (NP.top 82) ["codes"] := by
      refine' L2.defIn_mk KX G ?a ?l ?c ?k ?b
      (case a => k_is); (case l => k_is); (case c => k_is); (case k => k_is)
      case b => exact fun _ _ _ _ _ _ us hl => match us, hl with | [_], _ => rfl
    have d_make_entry : L2.DefInX KX mg "make_entry" (NP.top 83) ["day", "time", "front"] := by
      refine' L2.defIn_mk KX G ?a ?l ?c ?k ?b
      (case a => k_is); (case l => k_is); (case c => k_is); (case k => k_is)
      case b => exact fun _ _ _ _ _ _ us hl => match us, hl with | [_, _, _], _ => rfl
    have d_read_day : L2.DefInX KX mg "read_day" (NP.top 84) ["codes"] := by
      refine' L2.defIn_mk KX G ?a ?l ?c ?k ?b
      (case a => k_is); (case l => k_is); (case c => k_is); (case k => k_is)
      case b => exact fun _ _ _ _ _ _ us hl => match us, hl with | [_], _ => rfl
    have d_find_day : L2.DefInX KX mg "find_day" (NP.top 85) ["year", "month", "day"] := by
      refine' L2.defIn_mk KX G ?a ?l ?c ?k ?b
      (case a => k_is); (case l => k_is); (case c => k_is); (case k => k_is)
      case b => exact fun _ _ _ _ _ _ us hl => match us, hl with | [_, _, _], _ => rfl
    have d_read_time : L2.DefInX KX mg "read_time" (NP.top 86) ["codes"] := by
      refine' L2.defIn_mk KX G ?a ?l ?c ?k ?b
      (case a => k_is); (case l => k_is); (case c => k_is); (case k => k_is)
      case b => exact fun _ _ _ _ _ _ us hl => match us, hl with | [_], _ => rfl
    have d_find_hour : L2.DefInX KX mg "find_hour" (NP.top 87) ["hour", "words"] := by
      refine' L2.defIn_mk KX G ?a ?l ?c ?k ?b
      (case a => k_is); (case l => k_is); (case c => k_is); (case k => k_is)
      case b => exact fun _ _ _ _ _ _ us hl => match us, hl with | [_, _], _ => rfl
    have d_read_seconds : L2.DefInX KX mg "read_seconds" (NP.top 88) ["codes"] := by
      refine' L2.defIn_mk KX G ?a ?l ?c ?k ?b
      (case a => k_is); (case l => k_is); (case c => k_is); (case k => k_is)
      case b => exact fun _ _ _ _ _ _ us hl => match us, hl with | [_], _ => rfl
    have d_read_entry : L2.DefInX KX mg "read_entry" (NP.top 90) ["codes"] := by
      refine' L2.defIn_mk KX G ?a ?l ?c ?k ?b
      (case a => k_is); (case l => k_is); (case c => k_is); (case k => k_is)
      case b => exact fun _ _ _ _ _ _ us hl => match us, hl with | [_], _ => rfl
    have d_without_blanks : L2.DefInX KX mg "without_blanks" (NP.top 91) ["codes"] := by
      refine' L2.defIn_mk KX G ?a ?l ?c ?k ?b
      (case a => k_is); (case l => k_is); (case c => k_is); (case k => k_is)
      case b => exact fun _ _ _ _ _ _ us hl => match us, hl with | [_], _ => rfl
    have d_read_word : L2.DefInX KX mg "read_word" (NP.top 92) ["codes"] := by
      refine' L2.defIn_mk KX G ?a ?l ?c ?k ?b
      (case a => k_is); (case l => k_is); (case c => k_is); (case k => k_is)
      case b => exact fun _ _ _ _ _ _ us hl => match us, hl with | [_], _ => rfl
    have d_typed : L2.DefInX KX mg "typed" (NP.top 95) ["text"] := by
      refine' L2.defIn_mk KX G ?a ?l ?c ?k ?b
      (case a => k_is); (case l => k_is); (case c => k_is); (case k => k_is)
      case b => exact fun _ _ _ _ _ _ us hl => match us, hl with | [_], _ => rfl
    obtain ⟨f, fd, h1, h2, h3, h4⟩ := d_typed.ex
    have e := hmg.symm.trans h1
    cases e
    refine ⟨fd, h4, fun base KB GB => ?_⟩
    have EX := L2.exc_mk KB GB e_WrongArgument q_WrongArgument
    have FB := PySem.F.excBase_ValueError
    have o_is_leap_year := d_is_leap_year.own (P := NP.PR) (w := w) (base := base) fun _ _ F => NP.ok_leap F
    have o_month_length := d_month_length.own (P := NP.PR) (w := w) (base := base) fun _ _ F => NP.ok_mlen T o_is_leap_year F
    have o_leap_years_before := d_leap_years_before.own (P := NP.PR) (w := w) (base := base) fun _ _ F => NP.ok_lyb F
    have o_first_day := d_first_day.own (P := NP.PR) (w := w) (base := base) fun _ _ F => NP.ok_first T o_leap_years_before F
    have o_is_date := d_is_date.own (P := NP.PR) (w := w) (base := base) fun _ _ F => NP.ok_isDate T o_month_length F
    have o_number_of_date := d_number_of_date.own (P := NP.PR) (w := w) (base := base) fun _ _ F => NP.ok_nod T o_first_day o_month_length F
    have o_small := d_small.own (P := NP.PR) (w := w) (base := base) fun _ _ F => NP.ok_small T F
    have o_codes_of := d_codes_of.own (P := NP.PR) (w := w) (base := base) fun _ _ F => NP.ok_codes T F
    have o_end_of_digits := d_end_of_digits.own (P := NP.PR) (w := w) (base := base) fun _ _ F => NP.ok_eod T F
    have o_are_digits := d_are_digits.own (P := NP.PR) (w := w) (base := base) fun _ _ F => NP.ok_ared T o_end_of_digits F
    have o_parted := d_parted.own (P := NP.PR) (w := w) (base := base) fun _ _ F => NP.ok_parted T F
    have o_number_of := d_number_of.own (P := NP.PR) (w := w) (base := base) fun _ _ F => NP.ok_numof T F
    have o_character_size := d_character_size.own (P := NP.PR) (w := w) (base := base) fun _ _ F => NP.ok_csize F
    have o_is_character := d_is_character.own (P := NP.PR) (w := w) (base := base) fun _ _ F => NP.ok_isChar T F
    have o_is_well_made := d_is_well_made.own (P := NP.PR) (w := w) (base := base) fun _ _ F => NP.ok_well T o_character_size o_is_character F
    have o_power := d_power.own (P := NP.PR) (w := w) (base := base) fun _ _ F => NP.ok_power T F
    have o_round_halves_even := d_round_halves_even.own (P := NP.PR) (w := w) (base := base) fun _ _ F => NP.ok_rhe F
    have o_is_number := d_is_number.own (P := NP.PR) (w := w) (base := base) fun _ _ F => NP.ok_isnm T F
    have o_is_text := d_is_text.own (P := NP.PR) (w := w) (base := base) fun _ _ F => NP.ok_istx T o_is_well_made F
    have o_without_blanks := d_without_blanks.own (P := NP.PR) (w := w) (base := base) fun _ _ F => NP.ok_wob T F
    have o_Entry := dc_Entry.own (P := NP.PR) (w := w) (base := base) fun _ _ F => NP.ok_Entry tx_Entry F
    have o_Figure := dc_Figure.own (P := NP.PR) (w := w) (base := base) fun _ _ F => NP.ok_Figure tx_Figure F
    have o_Time := dc_Time.own (P := NP.PR) (w := w) (base := base) fun _ _ F => NP.ok_Time tx_Time F
    have o_number_entry := d_number_entry.own (P := NP.PR) (w := w) (base := base) fun _ _ F => NP.ok_nent T o_Entry F
    have o_text_entry := d_text_entry.own (P := NP.PR) (w := w) (base := base) fun _ _ F => NP.ok_tent T o_Entry F
    have o_read_word := d_read_word.own (P := NP.PR) (w := w) (base := base) fun _ _ F => NP.ok_rw T o_small o_codes_of o_Entry F
    have o_is_bracketed := d_is_bracketed.own (P := NP.PR) (w := w) (base := base) fun _ _ F => NP.ok_ibr T F
    have o_is_below_0 := d_is_below_0.own (P := NP.PR) (w := w) (base := base) fun _ _ F => NP.ok_ib0 T o_is_bracketed F
    have o_without_sign := d_without_sign.own (P := NP.PR) (w := w) (base := base) fun _ _ F => NP.ok_wsg T o_is_bracketed F
    have o_without_exponent_sign := d_without_exponent_sign.own (P := NP.PR) (w := w) (base := base) fun _ _ F => NP.ok_wes T F
    have o_is_exponent := d_is_exponent.own (P := NP.PR) (w := w) (base := base) fun _ _ F => NP.ok_iex T o_without_exponent_sign o_are_digits F
    have o_exponent_of := d_exponent_of.own (P := NP.PR) (w := w) (base := base) fun _ _ F => NP.ok_eof T o_without_exponent_sign o_number_of F
    have o_are_groups := d_are_groups.own (P := NP.PR) (w := w) (base := base) fun _ _ F => NP.ok_agr T F
    have o_read_figure := d_read_figure.own (P := NP.PR) (w := w) (base := base) fun _ _ F => NP.ok_rfig T o_small o_parted o_is_exponent o_exponent_of o_are_groups o_are_digits o_Figure F
    have o_round_figure := d_round_figure.own (P := NP.PR) (w := w) (base := base) fun _ _ F => NP.ok_rofg T tx_Figure o_number_of o_power o_round_halves_even F
    have o_find_picture := d_find_picture.own (P := NP.PR) (w := w) (base := base) fun _ _ F => NP.ok_fpic T tx_Figure o_codes_of F
    have o_read_number := d_read_number.own (P := NP.PR) (w := w) (base := base) fun _ _ F => NP.ok_rnum T o_without_sign o_read_figure o_round_figure o_round_halves_even o_is_number o_number_entry o_is_below_0 o_find_picture F
    have o_find_day := d_find_day.own (P := NP.PR) (w := w) (base := base) fun _ _ F => NP.ok_fday T o_are_digits o_number_of o_is_date o_number_of_date F
    have o_read_day := d_read_day.own (P := NP.PR) (w := w) (base := base) fun _ _ F => NP.ok_rday T o_parted o_find_day F
    have o_find_hour := d_find_hour.own (P := NP.PR) (w := w) (base := base) fun _ _ F => NP.ok_fhr T o_small o_codes_of F
    have o_read_seconds := d_read_seconds.own (P := NP.PR) (w := w) (base := base) fun _ _ F => NP.ok_rsec T o_parted o_are_digits o_number_of o_codes_of F
    have o_read_time := d_read_time.own (P := NP.PR) (w := w) (base := base) fun _ _ F => NP.ok_rtm T o_parted o_are_digits o_number_of o_find_hour o_read_seconds o_Time F
    have o_make_entry := d_make_entry.own (P := NP.PR) (w := w) (base := base) fun _ _ F => NP.ok_ment T tx_Time o_round_halves_even o_number_entry o_codes_of F
    have o_read_moment := d_read_moment.own (P := NP.PR) (w := w) (base := base) fun _ _ F => NP.ok_rmom T o_read_day o_read_time o_number_entry o_make_entry o_codes_of F
    have o_read_entry := d_read_entry.own (P := NP.PR) (w := w) (base := base) fun _ _ F => NP.ok_rent T EX FB o_is_text o_without_blanks o_Entry o_text_entry o_read_word o_read_number o_read_moment F
    exact NP.ok_typ T tx_Entry EX FB o_read_entry h2
  case S =>
    intro K H xs a hO hwi hask hx
    cases hx with
    | cons h1 h2 =>
      cases h2
      cases h1 with
      | lst hs ha =>
        have e := L2.ints_dw a.1 _ ha
        subst e
        have q : ((Codec.inLen 0 65535 a.1 && a.1.all (Codec.inInt 0 255)) && true) = true := hwi
        rw [Bool.and_eq_true, Bool.and_eq_true] at q
        have hl := (Codec.inNat_iff.mp q.1.1).2
        have hb : NP.Byt a.1 := fun n hn => by
          have := List.all_eq_true.mp q.1.2 n hn
          simpa [Codec.inInt] using this
        have eb := NP.bi_oct hb
        refine ⟨_, NP.oct a.1, rfl, by unfold NP.bv; rw [eb]; exact hs, fun p H' hp => ?_⟩
        · rw [TY.ty_eq] at hp
          exact .lst (L2.SqL.of hp) (L2.dw_ints _)
