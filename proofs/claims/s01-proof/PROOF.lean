import PyProof.Rows.All
import Wide.All
import OpenK.AllK
import Wide.FinOn
import PyProof.EqAt
import PyProof.EqKinds
import PyProof.TupleCall
import KE.BitLaws
import KE.KSortTupG
import KE.KSortTupAny
import PyProof.Rows.SortShellAny
import Open.SpecLaws
import KE.OsHead
import KE.OsGo
import PySem.Challenge.RW_readtimes_s01_answers
set_option Elab.async false
set_option linter.all false
set_option maxRecDepth 100000
namespace L2
open PySem PySem.Spec PyProof.Rows
noncomputable abbrev Key := Sum Int Str
noncomputable def keyIs : Key → Value → Bool
  | .inl k, v => Value.isInt k v
  | .inr x, v => Value.isStrOf x v
noncomputable def keyH (w : World) : Key → Int
  | .inl k => hashInt k
  | .inr x => hashStr w x
theorem keyIs_shape : ∀ {k : Key} {v : Value}, keyIs k v = true → (∃ i t, k = Sum.inl i ∧ v = Value.int i t) ∨ (∃ x t, k = Sum.inr x ∧ v = Value.str x t)
  | .inl i, v, h => by
    obtain ⟨t, e⟩ := Value.isInt_shape (k := i) (v := v) h
    exact .inl ⟨i, t, rfl, e⟩
  | .inr x, v, h => by
    obtain ⟨t, e⟩ := Value.isStrOf_shape (x := x) (v := v) h
    exact .inr ⟨x, t, rfl, e⟩
theorem keyIs_int (i : Int) (t : Tok) : keyIs (.inl i) (.int i t) = true := by simp [keyIs, Value.isInt]
theorem keyIs_str (x : Str) (t : Tok) : keyIs (.inr x) (.str x t) = true := by simp [keyIs, Value.isStrOf]
theorem key_ll (a b : Int) : decide ((Sum.inl a : Key) = Sum.inl b) = (a == b) := by
  by_cases e : a = b
  · subst e; simp
  · have h : ¬ (Sum.inl a : Key) = Sum.inl b := fun q => e (Sum.inl.inj q)
    rw [decide_eq_false h]
    exact (beq_eq_false_iff_ne.mpr e).symm
theorem key_rr (a b : Str) : decide ((Sum.inr a : Key) = Sum.inr b) = decide (a = b) := by
  by_cases e : a = b
  · subst e; simp
  · have h : ¬ (Sum.inr a : Key) = Sum.inr b := fun q => e (Sum.inr.inj q)
    rw [decide_eq_false h, decide_eq_false e]
theorem key_lr (a : Int) (b : Str) : decide ((Sum.inl a : Key) = Sum.inr b) = false := decide_eq_false (fun q => nomatch q)
theorem key_rl (a : Str) (b : Int) : decide ((Sum.inr a : Key) = Sum.inl b) = false := decide_eq_false (fun q => nomatch q)
noncomputable def mixKind (prog : Program) (w : World) : PySem.KeyKind prog w Key where
  is := keyIs
  hash := keyH w
  inj := fun v a b ha hb => by
    rcases keyIs_shape ha with ⟨i, t, rfl, rfl⟩ | ⟨x, t, rfl, rfl⟩
    · rcases keyIs_shape hb with ⟨j, u, rfl, e⟩ | ⟨y, u, rfl, e⟩
      · injection e with e1 _; rw [e1]
      · exact nomatch e
    · rcases keyIs_shape hb with ⟨j, u, rfl, e⟩ | ⟨y, u, rfl, e⟩
      · exact nomatch e
      · injection e with e1 _; rw [e1]
  byValue := fun k v h => by
    rcases keyIs_shape h with ⟨i, t, rfl, rfl⟩ | ⟨x, t, rfl, rfl⟩ <;> rfl
  pyHash := fun hv h => by
    rcases keyIs_shape hv with ⟨i, t, rfl, rfl⟩ | ⟨x, t, rfl, rfl⟩
    · exact wpAny_pyHash_int h
    · exact wpAny_pyHash_str h
  eqBool := fun hu hv h => by
    rcases keyIs_shape hu with ⟨i, t, rfl, rfl⟩ | ⟨x, t, rfl, rfl⟩
    · rcases keyIs_shape hv with ⟨j, u, rfl, rfl⟩ | ⟨y, u, rfl, rfl⟩
      · rw [key_ll] at h; exact wpAny_eqBool_int h
      · rw [key_lr] at h; exact SeqAt.EqAt.int_str i t y u _ _ _ _ h
    · rcases keyIs_shape hv with ⟨j, u, rfl, rfl⟩ | ⟨y, u, rfl, rfl⟩
      · rw [key_rl] at h; exact SeqAt.EqAt.str_int x t j u _ _ _ _ h
      · rw [key_rr] at h; exact wpAny_eqBool_str h
  «strs» := fun k x t v h => by
    rcases keyIs_shape h with ⟨i, u, rfl, e⟩ | ⟨y, u, rfl, e⟩
    · exact nomatch e
    · injection e with e1 _
      subst e1
      cases v <;> rfl
theorem mixKind_int (prog : Program) (w : World) (i : Int) (t : Tok) : (mixKind prog w).is (.inl i) (.int i t) = true := keyIs_int i t
theorem mixKind_str (prog : Program) (w : World) (x : Str) (t : Tok) : (mixKind prog w).is (.inr x) (.str x t) = true := keyIs_str x t
end L2
namespace L2
open PySem PySem.Spec PyProof.Rows
inductive V where
  | non | bl (b : Bool) | int (i : Int) | str (x : Str) | byt (b : Array UInt8) | flt (b : UInt64) | ref (a : Addr) | ty (n : String)
  deriving DecidableEq
noncomputable def RelV : V → Value → Prop
  | .non, u => u = Value.none
  | .bl b, u => u = Value.bool b
  | .int i, u => ∃ t, u = Value.int i t
  | .str x, u => ∃ t, u = Value.str x t
  | .byt b, u => ∃ t, u = Value.bytes b t
  | .flt b, u => ∃ t, u = Value.float b t
  | .ref a, u => u = Value.ref a
  | .ty n, u => u = Value.type n
noncomputable abbrev Vals : List V → List Value → Prop := Paired RelV
theorem Vals.length {xs : List V} {us : List Value} (r : Vals xs us) : xs.length = us.length := Paired.length r
theorem Vals.get : ∀ {xs : List V} {us : List Value} {i : Nat} {x : V}, Vals xs us → xs[i]? = some x → ∃ u, us[i]? = some u ∧ RelV x u
  | _, _, _, _, .nil, e => by simp at e
  | _, _, 0, _, .cons r _, e => by simp at e; subst e; exact ⟨_, rfl, r⟩
  | _, _, i + 1, x, .cons _ t, e => by
    obtain ⟨u, h1, h2⟩ := Vals.get (i := i) (x := x) t (by simpa using e)
    exact ⟨u, by simpa using h1, h2⟩
theorem Vals.append : ∀ {xs ys : List V} {us ws : List Value}, Vals xs us → Vals ys ws → Vals (xs ++ ys) (us ++ ws)
  | _, _, _, _, .nil, s => s
  | _, _, _, _, .cons r t, s => .cons r (Vals.append t s)
theorem Vals.take : ∀ {xs : List V} {us : List Value} (n : Nat), Vals xs us → Vals (xs.take n) (us.take n)
  | _, _, 0, _ => .nil
  | _, _, _ + 1, .nil => .nil
  | _, _, n + 1, .cons r t => .cons r (Vals.take n t)
theorem Vals.drop : ∀ {xs : List V} {us : List Value} (n : Nat), Vals xs us → Vals (xs.drop n) (us.drop n)
  | _, _, 0, r => r
  | _, _, _ + 1, .nil => .nil
  | _, _, n + 1, .cons _ t => Vals.drop n t
noncomputable def RelO : Option V → Option Value → Prop
  | some v, some u => RelV v u
  | none, none => True
  | _, _ => False
noncomputable def KV {κ : Type} : List (κ × V) → List (κ × Value) → Prop := Paired fun (p : κ × V) (q : κ × Value) => p.1 = q.1 ∧ RelV p.2 q.2
noncomputable def kV : Key → V
  | .inl i => .int i
  | .inr x => .str x
inductive HO where
  /-- a list -/
  | lst (xs : List V)
  /-- a tuple (never changes) -/
  | tup (xs : List V)
  /-- a dict whose keys are ints and texts; one whose keys are tuples of ints and texts (the empty one is both) -/
  | dK (kvs : List (Key × V)) | dT (kvs : List (List Key × V))
  /-- a set of ints: its members, its size -/
  | set (S : Int → Bool) (n : Nat)
  /-- an instance of the class at C, its dict at dx, its attributes -/
  | ins (C dx : Addr) (fs : List (Str × V))
  /-- the dict of the instance at x -/
  | own (x : Addr)
  /-- the dict of an exception -/
  | xd (fs : List (Str × V))
  /-- a bound method, f of x -/
  | met (f x : Addr)
  /-- a range object lo, lo + 1, .. below hi -/
  | rng (lo hi : Int)
  /-- a thing that is known to the object (the script; a dict while a loop walks it): read, never written while it is so -/
  | frz (o : Obj) (u : HO)
  /-- a code object's table -/
  | tbl (ps : Array Value)
  /-- any other thing, by what is true of its one object (a def of one's own: SetO a S n := HO.ext fun h => ..) -/
  | ext (φ : Heap → Prop)
noncomputable abbrev Hp := Addr → Option HO
noncomputable def upd (H : Hp) (a : Addr) (o : HO) : Hp := fun b => if b = a then some o else H b
theorem upd_same {H : Hp} {a : Addr} {o : HO} : upd H a o a = some o := by unfold upd; rw [if_pos rfl]
theorem upd_ne {H : Hp} {a b : Addr} {o : HO} (h : b ≠ a) : upd H a o b = H b := by unfold upd; rw [if_neg h]
theorem upd_upd {H : Hp} {a : Addr} {o u : HO} : upd (upd H a o) a u = upd H a u := by
  funext b; unfold upd; split <;> rfl
theorem ne_of {H : Hp} {a b : Addr} {o u : HO} (h : H a = some o) (h' : H b = some u) (d : o ≠ u) : a ≠ b := by
  intro e; subst e; rw [h] at h'; exact d (Option.some.inj h')
theorem ne_of_none {H : Hp} {a b : Addr} {o : HO} (h : H a = some o) (h' : H b = none) : a ≠ b := by
  intro e; subst e; rw [h] at h'; cases h'
section
variable (P : Program) (w : World)
noncomputable def ObjOk (H : Hp) (h : Heap) (a : Addr) : HO → Prop
  | .lst xs => xs.length ≤ sizeLine ∧ ∃ (its : List Value) (n : Nat), Vals xs its ∧ h.get? a = some { cls := .type "list", data := .seq its.toArray n }
  | .tup xs => xs.length ≤ sizeLine ∧ ∃ its : List Value, Vals xs its ∧ IsTup h a its.toArray
  | .dK kvs => kvs.length ≤ sizeLine ∧ (a == sysModules) = false ∧ ∃ vs, KV kvs vs ∧ h.DictOf (mixKind P w) a vs
  | .dT kvs => kvs.length ≤ sizeLine ∧ (a == sysModules) = false ∧ ∃ xs : List (List Key × Addr × Value),
      Paired (fun (p : List Key × V) (q : List Key × Addr × Value) => p.1 = q.1 ∧ H q.2.1 = some (.tup (p.1.map kV)) ∧ RelV p.2 q.2.2) kvs xs ∧
      ∃ o es ep, h.get? a = some o ∧ o.ExactDict ∧ o.data = .dict es ep ∧ es.toList = xs.map (entryOfKey (tupleKind (mixKind P w))) ∧ (xs.map (·.1)).Nodup
  | .set S n => h.SetOf (intKind P w) a S n
  | .ins C dx fs => H dx = some (.own a) ∧ fs.length ≤ 1000 ∧ dx ≠ a ∧ h.get? a = some (PySem.W.instObj C dx) ∧
      ∃ mA, h.Ns1 dx mA ∧ (∀ f, RelO (fs.lookup f) (mA f)) ∧ PySem.Within mA (fs.map (·.1))
  | .own _ => ∃ o, h.get? a = some o
  | .xd fs => ∃ mA, h.Ns1 a mA ∧ ∀ f, RelO (fs.lookup f) (mA f)
  | .rng lo hi => ∃ t u v, h.get? a = some { cls := .type "range", data := .fields #[.int lo t, .int hi u, .int 1 v] }
  | .frz o u => h.get? a = some o ∧ ObjOk H h a u
  | .tbl ps => h.get? a = some { cls := .none, data := .fields ps }
  | .met f x => h.get? a = some (PySem.W.methodObj (.ref f) (.ref x))
  | .ext φ => φ h ∧ (∃ o, h.get? a = some o) ∧ ∀ h1 h2 : Heap, φ h1 → (∀ o, h1.get? a = some o → h2.get? a = some o) → φ h2
noncomputable def HOk (H : Hp) (h : Heap) : Prop := ∀ a o, H a = some o → ObjOk P w H h a o
end
section
variable {P : Program} {w : World} {H H' : Hp} {h h' : Heap} {a : Addr} {o : HO}
theorem ObjOk.lt (x : ObjOk P w H h a o) : a < h.objs.size := by
  cases o with
  | lst xs => obtain ⟨_, _, _, _, e⟩ := x; exact Heap.lt_size e
  | tup xs => obtain ⟨_, _, _, p⟩ := x; exact p.lt
  | dK kvs => obtain ⟨_, _, _, _, o, _, _, e, _⟩ := x; exact Heap.lt_size e
  | dT kvs => obtain ⟨_, _, _, _, o, _, _, e, _⟩ := x; exact Heap.lt_size e
  | set S n => obtain ⟨o, _, _, _, e, _⟩ := x; exact Heap.lt_size e
  | ins C dx fs => obtain ⟨_, _, _, e, _⟩ := x; exact Heap.lt_size e
  | own y => obtain ⟨_, e⟩ := x; exact Heap.lt_size e
  | xd fs => obtain ⟨_, ⟨_, _, _, e, _⟩, _⟩ := x; exact Heap.lt_size e
  | rng lo hi => obtain ⟨_, _, _, e⟩ := x; exact Heap.lt_size e
  | frz ob u => obtain ⟨e, _⟩ := x; exact Heap.lt_size e
  | tbl ps => exact Heap.lt_size (show h.get? a = some _ from x)
  | met f y => exact Heap.lt_size (show h.get? a = some _ from x)
  | ext φ => obtain ⟨_, ⟨_, e⟩, _⟩ := x; exact Heap.lt_size e
theorem Paired.mapP {α β : Type} {F G : α → β → Prop} : ∀ {l₁ : List α} {l₂ : List β}, Paired F l₁ l₂ → (∀ a b, F a b → G a b) → Paired G l₁ l₂
  | _, _, .nil, _ => .nil
  | _, _, .cons r t, f => .cons (f _ _ r) (Paired.mapP t f)
theorem ObjOk.stay (x : ObjOk P w H h a o) (k : ∀ b u, (b = a ∨ H b = some (.own a)) → h.get? b = some u → h'.get? b = some u)
    (ho : ∀ b, H b = some (.own a) → H' b = some (.own a)) (ht : ∀ b xs, H b = some (.tup xs) → H' b = some (.tup xs)) : ObjOk P w H' h' a o := by
  induction o with
  | lst xs => obtain ⟨z, its, n, r, e⟩ := x; exact ⟨z, its, n, r, k _ _ (.inl rfl) e⟩
  | tup xs => obtain ⟨z, its, r, ob, e, c⟩ := x; exact ⟨z, its, r, ob, k _ _ (.inl rfl) e, c⟩
  | dK kvs => obtain ⟨z, y, vs, r, ob, es, ep, e, c⟩ := x; exact ⟨z, y, vs, r, ob, es, ep, k _ _ (.inl rfl) e, c⟩
  | dT kvs =>
    obtain ⟨z, y, xs, r, ob, es, ep, e, c⟩ := x
    exact ⟨z, y, xs, Paired.mapP r fun p q z => ⟨z.1, ht _ _ z.2.1, z.2.2⟩, ob, es, ep, k _ _ (.inl rfl) e, c⟩
  | set S n => obtain ⟨ob, es, ep, t, e, c⟩ := x; exact ⟨ob, es, ep, t, k _ _ (.inl rfl) e, c⟩
  | ins C dx fs =>
    obtain ⟨d, z, ne, e, mA, ⟨od, es, ep, e2, c⟩, r⟩ := x
    exact ⟨ho _ d, z, ne, k _ _ (.inl rfl) e, mA, ⟨od, es, ep, k _ _ (.inr d) e2, c⟩, r⟩
  | own y => obtain ⟨ob, e⟩ := x; exact ⟨ob, k _ _ (.inl rfl) e⟩
  | xd fs => obtain ⟨mA, ⟨od, es, ep, e, c⟩, r⟩ := x; exact ⟨mA, ⟨od, es, ep, k _ _ (.inl rfl) e, c⟩, r⟩
  | rng lo hi => obtain ⟨t, u, v, e⟩ := x; exact ⟨t, u, v, k _ _ (.inl rfl) e⟩
  | frz ob u ih => obtain ⟨e, q⟩ := x; exact ⟨k _ _ (.inl rfl) e, ih q⟩
  | tbl ps =>
    have e : h.get? a = some { cls := .none, data := .fields ps } := x
    show h'.get? a = some { cls := .none, data := .fields ps }
    exact k a _ (.inl rfl) e
  | met f y =>
    have e : h.get? a = some (PySem.W.methodObj (.ref f) (.ref y)) := x
    show h'.get? a = some (PySem.W.methodObj (.ref f) (.ref y))
    exact k a _ (.inl rfl) e
  | ext φ => obtain ⟨p, ⟨o, e⟩, st⟩ := x; exact ⟨st _ _ p fun o q => k _ _ (.inl rfl) q, ⟨o, k _ _ (.inl rfl) e⟩, st⟩
theorem HOk.lt (x : HOk P w H h) (e : H a = some o) : a < h.objs.size := (x a o e).lt
theorem HOk.fresh (x : HOk P w H h) (e : h.objs.size ≤ a) : H a = none := by
  cases q : H a with
  | none => rfl
  | some u => exact absurd (Nat.lt_of_lt_of_le (x.lt q) e) (Nat.lt_irrefl _)
theorem HOk.kept (x : HOk P w H h) (k : ∀ b u, h.get? b = some u → h'.get? b = some u) : HOk P w H h' := fun a o e =>
  (x a o e).stay (fun b u _ q => k b u q) (fun _ q => q) fun _ _ q => q
theorem HOk.laid (x : HOk P w H h) (k : ∀ b u, h.get? b = some u → h'.get? b = some u) (hp : h.objs.size ≤ a) (new : ObjOk P w (upd H a o) h' a o) : HOk P w (upd H a o) h' := fun b u e => by
  have hn := x.fresh hp
  by_cases hb : b = a
  · subst hb; rw [upd_same] at e; cases e; exact new
  · rw [upd_ne hb] at e
    exact (x b u e).stay (fun c v _ q => k c v q) (fun c q => by rw [upd_ne (ne_of_none q hn)]; exact q) fun c xs q => by rw [upd_ne (ne_of_none q hn)]; exact q
end
noncomputable def Rd (H : Hp) (a : Addr) (u : HO) : Prop := H a = some u ∨ ∃ o, H a = some (.frz o u)
theorem Rd.ok {P : Program} {w : World} {H : Hp} {h : Heap} {a : Addr} {u : HO} (r : Rd H a u) (x : HOk P w H h) : ObjOk P w H h a u := by
  rcases r with r | ⟨o, r⟩
  · exact x a u r
  · obtain ⟨_, q⟩ := x a _ r
    exact q
noncomputable def Mut : Option HO → Prop
  | some (.lst _) => True
  | some (.dK _) => True
  | some (.dT _) => True
  | some (.set _ _) => True
  | some (.ins _ _ _) => True
  | some (.ext _) => True
  | _ => False
section
variable {P : Program} {w : World} {H : Hp} {h h' : Heap} {x e : Addr} {o' : HO}
theorem HOk.write (ok : HOk P w H h) (mu : Mut (H x)) (he : e = x ∨ H e = some (.own x)) (k : ∀ b u, b ≠ e → h.get? b = some u → h'.get? b = some u) (heo : ∃ u, h'.get? e = some u)
    (new : ObjOk P w (upd H x o') h' x o') : HOk P w (upd H x o') h' := fun b u q => by
  have nown : ∀ c y, H c = some (.own y) → c ≠ x := fun c y r z => by subst z; rw [r] at mu; exact mu
  have ntup : ∀ c xs, H c = some (.tup xs) → c ≠ x := fun c xs r z => by subst z; rw [r] at mu; exact mu
  by_cases hb : b = x
  · subst hb; rw [upd_same] at q; cases q; exact new
  · rw [upd_ne hb] at q
    by_cases hbe : b = e
    · have q' : H b = some (.own x) := by
        rcases he with z | z
        · exact absurd (hbe.trans z) hb
        · rw [hbe]; exact z
      rw [q] at q'; cases q'
      obtain ⟨v, hv⟩ := heo
      exact ⟨v, by rw [hbe]; exact hv⟩
    · refine (ok b u q).stay (fun c v hc r => k c v ?_ r) (fun c r => by rw [upd_ne (nown c b r)]; exact r) fun c xs r => by rw [upd_ne (ntup c xs r)]; exact r
      rcases hc with rfl | hc
      · exact hbe
      · rintro rfl
        rcases he with z | z
        · exact nown c b hc z
        · rw [hc] at z; cases z; exact hb rfl
end
structure Un (fs ex : List Addr) (H H' : Hp) (h h' : Heap) : Prop where
  keep : ∀ b o, h.get? b = some o → H b = none → b ∉ fs → b ∉ ex → h'.get? b = some o
  slot : ∀ b o, h.get? b = some o → H b = none → b ∈ fs → b ∉ ex → ∃ sl, h'.get? b = some { o with slots := sl }
  free : ∀ b o, h.get? b = some o → H b = none → b ∉ ex → H' b = none
  there : ∀ b o, h.get? b = some o → b ∉ ex → ∃ o', h'.get? b = some o'
  tups : ∀ b xs, H b = some (.tup xs) → H' b = some (.tup xs)
  frzs : ∀ b o u, H b = some (.frz o u) → H' b = some (.frz o u)
  tbls : ∀ b ps, H b = some (.tbl ps) → ∃ more, H' b = some (.tbl (ps ++ more))
section
variable {fs fs' ex ex' : List Addr} {H H1 H2 : Hp} {h h1 h2 h' : Heap} {a x e : Addr} {o : HO}
theorem Un.any (u : Un fs ex H H1 h h1) {b : Addr} {ob : Obj} (q : h.get? b = some ob) (n : H b = none) (hx : b ∉ ex) : ∃ sl, h1.get? b = some { ob with slots := sl } := by
  by_cases hb : b ∈ fs
  · exact u.slot b ob q n hb hx
  · exact ⟨ob.slots, u.keep b ob q n hb hx⟩
theorem Un.kept (k : ∀ b u, h.get? b = some u → h'.get? b = some u) : Un fs ex H H h h' :=
  ⟨fun b ob q _ _ _ => k b ob q, fun b ob q _ _ _ => ⟨ob.slots, k b ob q⟩, fun _ _ _ n _ => n, fun b ob q _ => ⟨ob, k b ob q⟩, fun _ _ q => q, fun _ _ _ q => q, fun _ ps q => ⟨#[], by rw [q]; simp⟩⟩
theorem Un.refl : Un fs ex H H h h := Un.kept fun _ _ q => q
theorem Un.laid (k : ∀ b u, h.get? b = some u → h'.get? b = some u) (hp : h.objs.size ≤ a) (hn : H a = none) : Un fs ex H (upd H a o) h h' where
  keep := fun b u q _ _ _ => k b u q
  slot := fun b u q _ _ _ => ⟨u.slots, k b u q⟩
  free := fun b u q n _ => by rw [upd_ne (Nat.ne_of_lt (Nat.lt_of_lt_of_le (Heap.lt_size q) hp))]; exact n
  there := fun b u q _ => ⟨u, k b u q⟩
  tups := fun b xs q => by rw [upd_ne (ne_of_none q hn)]; exact q
  frzs := fun b u xs q => by rw [upd_ne (ne_of_none q hn)]; exact q
  tbls := fun b ps q => ⟨#[], by rw [upd_ne (ne_of_none q hn), q]; simp⟩
theorem Un.write (mu : Mut (H x)) (he : e = x ∨ H e = some (.own x)) (k : ∀ b u, b ≠ e → h.get? b = some u → h'.get? b = some u) (heo : ∃ u, h'.get? e = some u) : Un fs ex H (upd H x o) h h' := by
  have hx : ∀ b, H b = none → b ≠ x := fun b n z => by subst z; rw [n] at mu; exact mu
  have hb : ∀ b, H b = none → b ≠ e := fun b n z => by
    subst z
    rcases he with r | r
    · exact hx b n r
    · rw [n] at r; cases r
  have hm : ∀ b u, H b = some u → ¬ Mut (some u) → b ≠ x := fun b u q nm z => by subst z; rw [q] at mu; exact nm mu
  refine ⟨fun b u q n _ _ => k b u (hb b n) q, fun b u q n _ _ => ⟨u.slots, k b u (hb b n) q⟩, fun b u q n _ => by rw [upd_ne (hx b n)]; exact n, fun b u q _ => ?_,
    fun b xs q => by rw [upd_ne (hm b _ q fun z => z)]; exact q, fun b u xs q => by rw [upd_ne (hm b _ q fun z => z)]; exact q, fun b ps q => ⟨#[], by rw [upd_ne (hm b _ q fun z => z), q]; simp⟩⟩
  by_cases hbe : b = e
  · subst hbe; exact heo
  · exact ⟨u, k b u hbe q⟩
end
noncomputable def trk (h : Heap) (H : Hp) : List Addr := (List.range h.objs.size).filter fun a => (H a).isSome
noncomputable def hidT (h : Heap) (H : Hp) : Heap := PySem.W.hideAll h (trk h H)
theorem hidT_size (h : Heap) (H : Hp) : (hidT h H).objs.size = h.objs.size := PySem.W.hideAll_size _ _
theorem hidT_get {h : Heap} {H : Hp} {b : Addr} {o : Obj} (e : h.get? b = some o) (n : H b = none) : (hidT h H).get? b = some o :=
  PySem.W.hideAll_get _ e fun hm => by
    have q : (H b).isSome = true := (List.mem_filter.mp hm).2
    rw [n] at q; simp at q
theorem of_hidT {h : Heap} {H : Hp} {b : Addr} {o : Obj} (e : (hidT h H).get? b = some o) : h.get? b = some o ∧ H b = none := by
  have e' : h.get? b = some o := PySem.W.of_hideAll (trk h H) e
  refine ⟨e', ?_⟩
  cases q : H b with
  | none => rfl
  | some x =>
    have hm : b ∈ trk h H := List.mem_filter.mpr ⟨List.mem_range.mpr (Heap.lt_size e'), by simp [q]⟩
    have z : (hidT h H).get? b = none := PySem.W.hideAll_none (trk h H) hm
    rw [z] at e; cases e
end L2
namespace L2
open PySem PySem.Spec PyProof.Rows
structure Mod (K : PySem.W.Frag) (mg : Str → Option Value) (base : Heap) : Prop where
  kin : K.In base
  glob : base.Ns mainGlobals mg
  blt : ∃ mb, base.Ns builtinsNs mb ∧ ∀ x : Str, x ≠ "__name__" → mb x = bootBuiltins x
  nolimit : base.NoLimit
structure Cx where
  prog : Program
  w : World
  K : PySem.W.Frag
  mg : Str → Option Value
  base : Heap
  A : Around
  N : List Str
  s_0 : Shared
  H_0 : Hp
  env : Env
  outer : List Env
  stack : List Env
  ex : List Addr
  fn : Str → Bool
  calm : Bool
  pn : List (Addr × Obj)
  xe : Value → Shared → Prop
noncomputable def frs (l : List Env) : List Addr := l.filterMap (·.frame)
noncomputable abbrev Cx.fs (X : Cx) : List Addr := frs X.outer
noncomputable def Vis (sc : Scope) (x : Str) : Prop := sc.names.lookup x = some .local ∨ sc.names.lookup x = some .cell ∨ sc.names.lookup x = some .free
noncomputable def Loc (sc : Scope) (x : Str) : Prop := sc.names.lookup x = some .local ∨ sc.names.lookup x = some .cell
noncomputable def Look (env : Env) (h : Heap) (m : Str → Option Value) (x : Str) (u : Value) : Prop :=
  (env.kindOf x = some .local ∧ m x = some u) ∨ ((env.kindOf x = some .cell ∨ env.kindOf x = some .free) ∧ ∃ c, env.cells.lookup x = some c ∧ h.IsCell c (some u))
structure Cx.Ok (X : Cx) : Prop where
  mod : Mod X.K X.mg X.base
  kind : X.env.scope.kind = .function
  glob : X.env.globals = mainGlobals
  blt : X.env.builtins = builtinsNs
  above : X.s_0.heap.objs.size ≤ X.env.locals
  inj : ∀ x y c, X.env.cells.lookup x = some c → X.env.cells.lookup y = some c → x = y
  has : ∀ x, (X.env.kindOf x = some .cell ∨ X.env.kindOf x = some .free) → ∃ c, X.env.cells.lookup x = some c
  cab : ∀ x c, X.fn x = true → X.env.cells.lookup x = some c → X.s_0.heap.objs.size ≤ c
  hd : X.calm = true → X.A.handled = none
  frames : X.A.frames = some X.stack
  stk : X.stack = X.outer ∨ (X.stack = X.env :: X.outer ∧ X.env.frame = some X.env.locals)
  exf : ∀ b ∈ X.ex, b ≠ X.env.locals ∧ ∀ x c, X.env.cells.lookup x = some c → c ≠ b
  bs : ∀ b o, X.base.get? b = some o → X.s_0.heap.get? b = some o ∧ X.H_0 b = none
  bsz : X.base.objs.size ≤ X.s_0.heap.objs.size
  noex : ∀ b o, X.base.get? b = some o → b ∉ X.ex
  exfs : ∀ b ∈ X.ex, b ∉ X.fs
  funs : X.s_0.heap.FunFrames X.base X.outer
  frf : ∀ b ∈ X.fs, X.H_0 b = none
structure Inv (X : Cx) (pins : List (Addr × Obj)) (σ : List (Option V)) (H : Hp) (s : Shared) : Prop where
  ok : X.Ok
  os : s.os = X.s_0.os
  bare : AllBare s.gens
  base : Un X.fs X.ex X.H_0 H X.s_0.heap s.heap
  loc : ∃ m, s.heap.Ns X.env.locals m ∧ ∀ (i : Nat) (x : Str) (v : V), X.N[i]? = some x → σ[i]? = some (some v) → Vis X.env.scope x → ∃ u, RelV v u ∧ Look X.env s.heap m x u
  cell : ∀ x c, X.env.cells.lookup x = some c → ∃ v, s.heap.IsCell c v
  free : H X.env.locals = none
  freeC : ∀ x c, X.env.cells.lookup x = some c → H c = none
  pin : ∀ p ∈ X.pn ++ pins, s.heap.get? p.1 = some p.2 ∧ H p.1 = none ∧ p.1 ≠ X.env.locals ∧ p.1 ∉ X.fs ∧ ∀ v, p.2.data ≠ .cell v
  hok : HOk X.prog X.w H s.heap
  len : σ.length = X.N.length
section
variable {X : Cx} {pins : List (Addr × Obj)} {σ : List (Option V)} {H H' : Hp} {s : Shared} {h' : Heap}
theorem Cx.Ok.nofr (ok : X.Ok) {b : Addr} {o : Obj} (e : X.base.get? b = some o) : b ∉ X.fs := fun hb => by
  have := (ok.funs.mem hb).1
  rw [e] at this; cases this
theorem Inv.bs (I : Inv X pins σ H s) : ∀ b o, X.base.get? b = some o → s.heap.get? b = some o ∧ H b = none := fun b o e =>
  ⟨I.base.keep b o (I.ok.bs b o e).1 (I.ok.bs b o e).2 (I.ok.nofr e) (I.ok.noex b o e), I.base.free b o (I.ok.bs b o e).1 (I.ok.bs b o e).2 (I.ok.noex b o e)⟩
theorem Inv.bk (I : Inv X pins σ H s) : ∀ b o, X.base.get? b = some o → s.heap.get? b = some o := fun b o e => (I.bs b o e).1
theorem Inv.mod (I : Inv X pins σ H s) : Mod X.K X.mg X.base := I.ok.mod
theorem Inv.kIn (I : Inv X pins σ H s) : X.K.In s.heap := I.ok.mod.kin.keeps I.bk
theorem Inv.lt (I : Inv X pins σ H s) : X.env.locals < s.heap.objs.size := let ⟨_, hn, _⟩ := I.loc; hn.lt
theorem Inv.sz (I : Inv X pins σ H s) : X.s_0.heap.objs.size ≤ s.heap.objs.size := Nat.le_trans I.ok.above (Nat.le_of_lt I.lt)
theorem Inv.nofs (I : Inv X pins σ H s) {a : Addr} (h : s.heap.objs.size ≤ a) : a ∉ X.fs := fun hb => by
  obtain ⟨_, o, ho, _⟩ := I.ok.funs.mem hb
  exact absurd (Nat.lt_of_lt_of_le (Heap.lt_size ho) (Nat.le_trans I.sz h)) (Nat.lt_irrefl _)
theorem Inv.cne (I : Inv X pins σ H s) : ∀ x c, X.env.cells.lookup x = some c → c ≠ X.env.locals := fun x c e z => by
  obtain ⟨v, o, ho, hd⟩ := I.cell x c e
  obtain ⟨m, ⟨o', es, ep, ho', hd', _⟩, _⟩ := I.loc
  rw [z, ho'] at ho; cases ho; rw [hd'] at hd; cases hd
theorem Inv.funs (I : Inv X pins σ H s) : s.heap.FunFrames X.base X.outer := by
  have all : ∀ (l : List Env), (∀ b ∈ frs l, b ∈ X.fs) → X.s_0.heap.FunFrames X.base l → s.heap.FunFrames X.base l := by
    intro l
    induction l with
    | nil => intro _ _; trivial
    | cons env r ih =>
      intro hs hl
      obtain ⟨hk, ⟨L, o, hf, hn, ho, hd⟩, hr⟩ := hl
      have hL : L ∈ X.fs := hs L (by unfold frs; rw [List.filterMap_cons, hf]; exact List.mem_cons_self)
      obtain ⟨sl, e⟩ := I.base.slot L o ho (I.ok.frf L hL) hL fun z => I.ok.exfs L z hL
      exact ⟨hk, ⟨L, _, hf, hn, e, hd⟩, ih (fun b hb => hs b (by unfold frs; rw [List.filterMap_cons, hf]; exact List.mem_cons_of_mem _ hb)) hr⟩
  exact all X.outer (fun _ hb => hb) I.ok.funs
theorem Inv.stack (I : Inv X pins σ H s) : s.heap.FunFrames X.base X.stack := by
  rcases I.ok.stk with e | ⟨e, hf⟩
  · rw [e]; exact I.funs
  · rw [e]
    obtain ⟨m, hn, _⟩ := I.loc
    refine .cons (by rw [I.ok.kind]; decide) hf hn ?_ I.funs
    exact Heap.get?_none_of_le (Nat.le_trans I.ok.bsz I.ok.above)
theorem Inv.stkSub (I : Inv X pins σ H s) : ∀ b ∈ frs X.stack, b ∈ X.env.locals :: X.fs := fun b hb => by
  rcases I.ok.stk with e | ⟨e, hf⟩
  · rw [e] at hb; exact List.mem_cons_of_mem _ hb
  · rw [e] at hb
    unfold frs at hb
    rw [List.filterMap_cons, hf] at hb
    exact hb
theorem Inv.stkFree (I : Inv X pins σ H s) : ∀ b ∈ frs X.stack, H b = none := fun b hb => by
  rcases List.mem_cons.mp (I.stkSub b hb) with e | hb
  · rw [e]; exact I.free
  · obtain ⟨_, o, ho, _⟩ := I.ok.funs.mem hb
    exact I.base.free b o ho (I.ok.frf b hb) fun z => I.ok.exfs b z hb
theorem Inv.step {g' : Array GenState} {t' : Nat} {d' : Drawn} {ch : List Addr} (I : Inv X pins σ H s)
    (hch : ∀ b ∈ ch, (b ∈ X.ex ∨ X.s_0.heap.objs.size ≤ b) ∧ b ≠ X.env.locals ∧ (∀ x c, X.env.cells.lookup x = some c → c ≠ b) ∧ ∀ p ∈ X.pn ++ pins, p.1 ≠ b)
    (keep : ∀ b o, b ≠ X.env.locals → b ∉ X.fs → b ∉ ch → s.heap.get? b = some o → H b = none → h'.get? b = some o)
    (slot : ∀ b o, b ≠ X.env.locals → b ∈ X.fs → b ∉ ch → s.heap.get? b = some o → H b = none → ∃ sl, h'.get? b = some { o with slots := sl }) (free : ∀ b o, b ∉ ch → s.heap.get? b = some o → H b = none → H' b = none)
    (there : ∀ b o, b ∉ ch → s.heap.get? b = some o → ∃ o', h'.get? b = some o')
    (tups : ∀ b xs, H b = some (.tup xs) → H' b = some (.tup xs)) (frzs : ∀ b o u, H b = some (.frz o u) → H' b = some (.frz o u)) (tbls : ∀ b ps, H b = some (.tbl ps) → ∃ more, H' b = some (.tbl (ps ++ more)))
    (ns : ∀ m, s.heap.Ns X.env.locals m → h'.Ns X.env.locals m) (hok : HOk X.prog X.w H' h') (hg : AllBare g') :
    Inv X pins σ H' { s with heap := h', gens := g', drawn := d', toks := t' } := by
  have neL : ∀ b o, X.s_0.heap.get? b = some o → b ≠ X.env.locals := fun b o e => Nat.ne_of_lt (Nat.lt_of_lt_of_le (Heap.lt_size e) I.ok.above)
  have neC : ∀ b o, X.s_0.heap.get? b = some o → b ∉ X.ex → b ∉ ch := fun b o e hx hb => by
    rcases (hch b hb).1 with z | z
    · exact hx z
    · exact absurd (Nat.lt_of_lt_of_le (Heap.lt_size e) z) (Nat.lt_irrefl _)
  have cellK : ∀ x c, X.env.cells.lookup x = some c → ∀ v, s.heap.IsCell c v → h'.IsCell c v := fun x c e v ⟨o, ho, hd⟩ => by
    have nch : c ∉ ch := fun z => (hch c z).2.2.1 x c e rfl
    by_cases hc : c ∈ X.fs
    · obtain ⟨sl, q⟩ := slot c o (I.cne x c e) hc nch ho (I.freeC x c e)
      exact ⟨_, q, hd⟩
    · exact ⟨o, keep c o (I.cne x c e) hc nch ho (I.freeC x c e), hd⟩
  refine ⟨I.ok, I.os, hg, ⟨fun b o e n hb hx => ?_, fun b o e n hb hx => ?_, fun b o e n hx => ?_, fun b o e hx => ?_, fun b xs e => tups b xs (I.base.tups b xs e), fun b o xs e => frzs b o xs (I.base.frzs b o xs e), fun b ps e => ?_⟩, ?_, fun x c e => ?_, ?_, fun x c e => ?_, fun p hp => ?_, hok, I.len⟩
  · exact keep b o (neL b o e) hb (neC b o e hx) (I.base.keep b o e n hb hx) (I.base.free b o e n hx)
  · obtain ⟨sl, e1⟩ := I.base.slot b o e n hb hx
    obtain ⟨sl', e2⟩ := slot b _ (neL b o e) hb (neC b o e hx) e1 (I.base.free b o e n hx)
    exact ⟨sl', e2⟩
  · obtain ⟨o', e1⟩ := I.base.there b o e hx
    exact free b o' (neC b o e hx) e1 (I.base.free b o e n hx)
  · obtain ⟨o', e1⟩ := I.base.there b o e hx
    exact there b o' (neC b o e hx) e1
  · obtain ⟨m1, e1⟩ := I.base.tbls b ps e
    obtain ⟨m2, e2⟩ := tbls b _ e1
    exact ⟨m1 ++ m2, by rw [e2, Array.append_assoc]⟩
  · obtain ⟨m, hn, hl⟩ := I.loc
    refine ⟨m, ns m hn, fun i x v e1 e2 e3 => ?_⟩
    obtain ⟨u, r, l⟩ := hl i x v e1 e2 e3
    refine ⟨u, r, ?_⟩
    rcases l with l | ⟨k, c, e, z⟩
    · exact .inl l
    · exact .inr ⟨k, c, e, cellK x c e _ z⟩
  · obtain ⟨v, z⟩ := I.cell x c e
    exact ⟨v, cellK x c e v z⟩
  · obtain ⟨m, ⟨o, _, _, ho, _⟩, _⟩ := I.loc
    exact free _ o (fun z => (hch _ z).2.1 rfl) ho I.free
  · obtain ⟨v, o, ho, hd⟩ := I.cell x c e
    exact free c o (fun z => (hch c z).2.2.1 x c e rfl) ho (I.freeC x c e)
  · obtain ⟨e, n, ne, nf, d⟩ := I.pin p hp
    have nch : p.1 ∉ ch := fun z => (hch p.1 z).2.2.2 p hp rfl
    exact ⟨keep p.1 p.2 ne nf nch e n, free p.1 p.2 nch e n, ne, nf, d⟩
theorem Inv.un {t' : Nat} (I : Inv X pins σ H s) (u : Un X.fs [] H H' s.heap h') (hok : HOk X.prog X.w H' h') : Inv X pins σ H' { s with heap := h', toks := t' } := by
  obtain ⟨m, ⟨o, es, ep, ho, r⟩, _⟩ := id I.loc
  obtain ⟨sl, hL⟩ := u.any ho I.free (by simp)
  exact I.step (g' := s.gens) (d' := s.drawn) (ch := []) (fun _ z => nomatch z) (fun b o _ hb _ e n => u.keep b o e n hb (by simp)) (fun b o _ hb _ e n => u.slot b o e n hb (by simp)) (fun b o _ e n => u.free b o e n (by simp)) (fun b o _ e => u.there b o e (by simp)) u.tups u.frzs u.tbls (fun m' hm => by
    obtain ⟨o', es', ep', ho', r'⟩ := hm
    rw [ho] at ho'; cases ho'
    exact ⟨_, es', ep', hL, r'⟩) hok I.bare
theorem Inv.call {g' : Array GenState} {t' : Nat} {d' : Drawn} {ch : List Addr} (I : Inv X pins σ H s) (u : Un (frs X.stack) ch H H' s.heap h') (hok : HOk X.prog X.w H' h') (hg : AllBare g')
    (hch : ∀ b ∈ ch, (b ∈ X.ex ∨ X.s_0.heap.objs.size ≤ b) ∧ b ≠ X.env.locals ∧ (∀ x c, X.env.cells.lookup x = some c → c ≠ b) ∧ ∀ p ∈ X.pn ++ pins, p.1 ≠ b) :
    Inv X pins σ H' { s with heap := h', gens := g', drawn := d', toks := t' } := by
  obtain ⟨m, ⟨o, es, ep, ho, r⟩, _⟩ := id I.loc
  obtain ⟨sl, hL⟩ := u.any ho I.free fun z => (hch _ z).2.1 rfl
  exact I.step (ch := ch) hch (fun b o hL hb hc e n => u.keep b o e n (fun z => (List.mem_cons.mp (I.stkSub b z)).elim hL hb) hc) (fun b o _ _ hc e n => u.any e n hc) (fun b o hc e n => u.free b o e n hc) (fun b o hc e => u.there b o e hc) u.tups u.frzs u.tbls (fun m' hm => by
    obtain ⟨o', es', ep', ho', r'⟩ := hm
    rw [ho] at ho'; cases ho'
    exact ⟨_, es', ep', hL, r'⟩) hok hg
theorem Inv.turned {t' : Nat} {it : Addr} (I : Inv X pins σ H s) (k : ∀ b o, b ≠ it → s.heap.get? b = some o → h'.get? b = some o) (hn : H it = none) (hL : it ≠ X.env.locals)
    (h1 : it ∈ X.ex ∨ X.s_0.heap.objs.size ≤ it) (h2 : ∀ x c, X.env.cells.lookup x = some c → c ≠ it) (h3 : ∀ p ∈ X.pn ++ pins, p.1 ≠ it) : Inv X pins σ H { s with heap := h', toks := t' } := by
  have nit : ∀ b u, H b = some u → b ≠ it := fun b u e z => by rw [z, hn] at e; cases e
  refine I.step (g' := s.gens) (d' := s.drawn) (ch := [it]) (fun b hb => ?_) (fun b o _ _ hc e _ => k b o (fun z => hc (by simp [z])) e) (fun b o _ _ hc e _ => ⟨o.slots, k b o (fun z => hc (by simp [z])) e⟩) (fun _ _ _ _ n => n)
    (fun b o hc e => ⟨o, k b o (fun z => hc (by simp [z])) e⟩) (fun _ _ e => e) (fun _ _ _ e => e) (fun b ps e => ⟨#[], by rw [e]; simp⟩) (fun m hm => ?_) (fun b u e => ?_) I.bare
  · have e : b = it := by simpa using hb
    subst e
    exact ⟨h1, hL, h2, h3⟩
  · obtain ⟨o, es, ep, ho, r⟩ := hm
    exact ⟨o, es, ep, k _ o (Ne.symm hL) ho, r⟩
  · refine (I.hok b u e).stay (fun c v hc q => k c v ?_ q) (fun _ q => q) fun _ _ q => q
    rcases hc with z | z
    · rw [z]; exact nit b u e
    · exact nit c _ z
theorem Inv.tok (I : Inv X pins σ H s) (t : Nat) : Inv X pins σ H { s with toks := t } := I.un (h' := s.heap) (t' := t) Un.refl I.hok
theorem Inv.kept {t' : Nat} (I : Inv X pins σ H s) (k : ∀ b u, s.heap.get? b = some u → h'.get? b = some u) : Inv X pins σ H { s with heap := h', toks := t' } := I.un (Un.kept k) (I.hok.kept k)
theorem Inv.laid {a : Addr} {o : HO} {t' : Nat} (I : Inv X pins σ H s) (k : ∀ b u, s.heap.get? b = some u → h'.get? b = some u) (hp : s.heap.objs.size ≤ a) (new : ObjOk X.prog X.w (upd H a o) h' a o) :
    Inv X pins σ (upd H a o) { s with heap := h', toks := t' } := I.un (Un.laid k hp (I.hok.fresh hp)) (I.hok.laid k hp new)
theorem Inv.write {x e : Addr} {o : HO} {t' : Nat} (I : Inv X pins σ H s) (mu : Mut (H x)) (he : e = x ∨ H e = some (.own x)) (k : ∀ b u, b ≠ e → s.heap.get? b = some u → h'.get? b = some u) (heo : ∃ u, h'.get? e = some u)
    (new : ObjOk X.prog X.w (upd H x o) h' x o) : Inv X pins σ (upd H x o) { s with heap := h', toks := t' } := I.un (Un.write mu he k heo) (I.hok.write mu he k heo new)
theorem Inv.weak {σ' : List (Option V)} (I : Inv X pins σ H s) (hl : σ'.length = σ.length) (w : ∀ (i : Nat) v, σ'[i]? = some (some v) → σ[i]? = some (some v)) : Inv X pins σ' H s :=
  ⟨I.ok, I.os, I.bare, I.base, let ⟨m, hn, hl'⟩ := I.loc; ⟨m, hn, fun i x v e1 e2 e3 => hl' i x v e1 (w i v e2) e3⟩, I.cell, I.free, I.freeC, I.pin, I.hok, hl.trans I.len⟩
theorem Inv.pins_of {pins' : List (Addr × Obj)} (I : Inv X pins σ H s) (h : ∀ p ∈ pins', s.heap.get? p.1 = some p.2 ∧ H p.1 = none ∧ p.1 ≠ X.env.locals ∧ p.1 ∉ X.fs ∧ ∀ v, p.2.data ≠ .cell v) : Inv X pins' σ H s :=
  ⟨I.ok, I.os, I.bare, I.base, I.loc, I.cell, I.free, I.freeC, fun p hp => (List.mem_append.mp hp).elim (fun z => I.pin p (List.mem_append_left _ z)) (h p), I.hok, I.len⟩
theorem nodup_ix {N : List Str} (hN : N.Nodup) {i j : Nat} {x : Str} (a : N[i]? = some x) (b : N[j]? = some x) : i = j := by
  obtain ⟨h1, e1⟩ := List.getElem?_eq_some_iff.mp a
  obtain ⟨h2, e2⟩ := List.getElem?_eq_some_iff.mp b
  exact (List.getElem_inj hN).mp (e1.trans e2.symm)
theorem store_ok2 {M : Model} {A : Around} {E : Value → Shared → Prop} {i : Nat} {x : Str} {v : V} {u : Value} {Q : Unit → Shared → Prop} (I : Inv X pins σ H s) (hN : X.N.Nodup) (hi : X.N[i]? = some x) (hx : Loc X.env.scope x) (r : RelV v u)
    (h : ∀ s', Inv X pins (σ.set i (some v)) H s' → (∃ a, Heap.SameBut a s.heap s'.heap ∧ (a = X.env.locals ∨ X.env.cells.lookup x = some a)) → Q () s') (hf : X.fn x = true ∨ X.env.scope.names.lookup x = some .local := by first | exact .inl rfl | exact .inr rfl | assumption) : wpAny M A (storeName X.env x u) Q E s := by
  obtain ⟨m, hn, hl⟩ := id I.loc
  have hcls : (X.env.scope.kind == .class || (X.env.scope.kind == .module && X.env.locals != X.env.globals)) = false := by rw [I.ok.kind]; rfl
  have hiσ : i < σ.length := by rw [I.len]; exact (List.getElem?_eq_some_iff.mp hi).1
  have cne := I.cne
  have tracked : ∀ {a : Addr} {h' : Heap}, (∃ o, s.heap.get? a = some o ∧ H a = none) → Heap.SameBut a s.heap h' → HOk X.prog X.w H h' := fun {a h'} ha hs b ob e => by
    obtain ⟨_, _, hfree⟩ := ha
    refine (I.hok b ob e).stay (fun c w' hc q => (hs.2 c ?_).trans q) (fun _ q => q) fun _ _ q => q
    rintro rfl
    rcases hc with rfl | hc
    · rw [hfree] at e; cases e
    · rw [hfree] at hc; cases hc
  rcases hx with hk | hk
  · refine wpAny_storeName_local hk hn (fun h' hn' hs => ?_) hcls
    obtain ⟨oL, _, _, hoL, _⟩ := id hn
    refine h _ ⟨I.ok, I.os, I.bare, ⟨fun b o e n hb hx => ?_, fun b o e n hb hx => ?_, I.base.free, fun b o e hx => ?_, I.base.tups, I.base.frzs, I.base.tbls⟩, ⟨_, hn', fun j y v' e1 e2 e3 => ?_⟩, fun y c e => ?_, I.free, I.freeC, fun p hp => ?_, tracked ⟨oL, hoL, I.free⟩ hs, by simpa using I.len⟩ ⟨_, hs, .inl rfl⟩
    · exact (hs.2 b (Nat.ne_of_lt (Nat.lt_of_lt_of_le (Heap.lt_size e) I.ok.above))).trans (I.base.keep b o e n hb hx)
    · obtain ⟨sl, e1⟩ := I.base.slot b o e n hb hx
      exact ⟨sl, (hs.2 b (Nat.ne_of_lt (Nat.lt_of_lt_of_le (Heap.lt_size e) I.ok.above))).trans e1⟩
    · obtain ⟨o', e1⟩ := I.base.there b o e hx
      exact ⟨o', (hs.2 b (Nat.ne_of_lt (Nat.lt_of_lt_of_le (Heap.lt_size e) I.ok.above))).trans e1⟩
    · by_cases hj : j = i
      · subst hj
        rw [hi] at e1; cases e1
        rw [List.getElem?_set_self hiσ] at e2
        cases e2
        exact ⟨u, r, .inl ⟨hk, by simp⟩⟩
      · rw [List.getElem?_set_ne (Ne.symm hj)] at e2
        obtain ⟨u', r', q⟩ := hl j y v' e1 e2 e3
        refine ⟨u', r', ?_⟩
        rcases q with ⟨k, e⟩ | ⟨k, c, e, z⟩
        · refine .inl ⟨k, ?_⟩
          have : y ≠ x := fun e => hj (nodup_ix hN e1 (e ▸ hi))
          simp [this, e]
        · exact .inr ⟨k, c, e, z.sameBut hs (cne y c e)⟩
    · obtain ⟨w', z⟩ := I.cell y c e
      exact ⟨w', z.sameBut hs (cne y c e)⟩
    · obtain ⟨e, n, ne, nf, d⟩ := I.pin p hp
      exact ⟨(hs.2 p.1 ne).trans e, n, ne, nf, d⟩
  · have hfn : X.fn x = true := by
      rcases hf with z | z
      · exact z
      · rw [z] at hk; cases hk
    obtain ⟨c, hc⟩ := I.ok.has x (.inl hk)
    obtain ⟨w', z⟩ := I.cell x c hc
    refine wpAny_storeName_cell I.ok.kind hk hc z (fun h' hc' hs => ?_)
    obtain ⟨oc, hoc, hocd⟩ := id z
    refine h { s with heap := h' } ⟨I.ok, I.os, I.bare, ⟨fun b o e n hb hx => ?_, fun b o e n hb hx => ?_, I.base.free, fun b o e hx => ?_, I.base.tups, I.base.frzs, I.base.tbls⟩, ⟨m, hn.sameBut hs (Ne.symm (cne x c hc)), fun j y v' e1 e2 e3 => ?_⟩, fun y c' e => ?_, I.free, I.freeC, fun p hp => ?_, tracked ⟨oc, hoc, I.freeC x c hc⟩ hs, by simpa using I.len⟩ ⟨c, hs, .inr hc⟩
    · exact (hs.2 b (Nat.ne_of_lt (Nat.lt_of_lt_of_le (Heap.lt_size e) (I.ok.cab x c hfn hc)))).trans (I.base.keep b o e n hb hx)
    · obtain ⟨sl, e1⟩ := I.base.slot b o e n hb hx
      exact ⟨sl, (hs.2 b (Nat.ne_of_lt (Nat.lt_of_lt_of_le (Heap.lt_size e) (I.ok.cab x c hfn hc)))).trans e1⟩
    · obtain ⟨o', e1⟩ := I.base.there b o e hx
      exact ⟨o', (hs.2 b (Nat.ne_of_lt (Nat.lt_of_lt_of_le (Heap.lt_size e) (I.ok.cab x c hfn hc)))).trans e1⟩
    · by_cases hj : j = i
      · subst hj
        rw [hi] at e1; cases e1
        rw [List.getElem?_set_self hiσ] at e2
        cases e2
        exact ⟨u, r, .inr ⟨.inl hk, c, hc, hc'⟩⟩
      · rw [List.getElem?_set_ne (Ne.symm hj)] at e2
        obtain ⟨u', r', q⟩ := hl j y v' e1 e2 e3
        refine ⟨u', r', ?_⟩
        rcases q with q | ⟨k, c', e, z'⟩
        · exact .inl q
        · refine .inr ⟨k, c', e, z'.sameBut hs ?_⟩
          rintro rfl
          exact hj (nodup_ix hN e1 (I.ok.inj _ _ _ e hc ▸ hi))
    · by_cases hcc : c' = c
      · subst hcc; exact ⟨_, hc'⟩
      · obtain ⟨w2, z2⟩ := I.cell y c' e
        exact ⟨w2, z2.sameBut hs hcc⟩
    · obtain ⟨e, n, ne, nf, d⟩ := I.pin p hp
      refine ⟨(hs.2 p.1 ?_).trans e, n, ne, nf, d⟩
      intro q
      rw [q, hoc] at e
      have q' : oc = p.2 := Option.some.inj e
      exact d w' (by rw [← q']; exact hocd)
theorem store_ok {M : Model} {A : Around} {E : Value → Shared → Prop} {i : Nat} {x : Str} {v : V} {u : Value} {Q : Unit → Shared → Prop} (I : Inv X pins σ H s) (hN : X.N.Nodup) (hi : X.N[i]? = some x) (hx : Loc X.env.scope x) (r : RelV v u)
    (h : ∀ s', Inv X pins (σ.set i (some v)) H s' → Q () s') (hf : X.fn x = true ∨ X.env.scope.names.lookup x = some .local := by first | exact .inl rfl | exact .inr rfl | assumption) : wpAny M A (storeName X.env x u) Q E s :=
  store_ok2 I hN hi hx r (fun s' I' _ => h s' I') hf
theorem Inv.call' {s' : Shared} {ch : List Addr} (I : Inv X pins σ H s) (ho : s'.os = s.os) (u : Un (frs X.stack) ch H H' s.heap s'.heap) (hok : HOk X.prog X.w H' s'.heap) (hg : AllBare s'.gens)
    (hch : ∀ b ∈ ch, (b ∈ X.ex ∨ X.s_0.heap.objs.size ≤ b) ∧ b ≠ X.env.locals ∧ (∀ x c, X.env.cells.lookup x = some c → c ≠ b) ∧ ∀ p ∈ X.pn ++ pins, p.1 ≠ b) : Inv X pins σ H' s' := by
  obtain ⟨h', g', d', t', o'⟩ := s'
  have e : o' = s.os := ho
  subst e
  exact I.call (g' := g') (t' := t') (d' := d') u hok hg hch
end
noncomputable abbrev XK := Value → Option Addr → Hp → Prop
noncomputable abbrev St := List (Option V)
noncomputable abbrev VK := V → Hp → Prop
noncomputable abbrev TE := St → Hp → VK → Prop
noncomputable abbrev TT := St → Hp → (Bool → Hp → Prop) → Prop
noncomputable abbrev TA := St → Hp → (List V → Hp → Prop) → Prop
structure Ends where
  nx : St → Hp → Prop
  rt : VK
  bk : St → Hp → Prop := fun _ _ => False
  ct : St → Hp → Prop := fun _ _ => False
noncomputable abbrev TS := Ends → St → Hp → Prop
noncomputable def EP (X : Cx) (pins : List (Addr × Obj)) (σ : St) (Q : VK) (u : Value) (s' : Shared) : Prop := ∃ v H', Inv X pins σ H' s' ∧ RelV v u ∧ Q v H'
noncomputable def TP (X : Cx) (pins : List (Addr × Obj)) (σ : St) (Q : Bool → Hp → Prop) (b : Bool) (s' : Shared) : Prop := ∃ H', Inv X pins σ H' s' ∧ Q b H'
noncomputable def AP (X : Cx) (pins : List (Addr × Obj)) (σ : St) (Q : List V → Hp → Prop) (us : List Value) (s' : Shared) : Prop := ∃ vs H', Inv X pins σ H' s' ∧ Vals vs us ∧ Q vs H'
noncomputable def SP (X : Cx) (pins : List (Addr × Obj)) (D : Ends) (f : Flow) (s' : Shared) : Prop :=
  match f with
  | .next => ∃ σ' H', Inv X pins σ' H' s' ∧ D.nx σ' H'
  | .brk => ∃ σ' H', Inv X pins σ' H' s' ∧ D.bk σ' H'
  | .cont => ∃ σ' H', Inv X pins σ' H' s' ∧ D.ct σ' H'
  | .ret u => ∃ v σ' H', Inv X pins σ' H' s' ∧ RelV v u ∧ D.rt v H'
noncomputable def PE (X : Cx) (e : Expr) (t : TE) : Prop :=
  ∀ (pins : List (Addr × Obj)) (s : Shared) (σ : St) (H : Hp) (Q : VK), Inv X pins σ H s → t σ H Q → wpAny (model X.prog X.w) X.A (eval e X.env) (EP X pins σ Q) X.xe s
noncomputable def PT (X : Cx) (e : Expr) (t : TT) : Prop :=
  ∀ (pins : List (Addr × Obj)) (s : Shared) (σ : St) (H : Hp) (Q : Bool → Hp → Prop), Inv X pins σ H s → t σ H Q → wpAny (model X.prog X.w) X.A (isTrue e X.env (eval e X.env)) (TP X pins σ Q) X.xe s
noncomputable def PW (X : Cx) (e : Expr) (t : TT) : Prop :=
  ∀ (whole : Sem Value) (pins : List (Addr × Obj)) (s : Shared) (σ : St) (H : Hp) (Q : Bool → Hp → Prop), Inv X pins σ H s → t σ H Q → wpAny (model X.prog X.w) X.A (isTrue e X.env whole) (TP X pins σ Q) X.xe s
theorem PW.pt {X : Cx} {e : Expr} {t : TT} (h : PW X e t) : PT X e t := h _
noncomputable def PA (X : Cx) (es : List Expr) (t : TA) : Prop :=
  ∀ (pos : Pos) (pins : List (Addr × Obj)) (s : Shared) (σ : St) (H : Hp) (Q : List V → Hp → Prop), Inv X pins σ H s → t σ H Q → wpAny (model X.prog X.w) X.A (spliced (backTo pos (starEach es X.env))) (AP X pins σ Q) X.xe s
noncomputable def PS (X : Cx) (st : Stmt) (t : TS) : Prop :=
  ∀ (pins : List (Addr × Obj)) (s : Shared) (σ : St) (H : Hp) (D : Ends), Inv X pins σ H s → t D σ H → wpAny (model X.prog X.w) X.A (exec st X.env) (SP X pins D) X.xe s
noncomputable def PSs (X : Cx) (st : List Stmt) (t : TS) : Prop :=
  ∀ (pins : List (Addr × Obj)) (s : Shared) (σ : St) (H : Hp) (D : Ends), Inv X pins σ H s → t D σ H → wpAny (model X.prog X.w) X.A (execs st X.env) (SP X pins D) X.xe s
theorem thn {α : Type} {t : Sem α} {Q Q' : α → Shared → Prop} {M : Model} {A : Around} {E : Value → Shared → Prop} {s : Shared} (h : wpAny M A t Q E s) (hQ : ∀ a s, Q a s → Q' a s) : wpAny M A t Q' E s := wpAny_mono h hQ fun _ _ x => x
end L2
namespace L2
open PySem PySem.Spec PyProof.Rows
section
variable {X : Cx}
noncomputable def tVar (i : Nat) : TE := fun σ H Q => ∃ v, σ[i]? = some (some v) ∧ Q v H
noncomputable def tC (v : V) : TE := fun _ H Q => Q v H
theorem pe_var {i : Nat} {x : Str} {pos : Pos} (hN : X.N[i]? = some x) (hv : Vis X.env.scope x) (hd : (x == ("__debug__" : Str)) = false := by decide) (hcd : (x == ("__classdict__" : Str)) = false := by decide) : PE X (.Name x pos) (tVar i) := by
  intro pins s σ H Q I h
  obtain ⟨v, e, h⟩ := h
  obtain ⟨m, hn, hl⟩ := I.loc
  obtain ⟨u, r, l⟩ := hl i x v hN e hv
  have fin : EP X pins σ Q u s := ⟨v, H, I, r, h⟩
  rcases l with ⟨hk, hm⟩ | ⟨hk, c, hc, hcell⟩
  · exact wpAny_Name (wpAny_loadName_local I.ok.kind hk hn hm fin) hd
  · rcases hk with hk | hk
    · exact wpAny_Name (wpAny_loadName_cell I.ok.kind hk hc hcell fin) hd
    · exact wpAny_Name (wpAny_loadName_free I.ok.kind hk hc hcell fin hcd) hd
theorem pe_int {i j pos} : PE X (.Constant (.int i) j pos) (tC (.int i)) := fun _ _ _ H _ I h => wpAny_Constant_int ⟨.int i, H, I.tok _, ⟨_, rfl⟩, h⟩
theorem pe_bl {b j pos} : PE X (.Constant (.bool b) j pos) (tC (.bl b)) := fun _ _ _ H _ I h => Constant_bool ⟨.bl b, H, I, rfl, h⟩
noncomputable def Gl (X : Cx) (x : Str) : Prop := X.env.kindOf x = some .globalImplicit
theorem ld_glob {E : Value → Shared → Prop} {pins : List (Addr × Obj)} {s : Shared} {σ : St} {H : Hp} {x : Str} {u : Value} {pos : Pos} {Q : Value → Shared → Prop} (I : Inv X pins σ H s) (hg : Gl X x) (hm : X.mg x = some u) (h : Q u s)
    (hd : (x == ("__debug__" : Str)) = false := by decide) : wpAny (model X.prog X.w) X.A (eval (.Name x pos) X.env) Q E s :=
  Calls.Name_function_global I.ok.kind hg (Calls.loadGlobal_global (by rw [I.ok.glob]; exact I.mod.glob.keeps I.bk) hm h) hd
theorem ld_blt {E : Value → Shared → Prop} {pins : List (Addr × Obj)} {s : Shared} {σ : St} {H : Hp} {x : Str} {u : Value} {pos : Pos} {Q : Value → Shared → Prop} (I : Inv X pins σ H s) (hg : Gl X x) (hm : X.mg x = none) (hv : bootBuiltins x = some u) (h : Q u s)
    (hn : x ≠ "__name__" := by decide) (hd : (x == ("__debug__" : Str)) = false := by decide) : wpAny (model X.prog X.w) X.A (eval (.Name x pos) X.env) Q E s := by
  obtain ⟨mb, h1, h2⟩ := I.mod.blt
  exact Calls.Name_function_global I.ok.kind hg (Calls.loadGlobal_builtin (by rw [I.ok.glob]; exact I.mod.glob.keeps I.bk) hm (by rw [I.ok.blt]; exact h1.keeps I.bk) ((h2 x hn).trans hv) h) hd
theorem pe_glob {x : Str} {v : V} {u : Value} {pos : Pos} (hg : Gl X x) (hm : X.mg x = some u) (r : RelV v u) (hd : (x == ("__debug__" : Str)) = false := by decide) : PE X (.Name x pos) (tC v) :=
  fun _ _ _ H _ I h => ld_glob I hg hm ⟨v, H, I, r, h⟩ hd
variable {a b : Expr} {ta tb : TE} {pos : Pos}
noncomputable def PC (X : Cx) (op : CmpOp) (a b : Expr) (t : TE) : Prop :=
  ∀ (pins : List (Addr × Obj)) (s : Shared) (σ : St) (H : Hp) (Q : VK), Inv X pins σ H s → t σ H Q →
    wpAny (model X.prog X.w) X.A (eval a X.env) (fun v s₁ => wpAny (model X.prog X.w) X.A (eval b X.env) (fun u s₂ => wpAny (model X.prog X.w) X.A (compareOp op v u) (EP X pins σ Q) X.xe s₂) X.xe s₁) X.xe s
noncomputable def tB (t : TE) : TT := fun σ H Q => t σ H fun x H1 => ∃ c, x = .bl c ∧ Q c H1
theorem pt_cmp {op : CmpOp} {t : TE} (h : PC X op a b t) (h1 : behindInMarks op b = false := by first | exact nobehind _ (by decide) (by decide) | rfl) : PT X (.Compare a [op] [b] pos) (tB t) := by
  intro pins s σ H Q I hw
  refine wpAny_isTrue_Compare1 (thn (h pins s σ H _ I hw) fun v s1 h1 => thn h1 fun u s2 h2 => thn h2 fun c s3 ⟨x, H1, I1, r1, q1⟩ => ?_) h1
  obtain ⟨d, rfl, q⟩ := q1
  cases r1
  exact wpAny_truthy_bool ⟨H1, I1, q⟩
theorem pt_val {e : Expr} {t : TE} (h : PE X e t) (he : ∀ whole, isTrue e X.env whole = (do let v ← whole; standAt e.pos; holding [v] (truthy v)) := by intro _; rfl) : PT X e (tB t) := by
  intro pins s σ H Q I hw
  refine isTrue_plain (thn (h pins s σ H _ I hw) fun v s1 ⟨x, H1, I1, r1, q1⟩ => ?_) (he _)
  obtain ⟨d, rfl, q⟩ := q1
  cases r1
  exact wpAny_truthy_bool ⟨H1, I1, q⟩
variable {tA tB' : TT} {rest : List Expr}
noncomputable def tOr (t u : TT) : TT := fun σ H Q => t σ H fun c H1 => if c = true then Q true H1 else u σ H1 Q
noncomputable def tNot (t : TT) : TT := fun σ H Q => t σ H fun c H1 => Q (!c) H1
theorem pw_or1 (ha : PT X a tA) : PW X (.BoolOp .Or [a] pos) tA := by
  intro wh pins s σ H Q I h
  refine isTrue_or (thn (ha pins s σ H Q I h) fun c s1 e => ?_)
  cases c with
  | false => exact isTrue_or_nil e
  | true => exact e
theorem pw_or (ha : PT X a tA) (hb : PW X (.BoolOp .Or (b :: rest) pos) tB') : PW X (.BoolOp .Or (a :: b :: rest) pos) (tOr tA tB') := by
  intro wh pins s σ H Q I h
  refine isTrue_or (thn (ha pins s σ H _ I h) fun c s1 ⟨H1, I1, q1⟩ => ?_)
  cases c with
  | true => exact ⟨H1, I1, q1⟩
  | false => exact hb wh pins s1 σ H1 Q I1 q1
theorem pt_not (ha : PT X a tA) : PT X (.UnaryOp .Not a pos) (tNot tA) := by
  intro pins s σ H Q I h
  exact isTrue_not (ha pins s σ H (fun c H1 => Q (!c) H1) I h)
noncomputable def tAndV (ta tb : TE) : TE := fun σ H Q => ta σ H fun x H1 => ∃ c, x = .bl c ∧ if c = true then tb σ H1 Q else Q (.bl false) H1
theorem pe_one {op} {t : TE} (h : PE X a t) : PE X (.BoolOp op [a] pos) t := fun pins s σ H Q I hw => BoolOp_one (h pins s σ H Q I hw)
theorem pe_and (ha : PE X a ta) (hb : PE X (.BoolOp .And (b :: rest) pos) tb) : PE X (.BoolOp .And (a :: b :: rest) pos) (tAndV ta tb) := by
  intro pins s σ H Q I h
  refine BoolOp_and (thn (ha pins s σ H _ I h) fun v s1 ⟨x, H1, I1, r1, q1⟩ => ?_)
  obtain ⟨c, rfl, q1⟩ := q1
  cases r1
  refine wpAny_truthy_bool ?_
  cases c with
  | true => exact hb pins s1 σ H1 Q I1 q1
  | false => exact ⟨.bl false, H1, I1, rfl, q1⟩
noncomputable def tIf (t : TT) (ta tb : TE) : TE := fun σ H Q => t σ H fun c H1 => if c = true then ta σ H1 Q else tb σ H1 Q
theorem pe_ifExp {c : Expr} (hc : PT X c tA) (ha : PE X a ta) (hb : PE X b tb) : PE X (.IfExp c a b pos) (tIf tA ta tb) := by
  intro pins s σ H Q I h
  refine wpAny_IfExp (thn (hc pins s σ H _ I h) fun d s1 ⟨H1, I1, q1⟩ => ?_)
  cases d with
  | true => exact ha pins s1 σ H1 Q I1 q1
  | false => exact hb pins s1 σ H1 Q I1 q1
end
end L2
namespace L2
open PySem PySem.Spec PyProof.Rows
noncomputable def SqL (K : PySem.W.Frag) (H : Hp) (a : Addr) (xs : List V) : Prop :=
  Rd H a (.lst xs) ∨
    ∃ (o : Obj) (its : Array Value) (n : Nat), K.lookup a = some o ∧ o.cls = .type "list" ∧ o.dict = none ∧ o.data = .seq its n ∧ its.size ≤ sizeLine ∧ Vals xs its.toList
noncomputable def SqT (K : PySem.W.Frag) (H : Hp) (a : Addr) (xs : List V) : Prop :=
  Rd H a (.tup xs) ∨
    ∃ (o : Obj) (its : Array Value) (n : Nat), K.lookup a = some o ∧ o.cls = .type "tuple" ∧ o.data = .seq its n ∧ its.size ≤ sizeLine ∧ Vals xs its.toList
noncomputable def absV : Value → Option V
  | .none => some .non
  | .bool b => some (.bl b)
  | .int i _ => some (.int i)
  | .str x _ => some (.str x)
  | .bytes b _ => some (.byt b)
  | .float b _ => some (.flt b)
  | .ref a => some (.ref a)
  | .type n => some (.ty n)
  | _ => none
theorem RelV.abs {x : V} {u : Value} (r : RelV x u) : absV u = some x := by
  cases x with
  | non => cases r; rfl
  | bl _ => cases r; rfl
  | int _ => obtain ⟨t, rfl⟩ := r; rfl
  | str _ => obtain ⟨t, rfl⟩ := r; rfl
  | byt _ => obtain ⟨t, rfl⟩ := r; rfl
  | flt _ => obtain ⟨t, rfl⟩ := r; rfl
  | ref _ => cases r; rfl
  | ty _ => cases r; rfl
theorem RelV.inj {x y : V} {u : Value} (r : RelV x u) (q : RelV y u) : x = y := Option.some.inj (r.abs.symm.trans q.abs)
theorem Vals.inj : ∀ {xs ys : List V} {us : List Value}, Vals xs us → Vals ys us → xs = ys
  | _, _, _, .nil, .nil => rfl
  | _, _, _, .cons r t, .cons r' t' => by rw [r.inj r', Vals.inj t t']
section
variable {X : Cx} {pins : List (Addr × Obj)} {σ : St} {H : Hp} {s : Shared} {a : Addr} {xs ys : List V}
theorem SqL.of {K : PySem.W.Frag} (h : H a = some (.lst xs)) : SqL K H a xs := .inl (.inl h)
theorem SqT.of {K : PySem.W.Frag} (h : H a = some (.tup xs)) : SqT K H a xs := .inl (.inl h)
theorem Inv.list (I : Inv X pins σ H s) (h : SqL X.K H a xs) : ∃ its : List Value, Vals xs its ∧ PlainL s.heap a its.toArray ∧ xs.length ≤ sizeLine := by
  rcases h with h | ⟨o, its, n, hk, hc, hd, hs, hz, r⟩
  · obtain ⟨z, its, n, r, e⟩ := h.ok I.hok
    exact ⟨its, r, ⟨_, n, e, rfl, rfl, rfl⟩, z⟩
  · refine ⟨its.toList, r, ⟨o, n, I.kIn a o hk, hc, hd, by simpa using hs⟩, ?_⟩
    have e := r.length
    simp only [Array.length_toList] at e
    omega
theorem Inv.tuple (I : Inv X pins σ H s) (h : SqT X.K H a xs) : ∃ its : List Value, Vals xs its ∧ IsTup s.heap a its.toArray ∧ xs.length ≤ sizeLine := by
  rcases h with h | ⟨o, its, n, hk, hc, hs, hz, r⟩
  · obtain ⟨z, its, r, p⟩ := h.ok I.hok
    exact ⟨its, r, p, z⟩
  · refine ⟨its.toList, r, ⟨o, I.kIn a o hk, hc, n, by simpa using hs⟩, ?_⟩
    have e := r.length
    simp only [Array.length_toList] at e
    omega
theorem Inv.list_inj (I : Inv X pins σ H s) (h : SqL X.K H a xs) (h' : SqL X.K H a ys) : xs = ys := by
  obtain ⟨its, r, ⟨o, n, e, _, _, d⟩, _⟩ := I.list h
  obtain ⟨its', r', ⟨o', n', e', _, _, d'⟩, _⟩ := I.list h'
  rw [e] at e'; cases e'
  rw [d] at d'
  injection d' with d1 _
  have : its = its' := by simpa using congrArg Array.toList d1
  subst this
  exact r.inj r'
end
noncomputable abbrev Cx.wish (X : Cx) (E : Value → Shared → Prop) : Cx := { X with xe := E }
noncomputable abbrev Cx.nox (X : Cx) : Cx := X.wish fun _ _ => False
theorem Cx.Ok.wish {X : Cx} (ok : X.Ok) (E : Value → Shared → Prop) : (X.wish E).Ok :=
  ⟨ok.mod, ok.kind, ok.glob, ok.blt, ok.above, ok.inj, ok.has, ok.cab, ok.hd, ok.frames, ok.stk, ok.exf, ok.bs, ok.bsz, ok.noex, ok.exfs, ok.funs, ok.frf⟩
theorem Cx.Ok.unwish {X : Cx} {E : Value → Shared → Prop} (ok : (X.wish E).Ok) : X.Ok :=
  ⟨ok.mod, ok.kind, ok.glob, ok.blt, ok.above, ok.inj, ok.has, ok.cab, ok.hd, ok.frames, ok.stk, ok.exf, ok.bs, ok.bsz, ok.noex, ok.exfs, ok.funs, ok.frf⟩
section
variable {X : Cx} {pins : List (Addr × Obj)} {σ : St} {H : Hp} {s : Shared} {E : Value → Shared → Prop}
theorem Inv.wish (I : Inv X pins σ H s) (E : Value → Shared → Prop) : Inv (X.wish E) pins σ H s := ⟨I.ok.wish E, I.os, I.bare, I.base, I.loc, I.cell, I.free, I.freeC, I.pin, I.hok, I.len⟩
theorem Inv.unwish (I : Inv (X.wish E) pins σ H s) : Inv X pins σ H s := ⟨I.ok.unwish, I.os, I.bare, I.base, I.loc, I.cell, I.free, I.freeC, I.pin, I.hok, I.len⟩
theorem SP.unwish {D : Ends} {f : Flow} {s' : Shared} (h : SP (X.wish E) pins D f s') : SP X pins D f s' := by
  cases f with
  | next => obtain ⟨σ', H', I, q⟩ := h; exact ⟨σ', H', I.unwish, q⟩
  | brk => obtain ⟨σ', H', I, q⟩ := h; exact ⟨σ', H', I.unwish, q⟩
  | cont => obtain ⟨σ', H', I, q⟩ := h; exact ⟨σ', H', I.unwish, q⟩
  | ret u => obtain ⟨v, σ', H', I, r, q⟩ := h; exact ⟨v, σ', H', I.unwish, r, q⟩
theorem PSs.nox {st : List Stmt} {t : TS} (h : PSs X.nox st t) : PSs X st t := fun pins s σ H D I hw =>
  wpAny_mono (h pins s σ H D (I.wish _) hw) (fun _ _ q => q.unwish) fun _ _ z => False.elim z
end
section
variable {X : Cx} {st : Stmt} {rest : List Stmt} {t u : TS} {e : Expr} {te : TE} {pos : Pos}
noncomputable def tNext : TS := fun D σ H => D.nx σ H
noncomputable def tSeq (t u : TS) : TS := fun D σ H => t { D with nx := u D } σ H
theorem pss_nil : PSs X [] tNext := fun _ _ σ H _ I h => wpAny_execs_nil ⟨σ, H, I, h⟩
theorem pss_cons (h1 : PS X st t) (h2 : PSs X rest u) : PSs X (st :: rest) (tSeq t u) := by
  intro pins s σ H D I h
  refine wpAny_execs_cons (thn (h1 pins s σ H { D with nx := u D } I h) fun f s1 q => ?_)
  cases f with
  | next =>
    obtain ⟨σ', H', I', q⟩ := q
    exact h2 pins s1 σ' H' D I' q
  | ret v => exact q
  | brk => exact q
  | cont => exact q
theorem pss_one (h1 : PS X st t) : PSs X [st] t := by
  intro pins s σ H D I h
  refine wpAny_execs_cons (thn (h1 pins s σ H D I h) fun f s1 q => ?_)
  cases f with
  | next => exact wpAny_execs_nil q
  | ret v => exact q
  | brk => exact q
  | cont => exact q
theorem Inv.quiet {pins : List (Addr × Obj)} {σ : St} {H : Hp} {s : Shared} (I : Inv X pins σ H s) : interactive X.env = false := by simp [interactive, I.ok.kind]
noncomputable def tDrop (te : TE) : TS := fun D σ H => te σ H fun _ H1 => D.nx σ H1
theorem ps_expr (he : PE X e te) (hs : swapsWith e none pos.line X.env = pure false := by rfl) : PS X (.Expr e pos) (tDrop te) := by
  intro pins s σ H D I h
  exact wpAny_Expr_any (thn (he pins s σ H _ I h) fun v s1 ⟨x, H1, I1, r1, q1⟩ => ⟨σ, H1, I1, q1⟩) I.quiet hs
noncomputable def tRet (te : TE) : TS := fun D σ H => te σ H D.rt
theorem ps_ret (he : PE X e te) : PS X (.Return (some e) pos) (tRet te) := by
  intro pins s σ H D I h
  exact wpAny_Return_some (thn (he pins s σ H _ I h) fun v s1 ⟨x, H1, I1, r1, q1⟩ => ⟨x, σ, H1, I1, r1, q1⟩)
noncomputable def tIfS (c : TT) (t u : TS) : TS := fun D σ H => c σ H fun b H1 => if b = true then t D σ H1 else u D σ H1
theorem ps_if {c : Expr} {a b : List Stmt} {tc : TT} (hc : PT X c tc) (ha : PSs X a t) (hb : PSs X b u) : PS X (.If c a b pos) (tIfS tc t u) := by
  intro pins s σ H D I h
  refine wpAny_If (thn (hc pins s σ H _ I h) fun d s1 ⟨H1, I1, q1⟩ => ?_)
  cases d with
  | true => exact ha pins s1 σ H1 D I1 q1
  | false => exact hb pins s1 σ H1 D I1 q1
end
noncomputable abbrev TG := V → St → Hp → (St → Hp → Prop) → Prop
noncomputable def PG (X : Cx) (target : Expr) (t : TG) : Prop :=
  ∀ (pins : List (Addr × Obj)) (s : Shared) (σ : St) (H : Hp) (v : V) (u : Value) (Q : St → Hp → Prop), Inv X pins σ H s → RelV v u → t v σ H Q →
    wpAny (model X.prog X.w) X.A (assign target X.env u) (fun _ s' => ∃ σ' H', Inv X pins σ' H' s' ∧ Q σ' H') X.xe s
noncomputable abbrev TIp := V → V → Hp → VK → Prop
noncomputable def PIp (X : Cx) (op : Operator) (t : TIp) : Prop :=
  ∀ (pins : List (Addr × Obj)) (s : Shared) (σ : St) (H : Hp) (x y : V) (v u : Value) (Q : VK), Inv X pins σ H s → RelV x v → RelV y u → t x y H Q →
    wpAny (model X.prog X.w) X.A (inplaceOp op v u) (EP X pins σ Q) X.xe s
section
variable {X : Cx} {pos : Pos}
noncomputable def gName (i : Nat) : TG := fun v σ H Q => Q (σ.set i (some v)) H
theorem pg_name {i : Nat} {x : Str} (hN : X.N.Nodup) (hi : X.N[i]? = some x) (hx : Loc X.env.scope x) (hf : X.fn x = true ∨ X.env.scope.names.lookup x = some .local := by first | exact .inl rfl | exact .inr rfl | assumption) : PG X (.Name x pos) (gName i) := by
  intro pins s σ H v u Q I r h
  exact wpAny_assign_Name (store_ok I hN hi hx r (fun s' I' => ⟨_, H, I', h⟩) hf)
noncomputable def tAsg (te : TE) (g : TG) : TS := fun D σ H => te σ H fun x H1 => g x σ H1 D.nx
theorem ps_set {i : Nat} {x : Str} {e : Expr} {te : TE} {pos' : Pos} (hN : X.N.Nodup) (hi : X.N[i]? = some x) (hx : Loc X.env.scope x) (he : PE X e te) (hs : swapsWith e (some (.Name x pos')) pos.line X.env = pure false := by rfl) (hf : X.fn x = true ∨ X.env.scope.names.lookup x = some .local := by first | exact .inl rfl | exact .inr rfl | assumption) :
    PS X (.Assign [.Name x pos'] e pos) (tAsg te (gName i)) := by
  intro pins s σ H D I h
  refine wpAny_Assign_Name (thn (he pins s σ H _ I h) fun v s1 ⟨y, H1, I1, r1, q1⟩ => ?_) hs
  exact store_ok I1 hN hi hx r1 (fun s2 I2 => ⟨_, H1, I2, q1⟩) hf
noncomputable def tAug (i : Nat) (te : TE) (ti : TIp) : TS := fun D σ H => ∃ x, σ[i]? = some (some x) ∧ te σ H fun y H1 => ti x y H1 fun z H2 => D.nx (σ.set i (some z)) H2
theorem ps_aug {i : Nat} {x : Str} {e : Expr} {te : TE} {op : Operator} {ti : TIp} {pos' : Pos} (hN : X.N.Nodup) (hi : X.N[i]? = some x) (hx : Loc X.env.scope x) (he : PE X e te) (ho : PIp X op ti) (hf : X.fn x = true ∨ X.env.scope.names.lookup x = some .local := by first | exact .inl rfl | exact .inr rfl | assumption) :
    PS X (.AugAssign (.Name x pos') op e pos) (tAug i te ti) := by
  intro pins s σ H D I h
  obtain ⟨v, e1, h⟩ := h
  obtain ⟨m, hn, hl⟩ := I.loc
  have vis : Vis X.env.scope x := by rcases hx with k | k; exact .inl k; exact .inr (.inl k)
  obtain ⟨u, r, l⟩ := hl i x v hi e1 vis
  refine wpAny_AugAssign_Name ?_
  have go : wpAny (model X.prog X.w) X.A (eval e X.env) (fun w s₂ => wpAny (model X.prog X.w) X.A (inplaceOp op u w) (fun r s₃ => wpAny (model X.prog X.w) X.A (storeName X.env x r) (fun _ => SP X pins D .next) X.xe s₃) X.xe s₂) X.xe s := by
    refine thn (he pins s σ H _ I h) fun w s1 ⟨y, H1, I1, r1, q1⟩ => ?_
    refine thn (ho pins s1 σ H1 v y u w _ I1 r r1 q1) fun z s2 ⟨zv, H2, I2, r2, q2⟩ => ?_
    exact store_ok I2 hN hi hx r2 (fun s3 I3 => ⟨_, H2, I3, q2⟩) hf
  rcases l with ⟨hk, hm⟩ | ⟨hk, c, hc, hcell⟩
  · exact wpAny_loadName_local I.ok.kind hk hn hm go
  · rcases hk with hk | hk
    · exact wpAny_loadName_cell I.ok.kind hk hc hcell go
    · rcases hx with k | k
      · have : X.env.scope.names.lookup x = some .free := hk
        rw [k] at this; cases this
      · have : X.env.scope.names.lookup x = some .free := hk
        rw [k] at this; cases this
noncomputable def ipI (f : Int → Int → Int) : TIp := fun x y H Q => ∃ i j, x = .int i ∧ y = .int j ∧ Q (.int (f i j)) H
theorem ip_add : PIp X .Add (ipI fun i j => i + j) := by
  intro pins s σ H x y v u Q I r1 r2 h
  obtain ⟨i, j, e1, e2, q⟩ := h
  subst e1; subst e2
  obtain ⟨t, rfl⟩ := r1
  obtain ⟨t', rfl⟩ := r2
  exact iadd_int ⟨.int _, H, I.tok _, ⟨_, rfl⟩, q⟩
end
section
variable {X : Cx} {pos : Pos}
noncomputable def tWhile (c : TT) (tb : TS) : TS := fun D σ H => ∃ W : Nat → St → Hp → Prop, (∃ m, W m σ H) ∧ ∀ m σ H, W m σ H →
  c σ H fun b H1 => if b = true then ∃ N : St → Hp → Prop, (∀ σ' H', N σ' H' → ∃ m', m' < m ∧ W m' σ' H') ∧ tb { D with nx := N, ct := N, bk := D.nx } σ H1 else D.nx σ H1
theorem ps_while {c : Expr} {body : List Stmt} {tc : TT} {tb : TS} (hp : PassesOwn (model X.prog X.w) X.A X.env X.xe) (hc : PT X c tc) (hb : PSs X body tb) : PS X (.While c body [] pos) (tWhile tc tb) := by
  intro pins s σ H D I h
  obtain ⟨W, ⟨m0, w0⟩, turn⟩ := h
  refine wpAny_While (codeAny_whileLoop (fun n s' => ∃ σ' H', Inv X pins σ' H' s' ∧ W n σ' H') ?_ m0 ⟨σ, H, I, w0⟩)
  rintro n s1 ⟨σ1, H1, I1, w1⟩
  refine wpAny_passesOwn hp (thn (hc pins s1 σ1 H1 _ I1 (turn n σ1 H1 w1)) fun b s2 ⟨H2, I2, q2⟩ => ?_)
  cases b with
  | true =>
    obtain ⟨N, hN, q2⟩ := q2
    rw [if_pos rfl]
    refine wpAny_passesOwn hp (thn (hb pins s2 σ1 H2 _ I2 q2) fun f s3 q3 => ?_)
    cases f with
    | next =>
      obtain ⟨σ3, H3, I3, n3⟩ := q3
      obtain ⟨m', hm, w3⟩ := hN σ3 H3 n3
      exact ⟨m', hm, σ3, H3, I3, w3⟩
    | cont =>
      obtain ⟨σ3, H3, I3, n3⟩ := q3
      obtain ⟨m', hm, w3⟩ := hN σ3 H3 n3
      exact ⟨m', hm, σ3, H3, I3, w3⟩
    | brk => exact q3
    | ret v => exact q3
  | false =>
    rw [if_neg Bool.false_ne_true]
    exact wpAny_execs_nil ⟨σ1, H2, I2, q2⟩
end
structure It where
  go : Nat → Hp → Prop
  yld : Nat → Hp → V → Hp → Prop
  stop : Nat → Hp → Prop
noncomputable def FpOk (X : Cx) (pins : List (Addr × Obj)) (H : Hp) (b : Addr) : Prop :=
  H b = none ∧ b ≠ X.env.locals ∧ b ∉ X.fs ∧ (b ∈ X.ex ∨ X.s_0.heap.objs.size ≤ b) ∧ (∀ x c, X.env.cells.lookup x = some c → c ≠ b) ∧ ∀ p ∈ X.pn ++ pins, p.1 ≠ b
theorem Inv.fpOk {X : Cx} {pins : List (Addr × Obj)} {σ : St} {H H' : Hp} {s : Shared} {b : Addr} (I : Inv X pins σ H s) (hb : s.heap.objs.size ≤ b) (hn : H' b = none) : FpOk X pins H' b := by
  refine ⟨hn, Nat.ne_of_gt (Nat.lt_of_lt_of_le I.lt hb), I.nofs hb, .inr (Nat.le_trans I.sz hb), fun x c e z => ?_, fun p hp z => ?_⟩
  · obtain ⟨v, q⟩ := I.cell x c e
    exact absurd (Nat.lt_of_lt_of_le q.lt (by rw [z]; exact hb)) (Nat.lt_irrefl _)
  · exact absurd (Nat.lt_of_lt_of_le (Heap.lt_size (I.pin p hp).1) (by rw [z]; exact hb)) (Nat.lt_irrefl _)
structure Turn (P : Program) (w : World) (K : PySem.W.Frag) (tg : Expr) (J : It) (fp : List Addr) (it : Addr) (tn : Nat → Heap → Prop) : Prop where
  mem : it ∈ fp
  obj : ∀ i h, tn i h → ∀ b ∈ fp, ∃ o, h.get? b = some o ∧ ∀ v, o.data ≠ .cell v
  keep : ∀ i h h', tn i h → (∀ b ∈ fp, ∀ o, h.get? b = some o → h'.get? b = some o) → tn i h'
  item : ∀ (X : Cx), X.prog = P → X.w = w → X.K = K → X.calm = true → ∀ (i : Nat) (pins : List (Addr × Obj)) (s : Shared) (σ : St) (H : Hp) (E : Value → Shared → Prop), Inv X pins σ H s → (∀ b ∈ fp, FpOk X pins H b) → tn i s.heap → J.go i H →
    wpAny (model P w) X.A (pyNext (.ref it)) (fun r s1 => ∃ u, r = some u ∧
      wpAny (model P w) X.A (letOwnedTupleGo tg (.ref it) u) (fun _ s2 => ∃ x H', Inv X pins σ H' s2 ∧ RelV x u ∧ J.yld i H x H' ∧ tn (i + 1) s2.heap ∧ ∀ b ∈ fp, H' b = none) E s1) E s
  done : ∀ (X : Cx), X.prog = P → X.w = w → X.K = K → X.calm = true → ∀ (i : Nat) (pins : List (Addr × Obj)) (s : Shared) (σ : St) (H : Hp) (E : Value → Shared → Prop), Inv X pins σ H s → (∀ b ∈ fp, FpOk X pins H b) → tn i s.heap → J.stop i H →
    wpAny (model P w) X.A (pyNext (.ref it)) (fun r s1 => r = none ∧ Inv X pins σ H s1) E s
  self : ∀ (A : Around) (i : Nat) (s : Shared) (Q : Value → Shared → Prop) (E : Value → Shared → Prop), tn i s.heap → Q (.ref it) s → wpAny (model P w) A (pyIter (.ref it)) Q E s
noncomputable abbrev TI := St → Hp → (It → Hp → Prop) → Prop
noncomputable def PIE (X : Cx) (pins : List (Addr × Obj)) (σ : St) (tg : Expr) (R : It → Hp → Prop) (itv : Value) (s2 : Shared) : Prop :=
  ∃ (it : Addr) (fp : List Addr) (tn : Nat → Heap → Prop) (J : It) (H' : Hp), itv = .ref it ∧ Inv X pins σ H' s2 ∧ Turn X.prog X.w X.K tg J fp it tn ∧ tn 0 s2.heap ∧ (∀ b ∈ fp, FpOk X pins H' b) ∧ R J H'
noncomputable def PI (X : Cx) (tg iter : Expr) (wi : TI) : Prop :=
  ∀ (pins : List (Addr × Obj)) (s : Shared) (σ : St) (H : Hp) (R : It → Hp → Prop), Inv X pins σ H s → wi σ H R →
    wpAny (model X.prog X.w) X.A (eval iter X.env) (fun v s1 => wpAny (model X.prog X.w) X.A (pyIter v) (PIE X pins σ tg R) X.xe s1) X.xe s
theorem go_of {M : Model} {A : Around} {E : Value → Shared → Prop} {s : Shared} {tg : Expr} {it : Addr} {u : Value} {o : Obj} {n : String} {vs : Array Value} {Q : Unit → Shared → Prop} (ho : s.heap.get? it = some o) (hc : o.cls = .type n) (hd : o.data = .fields vs)
    (hn : ["enumerate", "zip", "dict_itemiterator", "dict_reverseitemiterator", "odict_iterator", "itertools.zip_longest", "itertools.pairwise"].contains n = false) (hQ : Q () s) : wpAny M A (letOwnedTupleGo tg (.ref it) u) Q E s := by
  unfold letOwnedTupleGo
  cases tg <;> first
    | exact wpAny_pure hQ
    | (cases u <;> first
        | exact wpAny_pure hQ
        | (refine wpAny_bind (wpAny_load ho ?_)
           rw [hc, hd]
           show wpAny M A (if (["enumerate", "zip", "dict_itemiterator", "dict_reverseitemiterator", "odict_iterator", "itertools.zip_longest", "itertools.pairwise"].contains n && vs[0]? == some (rawInt _)) = true then _ else _) Q E s
           rw [if_neg (by intro h; rw [hn, Bool.false_and] at h; cases h)]
           exact wpAny_pure hQ))
noncomputable def Itl (K : PySem.W.Frag) (a : Addr) : It :=
  ⟨fun i H => ∃ xs x, SqL K H a xs ∧ xs[i]? = some x, fun i H x H' => H' = H ∧ ∀ xs, SqL K H a xs → xs[i]? = some x, fun i H => ∃ xs, SqL K H a xs ∧ xs.length ≤ i⟩
noncomputable def Itr (lo : Int) (n : Nat) : It := ⟨fun i _ => i < n, fun i H x H' => H' = H ∧ x = .int (lo + i), fun i _ => n ≤ i⟩
theorem turn_list {P : Program} {w : World} {K : PySem.W.Frag} {tg : Expr} (a it : Addr) : Turn P w K tg (Itl K a) [it] it (fun i h => h.IsListIter it a i) where
  mem := by simp
  obj := fun i h st b hb => by
    have e : b = it := by simpa using hb
    subst e
    obtain ⟨o, e, c, d⟩ := st
    exact ⟨o, e, fun v z => by rw [d] at z; cases z⟩
  keep := fun i h h' st k => st.at fun o e => k it (by simp) o e
  item := by
    intro X hP hw hK hc i pins s σ H E I hf st hg
    subst hP hw hK
    obtain ⟨xs, x, hq, hx⟩ := hg
    obtain ⟨its, rv, p, hz⟩ := I.list hq
    obtain ⟨u, hu, ru⟩ := rv.get hx
    obtain ⟨f0, f1, f2, f3, f4, f5⟩ := hf it (by simp)
    refine wpAny_pyNext_list_item st p.isList (x := u) (by simpa using hu) fun h' st' sb => ?_
    have I1 : Inv X pins σ H { s with heap := h' } := I.turned (t' := s.toks) (fun b o hb e => (sb.2 b hb).trans e) f0 f1 f3 f4 f5
    obtain ⟨o, e, c, d⟩ := id st'
    exact ⟨u, rfl, go_of (s := { s with heap := h' }) e c d (by decide) ⟨x, H, I1, ru, ⟨rfl, fun ys hy => by rw [I.list_inj hy hq]; exact hx⟩, st', fun b hb => (hf b hb).1⟩⟩
  done := by
    intro X hP hw hK hc i pins s σ H E I hf st hg
    subst hP hw hK
    obtain ⟨xs, hq, hx⟩ := hg
    obtain ⟨its, rv, p, hz⟩ := I.list hq
    obtain ⟨f0, f1, f2, f3, f4, f5⟩ := hf it (by simp)
    have hl := rv.length
    exact wpAny_pyNext_list_end (I.ok.hd hc) st p.isList (by simp; omega) fun h' eb => ⟨rfl, I.turned (t' := s.toks) (fun b o hb e => eb b o hb e) f0 f1 f3 f4 f5⟩
  self := fun _ _ _ _ _ st h => wpAny_pyIter_listiter st h
theorem turn_range {P : Program} {w : World} {K : PySem.W.Frag} {tg : Expr} (it : Addr) (lo : Int) (n : Nat) : Turn P w K tg (Itr lo n) [it] it (fun i h => IsRangeIter h it (lo + (i : Nat) * 1) ((n : Int) - (i : Nat)) 1) where
  mem := by simp
  obj := fun i h st b hb => by
    have e : b = it := by simpa using hb
    subst e
    exact ⟨_, st, fun v z => by
      have z' : Data.fields _ = Data.cell v := z
      cases z'⟩
  keep := fun i h h' st k => k it (by simp) _ st
  item := by
    intro X hP hw hK hc i pins s σ H E I hf st hg
    subst hP hw hK
    obtain ⟨f0, f1, f2, f3, f4, f5⟩ := hf it (by simp)
    have W := Walks.range (prog := X.prog) (w := X.w) (I.ok.hd hc) it lo 1 n
    refine W.item i s _ _ hg st fun v h' tk hv st' kk => ?_
    obtain ⟨t, rfl⟩ := hv
    have I1 : Inv X pins σ H { s with heap := h', toks := tk } := I.turned (fun b o hb e => kk b o (by simpa using hb) e) f0 f1 f3 f4 f5
    refine ⟨_, rfl, go_of (s := { s with heap := h', toks := tk }) (n := "range_iterator") st' rfl rfl (by decide) ⟨.int (lo + i), H, I1, ⟨t, ?_⟩, ⟨rfl, rfl⟩, st', fun b hb => (hf b hb).1⟩⟩
    rw [Int.mul_one]
  done := by
    intro X hP hw hK hc i pins s σ H E I hf st hg
    subst hP hw hK
    obtain ⟨f0, f1, f2, f3, f4, f5⟩ := hf it (by simp)
    exact wpAny_pyNext_range_end (I.ok.hd hc) st (by have : n ≤ i := hg; omega) fun h' eb => ⟨rfl, I.turned (t' := s.toks) (fun b o hb e => eb b o hb e) f0 f1 f3 f4 f5⟩
  self := fun _ _ _ _ _ st h => wpAny_pyIter_rangeiter st h
end L2
namespace L2
open PySem PySem.Spec PyProof.Rows
section
variable {X : Cx} {tg : Expr}
noncomputable def iList (K : PySem.W.Frag) (tl : TE) : TI := fun σ H R => tl σ H fun x H1 => ∃ a, x = .ref a ∧ (∃ xs, SqL K H1 a xs) ∧ R (Itl K a) H1
theorem pi_list {l : Expr} {tl : TE} (hl : PE X l tl) : PI X tg l (iList X.K tl) := by
  intro pins s σ H R I h
  refine thn (hl pins s σ H _ I h) fun v s1 ⟨x, H1, I1, r1, q1⟩ => ?_
  obtain ⟨a, e, ⟨xs, hq⟩, q⟩ := q1
  subst e
  cases r1
  obtain ⟨its, rv, p, hz⟩ := I1.list hq
  refine wpAny_pyIter_list p.isList ?_
  refine ⟨s1.heap.objs.size, [s1.heap.objs.size], _, _, H1, rfl, I1.kept (t' := s1.toks) fun b o e => Heap.get?_push_of_some _ e, turn_list a _, ⟨_, Heap.get?_push_size _ rfl, rfl, rfl⟩, fun b hb => ?_, q⟩
  have e : b = s1.heap.objs.size := by simpa using hb
  subst e
  exact I1.fpOk (Nat.le_refl _) (I1.hok.fresh (Nat.le_refl _))
theorem range_it {pins : List (Addr × Obj)} {σ : St} {H : Hp} {s : Shared} {R : It → Hp → Prop} {E : Value → Shared → Prop} {lo hi : Int} {t u v : Tok} {tk : Nat} (I : Inv X pins σ H s) (h1 : -(2 ^ 62) ≤ lo) (h2 : lo < 2 ^ 62) (h3 : -(2 ^ 62) ≤ hi) (h4 : hi < 2 ^ 62)
    (q : R (Itr lo (hi - lo).toNat) H) : wpAny (model X.prog X.w) X.A (pyIter (.ref s.heap.objs.size)) (PIE X pins σ tg R) E { s with heap := s.heap.push { cls := .type "range", data := .fields #[.int lo t, .int hi u, .int 1 v] }, toks := tk } := by
  refine wpAny_pyIter_range (IsRange.new ..) (small_one h1 h2 h3 h4) ?_
  have I1 : Inv X pins σ H { s with heap := s.heap.push { cls := .type "range", data := .fields #[.int lo t, .int hi u, .int 1 v] }, toks := tk } := I.kept fun b o e => Heap.get?_push_of_some _ e
  refine ⟨(s.heap.push { cls := .type "range", data := .fields #[.int lo t, .int hi u, .int 1 v] }).objs.size, [(s.heap.push { cls := .type "range", data := .fields #[.int lo t, .int hi u, .int 1 v] }).objs.size], _, _, H, rfl,
    I1.kept (t' := tk) fun b o e => Heap.get?_push_of_some _ e, turn_range _ lo (hi - lo).toNat, ?_, fun b hb => ?_, q⟩
  · have e1 : lo + ((0 : Nat) : Int) * 1 = lo := by simp
    have e2 : (((hi - lo).toNat : Nat) : Int) - ((0 : Nat) : Int) = Builtin.Range.rangeSize lo hi 1 := by rw [rangeSize_one]; split <;> omega
    show IsRangeIter _ _ (lo + ((0 : Nat) : Int) * 1) ((((hi - lo).toNat : Nat) : Int) - ((0 : Nat) : Int)) 1
    rw [e1, e2]
    exact Heap.get?_push_size _ rfl
  · have e : b = (s.heap.push { cls := .type "range", data := .fields #[.int lo t, .int hi u, .int 1 v] }).objs.size := by simpa using hb
    subst e
    exact I1.fpOk (Nat.le_refl _) (I1.hok.fresh (Nat.le_refl _))
noncomputable def iRng1 (ta : TA) : TI := fun σ H R => ta σ H fun vs H1 => ∃ j : Int, vs = [.int j] ∧ -(2 ^ 62) ≤ j ∧ j < 2 ^ 62 ∧ R (Itr 0 j.toNat) H1
theorem pi_range1 {a : Expr} {ta : TA} {p pos : Pos} (hg : Gl X "range") (hm : X.mg "range" = none) (ha : PA X [a] ta) (hs : starEach [a] X.env = [(false, eval a X.env)] := by rfl) : PI X tg (.Call (.Name "range" p) [a] [] pos) (iRng1 ta) := by
  intro pins s σ H R I h
  refine Call_ (ld_blt I hg hm boot_range (PyProof.Rows.callWith_type1 (thn (ha pos pins s σ H _ I h) fun us s1 ⟨vs, H1, I1, r1, q1⟩ => ?_) hs rfl))
  obtain ⟨j, e, q1, q2, q⟩ := q1
  subst e
  cases r1 with
  | cons r rr =>
    cases rr
    obtain ⟨t, rfl⟩ := r
    exact call_range_1 (range_it I1 (by omega) (by omega) q1 q2 (by simpa using q))
noncomputable def tFor (wi : TI) (g : TG) (tb : TS) : TS := fun D σ H => wi σ H fun J H1 => ∃ W : Nat → Nat → St → Hp → Prop, (∃ m, W 0 m σ H1) ∧ ∀ i m σ H, W i m σ H →
  (J.stop i H ∧ D.nx σ H) ∨ (J.go i H ∧ ∃ N : St → Hp → Prop, (∀ σ' H', N σ' H' → ∃ m', m' < m ∧ W (i + 1) m' σ' H') ∧ ∀ x H', J.yld i H x H' → g x σ H' fun σ2 H2 => tb { D with nx := N, ct := N, bk := D.nx } σ2 H2)
noncomputable def pinsAt (fp : List Addr) (h : Heap) : List (Addr × Obj) := fp.filterMap fun b => (h.get? b).map fun o => (b, o)
theorem mem_pinsAt {fp : List Addr} {h : Heap} {b : Addr} {o : Obj} (hb : b ∈ fp) (e : h.get? b = some o) : (b, o) ∈ pinsAt fp h := List.mem_filterMap.mpr ⟨b, hb, by rw [e]; rfl⟩
theorem of_pinsAt {fp : List Addr} {h : Heap} {p : Addr × Obj} (hp : p ∈ pinsAt fp h) : p.1 ∈ fp ∧ h.get? p.1 = some p.2 := by
  obtain ⟨b, hb, e⟩ := List.mem_filterMap.mp hp
  cases q : h.get? b with
  | none => rw [q] at e; cases e
  | some o =>
    rw [q] at e
    have e' : (b, o) = p := Option.some.inj e
    subst e'
    exact ⟨hb, q⟩
theorem Inv.pinned {pins : List (Addr × Obj)} {σ : St} {H : Hp} {s : Shared} {fp : List Addr} (I : Inv X pins σ H s) (hf : ∀ b ∈ fp, FpOk X pins H b) (ho : ∀ b ∈ fp, ∃ o, s.heap.get? b = some o ∧ ∀ v, o.data ≠ .cell v) : Inv X (pins ++ pinsAt fp s.heap) σ H s :=
  I.pins_of fun p hp => (List.mem_append.mp hp).elim (fun z => I.pin p (List.mem_append_right _ z)) fun z => by
    obtain ⟨hb, e⟩ := of_pinsAt z
    obtain ⟨f0, f1, f2, _⟩ := hf p.1 hb
    obtain ⟨o, e', d⟩ := ho p.1 hb
    rw [e] at e'; cases e'
    exact ⟨e, f0, f1, f2, d⟩
theorem Inv.unpinned {pins pl : List (Addr × Obj)} {σ : St} {H : Hp} {s : Shared} (I : Inv X (pins ++ pl) σ H s) : Inv X pins σ H s := I.pins_of fun p hp => I.pin p (List.mem_append_right _ (List.mem_append_left _ hp))
theorem ps_for {iter : Expr} {body : List Stmt} {wi : TI} {g : TG} {tb : TS} {pos : Pos} (hp : PassesOwn (model X.prog X.w) X.A X.env X.xe) (hc : X.calm = true) (hi : PI X tg iter wi) (hg : PG X tg g) (hb : PSs X body tb)
    (hs : ∀ x, foldedSetIterable iter X.env x = pure x := by intro _; rfl) : PS X (.For tg iter body [] pos) (tFor wi g tb) := by
  intro pins s σ H D I h
  refine wpAny_For (thn (hi pins s σ H _ I h) fun v s1 h1 => thn h1 fun itv s2 h2 => ?_) hs
  obtain ⟨it, fp, tn, J, H2, e, I2, T, st2, f2, W, ⟨m0, w0⟩, turn⟩ := h2
  subst e
  -- what stays true of the iterator's objects through the loop
  have stat : ∀ {H' : Hp}, (∀ b ∈ fp, H' b = none) → ∀ b ∈ fp, FpOk X pins H' b := fun hn b hb => ⟨hn b hb, (f2 b hb).2⟩
  refine codeAny_forLoop_any (fun n s' => ∃ i σ' H', Inv X pins σ' H' s' ∧ tn i s'.heap ∧ (∀ b ∈ fp, H' b = none) ∧ W i n σ' H') ?_ m0 ⟨0, σ, H2, I2, st2, fun b hb => (f2 b hb).1, w0⟩
  rintro n s3 ⟨i, σ3, H3, I3, st3, fr3, w3⟩
  rcases turn i n σ3 H3 w3 with ⟨stop, qn⟩ | ⟨go, N, hN, step⟩
  · refine wpAny_passesOwn hp (thn (T.done X rfl rfl rfl hc i pins s3 σ3 H3 X.xe I3 (stat fr3) st3 stop) fun r s4 ⟨hr, I4⟩ => ?_)
    subst hr
    exact wpAny_execs_nil ⟨σ3, H3, I4, qn⟩
  · refine wpAny_passesOwn hp (thn (T.item X rfl rfl rfl hc i pins s3 σ3 H3 X.xe I3 (stat fr3) st3 go) fun r s4 ⟨u, hr, h4⟩ => ?_)
    subst hr
    refine wpAny_passesOwn hp (thn h4 fun _ s5 ⟨x, H5, I5, r5, y5, st5, fr5⟩ => ?_)
    have I5' := I5.pinned (stat fr5) (T.obj _ _ st5)
    refine wpAny_passesOwn hp (thn (hg _ s5 σ3 H5 x u _ I5' r5 (step x H5 y5)) fun _ s6 ⟨σ6, H6, I6, q6⟩ => ?_)
    refine wpAny_passesOwn hp (thn (hb _ s6 σ6 H6 _ I6 q6) fun f s7 q7 => ?_)
    have again : ∀ {σ7 : St} {H7 : Hp}, Inv X (pins ++ pinsAt fp s5.heap) σ7 H7 s7 → N σ7 H7 → ∃ m, m < n ∧ ∃ i σ' H', Inv X pins σ' H' s7 ∧ tn i s7.heap ∧ (∀ b ∈ fp, H' b = none) ∧ W i m σ' H' := fun {σ7 H7} I7 n7 => by
      obtain ⟨m', hm, w7⟩ := hN σ7 H7 n7
      refine ⟨m', hm, i + 1, σ7, H7, I7.unpinned, T.keep _ _ _ st5 fun b hb o e => (I7.pin (b, o) (List.mem_append_right _ (List.mem_append_right _ (mem_pinsAt hb e)))).1, fun b hb => ?_, w7⟩
      obtain ⟨o, e, d⟩ := T.obj _ _ st5 b hb
      exact (I7.pin (b, o) (List.mem_append_right _ (List.mem_append_right _ (mem_pinsAt hb e)))).2.1
    cases f with
    | next => obtain ⟨σ7, H7, I7, n7⟩ := q7; exact again I7 n7
    | cont => obtain ⟨σ7, H7, I7, n7⟩ := q7; exact again I7 n7
    | brk => obtain ⟨σ7, H7, I7, q7⟩ := q7; exact ⟨σ7, H7, I7.unpinned, q7⟩
    | ret v => obtain ⟨x7, σ7, H7, I7, r7, q7⟩ := q7; exact ⟨x7, σ7, H7, I7.unpinned, r7, q7⟩
end
theorem for_list {K : PySem.W.Frag} {a : Addr} {xs : List V} {g : TG} {tb : TS} {D : Ends} {σ : St} {H : Hp} (Pv : Nat → St → Hp → Prop) (h0 : Pv 0 σ H) (hl : ∀ i σ H, i ≤ xs.length → Pv i σ H → SqL K H a xs)
    (hs : ∀ i x σ H, xs[i]? = some x → Pv i σ H → g x σ H fun σ2 H2 => tb { D with nx := Pv (i + 1), ct := Pv (i + 1), bk := D.nx } σ2 H2) (hd : ∀ σ H, Pv xs.length σ H → D.nx σ H) :
    ∃ W : Nat → Nat → St → Hp → Prop, (∃ m, W 0 m σ H) ∧ ∀ i m σ H, W i m σ H →
      ((Itl K a).stop i H ∧ D.nx σ H) ∨ ((Itl K a).go i H ∧ ∃ N : St → Hp → Prop, (∀ σ' H', N σ' H' → ∃ m', m' < m ∧ W (i + 1) m' σ' H') ∧ ∀ x H', (Itl K a).yld i H x H' → g x σ H' fun σ2 H2 => tb { D with nx := N, ct := N, bk := D.nx } σ2 H2) := by
  refine ⟨fun i m σ H => m = xs.length - i ∧ i ≤ xs.length ∧ Pv i σ H, ⟨xs.length, by simp, Nat.zero_le _, h0⟩, ?_⟩
  rintro i m σ H ⟨rfl, hi, p⟩
  have q := hl i σ H hi p
  by_cases hlt : i < xs.length
  · refine .inr ⟨⟨xs, xs[i], q, by simp [hlt]⟩, Pv (i + 1), fun σ' H' p' => ⟨xs.length - (i + 1), by omega, rfl, hlt, p'⟩, fun x H' y => ?_⟩
    obtain ⟨e, y⟩ := y
    subst e
    exact hs i x σ _ (y xs q) p
  · have e : i = xs.length := by omega
    subst e
    exact .inl ⟨⟨xs, q, Nat.le_refl _⟩, hd σ H p⟩
theorem for_range {lo : Int} {n : Nat} {g : TG} {tb : TS} {D : Ends} {σ : St} {H : Hp} (Pv : Nat → St → Hp → Prop) (h0 : Pv 0 σ H)
    (hs : ∀ i σ H, i < n → Pv i σ H → g (.int (lo + i)) σ H fun σ2 H2 => tb { D with nx := Pv (i + 1), ct := Pv (i + 1), bk := D.nx } σ2 H2) (hd : ∀ σ H, Pv n σ H → D.nx σ H) :
    ∃ W : Nat → Nat → St → Hp → Prop, (∃ m, W 0 m σ H) ∧ ∀ i m σ H, W i m σ H →
      ((Itr lo n).stop i H ∧ D.nx σ H) ∨ ((Itr lo n).go i H ∧ ∃ N : St → Hp → Prop, (∀ σ' H', N σ' H' → ∃ m', m' < m ∧ W (i + 1) m' σ' H') ∧ ∀ x H', (Itr lo n).yld i H x H' → g x σ H' fun σ2 H2 => tb { D with nx := N, ct := N, bk := D.nx } σ2 H2) := by
  refine ⟨fun i m σ H => m = n - i ∧ i ≤ n ∧ Pv i σ H, ⟨n, by simp, Nat.zero_le _, h0⟩, ?_⟩
  rintro i m σ H ⟨rfl, hi, p⟩
  by_cases hlt : i < n
  · refine .inr ⟨hlt, Pv (i + 1), fun σ' H' p' => ⟨n - (i + 1), by omega, rfl, hlt, p'⟩, fun x H' y => ?_⟩
    obtain ⟨e, y⟩ := y
    subst e y
    exact hs i σ _ hlt p
  · have e : i = n := by omega
    subst e
    exact .inl ⟨Nat.le_refl _, hd σ H p⟩
theorem while_by {c : TT} {tb : TS} {D : Ends} {σ : St} {H : Hp} (Pv : St → Hp → Prop) (μ : St → Hp → Nat) (h0 : Pv σ H)
    (hs : ∀ σ H, Pv σ H → c σ H fun b H1 => if b = true then tb { D with nx := fun σ' H' => Pv σ' H' ∧ μ σ' H' < μ σ H, ct := fun σ' H' => Pv σ' H' ∧ μ σ' H' < μ σ H, bk := D.nx } σ H1 else D.nx σ H1)
    (mono : ∀ σ H Q Q', (∀ b H1, Q b H1 → Q' b H1) → c σ H Q → c σ H Q') : tWhile c tb D σ H := by
  refine ⟨fun m σ H => m = μ σ H ∧ Pv σ H, ⟨_, rfl, h0⟩, ?_⟩
  rintro m σ H ⟨rfl, p⟩
  refine mono σ H _ _ (fun b H1 q => ?_) (hs σ H p)
  cases b with
  | true => exact ⟨_, fun σ' H' ⟨p', l⟩ => ⟨_, l, rfl, p'⟩, q⟩
  | false => exact q
end L2
namespace L2
open PySem PySem.Spec PyProof.Rows
noncomputable abbrev R2 := V → V → Hp → VK → Prop
noncomputable def OpR (X : Cx) (f : Value → Value → Sem Value) (r : R2) : Prop :=
  ∀ (pins : List (Addr × Obj)) (s : Shared) (σ : St) (H : Hp) (x y : V) (v u : Value) (Q : VK), Inv X pins σ H s → RelV x v → RelV y u → r x y H Q →
    wpAny (model X.prog X.w) X.A (f v u) (EP X pins σ Q) X.xe s
noncomputable def CallR (X : Cx) (f : Value) (r : List V → Hp → VK → Prop) : Prop :=
  ∀ (pins : List (Addr × Obj)) (s : Shared) (σ : St) (H : Hp) (xs : List V) (us : List Value) (Q : VK), Inv X pins σ H s → Vals xs us → r xs H Q →
    wpAny (model X.prog X.w) X.A (call f us) (EP X pins σ Q) X.xe s
noncomputable def tOp (r : R2) (ta tb : TE) : TE := fun σ H Q => ta σ H fun x H1 => tb σ H1 fun y H2 => r x y H2 Q
noncomputable def rI (C : Int → Int → Prop) (g : Int → Int → V) : R2 := fun x y H Q => ∃ i j, x = .int i ∧ y = .int j ∧ C i j ∧ Q (g i j) H
noncomputable def rI0 (g : Int → Int → V) : R2 := fun x y H Q => ∃ i j, x = .int i ∧ y = .int j ∧ Q (g i j) H
section
variable {X : Cx} {a b c : Expr} {ta tb tc : TE} {pos : Pos}
theorem binT (ha : PE X a ta) (hb : PE X b tb) {pins : List (Addr × Obj)} {s : Shared} {σ : St} {H : Hp} {R : V → V → Hp → Prop} (I : Inv X pins σ H s)
    (h : ta σ H fun x H1 => tb σ H1 fun y H2 => R x y H2) {Q : Value → Shared → Prop} {f : Value → Value → Sem Value}
    (hf : ∀ v u s2 x y H2, Inv X pins σ H2 s2 → RelV x v → RelV y u → R x y H2 → wpAny (model X.prog X.w) X.A (f v u) Q X.xe s2) :
    wpAny (model X.prog X.w) X.A (eval a X.env) (fun v s₁ => wpAny (model X.prog X.w) X.A (eval b X.env) (fun u s₂ => wpAny (model X.prog X.w) X.A (f v u) Q X.xe s₂) X.xe s₁) X.xe s := by
  refine thn (ha pins s σ H _ I h) fun v s1 ⟨x, H1, I1, r1, q1⟩ => ?_
  refine thn (hb pins s1 σ H1 _ I1 q1) fun u s2 ⟨y, H2, I2, r2, q2⟩ => ?_
  exact hf v u s2 x y H2 I2 r1 r2 q2
theorem pe_op {op : Operator} {r : R2} (ho : OpR X (binaryOp op) r) (ha : PE X a ta) (hb : PE X b tb) : PE X (.BinOp a op b pos) (tOp r ta tb) := by
  intro pins s σ H Q I h
  exact wpAny_BinOp (binT ha hb I h fun v u s2 x y H2 I2 rx ry q => ho pins s2 σ H2 x y v u Q I2 rx ry q)
theorem opI {f : Value → Value → Sem Value} {C : Int → Int → Prop} {g : Int → Int → Int}
    (rule : ∀ (i j : Int) (t u : Tok) (s : Shared) (Q : Value → Shared → Prop) (E : Value → Shared → Prop), C i j → Q (.int (g i j) s.toks) { s with toks := s.toks + 1 } → wpAny (model X.prog X.w) X.A (f (.int i t) (.int j u)) Q E s) :
    OpR X f (rI C fun i j => .int (g i j)) := by
  intro pins s σ H x y v u Q I rx ry h
  obtain ⟨i, j, rfl, rfl, hc, q⟩ := h
  obtain ⟨t, rfl⟩ := rx
  obtain ⟨t', rfl⟩ := ry
  exact rule i j t t' s _ _ hc ⟨.int (g i j), H, I.tok _, ⟨_, rfl⟩, q⟩
theorem opI0 {f : Value → Value → Sem Value} {g : Int → Int → Int}
    (rule : ∀ (i j : Int) (t u : Tok) (s : Shared) (Q : Value → Shared → Prop) (E : Value → Shared → Prop), Q (.int (g i j) s.toks) { s with toks := s.toks + 1 } → wpAny (model X.prog X.w) X.A (f (.int i t) (.int j u)) Q E s) :
    OpR X f (rI0 fun i j => .int (g i j)) := by
  intro pins s σ H x y v u Q I rx ry h
  obtain ⟨i, j, rfl, rfl, q⟩ := h
  obtain ⟨t, rfl⟩ := rx
  obtain ⟨t', rfl⟩ := ry
  exact rule i j t t' s _ _ ⟨.int (g i j), H, I.tok _, ⟨_, rfl⟩, q⟩
theorem opB0 {f : Value → Value → Sem Value} {g : Int → Int → Bool}
    (rule : ∀ (i j : Int) (t u : Tok) (s : Shared) (Q : Value → Shared → Prop) (E : Value → Shared → Prop), Q (.bool (g i j)) s → wpAny (model X.prog X.w) X.A (f (.int i t) (.int j u)) Q E s) :
    OpR X f (rI0 fun i j => .bl (g i j)) := by
  intro pins s σ H x y v u Q I rx ry h
  obtain ⟨i, j, rfl, rfl, q⟩ := h
  obtain ⟨t, rfl⟩ := rx
  obtain ⟨t', rfl⟩ := ry
  exact rule i j t t' s _ _ ⟨.bl (g i j), H, I, rfl, q⟩
noncomputable def CMul (i j : Int) : Prop := (-(2 ^ 64) < i ∧ i < 2 ^ 64) ∨ (-(2 ^ 64) < j ∧ j < 2 ^ 64)
theorem CMul.ok {i j : Int} (h : CMul i j) : IntMulOk i j := by
  rcases h with ⟨h1, h2⟩ | ⟨h1, h2⟩
  · exact .of_left (intBits_le_64 h1 h2)
  · exact .of_right (intBits_le_64 h1 h2)
theorem op_add : OpR X (binaryOp .Add) (rI0 fun i j => .int (i + j)) := opI0 fun _ _ _ _ _ _ _ q => add_int q
theorem op_sub : OpR X (binaryOp .Sub) (rI0 fun i j => .int (i - j)) := opI0 fun _ _ _ _ _ _ _ q => sub_int q
theorem op_mul : OpR X (binaryOp .Mult) (rI CMul fun i j => .int (i * j)) := opI fun _ _ _ _ _ _ _ hc q => mul_int q hc.ok
end
section
variable {X : Cx} {a b c : Expr} {ta tb tc : TE} {pos : Pos}
theorem op_lt : OpR X (compareOp .Lt) (rI0 fun i j => .bl (decide (i < j))) := opB0 fun _ _ _ _ _ _ _ q => lt_int q
theorem op_le : OpR X (compareOp .LtE) (rI0 fun i j => .bl (decide (i ≤ j))) := opB0 fun _ _ _ _ _ _ _ q => le_int q
theorem op_gt : OpR X (compareOp .Gt) (rI0 fun i j => .bl (decide (j < i))) := opB0 fun _ _ _ _ _ _ _ q => gt_int q
theorem op_ge : OpR X (compareOp .GtE) (rI0 fun i j => .bl (decide (j ≤ i))) := opB0 fun _ _ _ _ _ _ _ q => ge_int q
theorem nomark (b : Expr) {op : CmpOp} (h : op ≠ .In := by decide) (h2 : op ≠ .NotIn := by decide) : behindInMarks op b = false := by
  have e1 : (op == CmpOp.In) = false := by cases op <;> first | rfl | exact absurd rfl h
  have e2 : (op == CmpOp.NotIn) = false := by cases op <;> first | rfl | exact absurd rfl h2
  cases b <;> simp [behindInMarks, e1, e2]
theorem pe_cmpR {op : CmpOp} {r : R2} (ho : OpR X (compareOp op) r) (ha : PE X a ta) (hb : PE X b tb) (hm : behindInMarks op b = false) : PE X (.Compare a [op] [b] pos) (tOp r ta tb) := by
  intro pins s σ H Q I h
  exact wpAny_Compare1 (binT ha hb I h fun v u s2 x y H2 I2 rx ry q => ho pins s2 σ H2 x y v u Q I2 rx ry q) hm
noncomputable def tTest (t : TE) : TT := fun σ H Q => t σ H fun x H' => ∃ k, x = .bl k ∧ Q k H'
theorem pt_cmpR {op : CmpOp} {r : R2} (ho : OpR X (compareOp op) r) (ha : PE X a ta) (hb : PE X b tb) (hm : behindInMarks op b = false) : PT X (.Compare a [op] [b] pos) (tTest (tOp r ta tb)) := by
  intro pins s σ H Q I h
  refine wpAny_isTrue_Compare1 (thn (ha pins s σ H _ I h) fun v s1 ⟨x, H1, I1, r1, q1⟩ => thn (hb pins s1 σ H1 _ I1 q1) fun u s2 ⟨y, H2, I2, r2, q2⟩ =>
    thn (ho pins s2 σ H2 x y v u _ I2 r1 r2 q2) fun c s3 ⟨z, H3, I3, r3, k, e, q3⟩ => ?_) hm
  subst e
  cases r3
  exact wpAny_truthy_bool ⟨H3, I3, q3⟩
noncomputable def tChain (r r' : R2) (ta tb tc : TE) : TE := fun σ H Q => ta σ H fun x H1 => tb σ H1 fun y H2 => r x y H2 fun z H3 => ∃ k, z = .bl k ∧
  (if k = true then tc σ H3 fun w' H4 => r' y w' H4 Q else Q (.bl false) H3)
theorem pe_chain {op op' : CmpOp} {r r' : R2} (ho : OpR X (compareOp op) r) (ho' : OpR X (compareOp op') r') (ha : PE X a ta) (hb : PE X b tb) (hc : PE X c tc)
    (hm : lastMarks [op, op'] [b, c] = false := by with_unfolding_all rfl) : PE X (.Compare a [op, op'] [b, c] pos) (tChain r r' ta tb tc) := by
  intro pins s σ H Q I h
  refine Compare_chain (thn (ha pins s σ H _ I h) fun v s1 ⟨x, H1, I1, r1, q1⟩ => chain_link (thn (hb pins s1 σ H1 _ I1 q1) fun u s2 ⟨y, H2, I2, r2, q2⟩ =>
    thn (ho pins s2 σ H2 x y v u _ I2 r1 r2 q2) fun d s3 ⟨z, H3, I3, r3, k, e, q3⟩ => ?_)) hm
  subst e
  cases r3
  refine wpAny_truthy_bool ?_
  cases k with
  | false => exact ite_ff ⟨.bl false, H3, I3, rfl, q3⟩
  | true => exact ite_tt (chain_last (thn (hc pins s3 σ H3 _ I3 q3) fun w' s4 ⟨z', H4, I4, r4, q4⟩ => ho' pins s4 σ H4 y z' u w' Q I4 r2 r4 q4))
theorem pt_chain {op op' : CmpOp} {r r' : R2} (ho : OpR X (compareOp op) r) (ho' : OpR X (compareOp op') r') (ha : PE X a ta) (hb : PE X b tb) (hc : PE X c tc)
    (hm : lastMarks [op, op'] [b, c] = false := by with_unfolding_all rfl) : PT X (.Compare a [op, op'] [b, c] pos) (tTest (tChain r r' ta tb tc)) := by
  intro pins s σ H Q I h
  refine isTrue_chain (thn (ha pins s σ H _ I h) fun v s1 ⟨x, H1, I1, r1, q1⟩ => test_link (thn (hb pins s1 σ H1 _ I1 q1) fun u s2 ⟨y, H2, I2, r2, q2⟩ =>
    thn (ho pins s2 σ H2 x y v u _ I2 r1 r2 q2) fun d s3 ⟨z, H3, I3, r3, k, e, q3⟩ => ?_)) hm
  subst e
  cases r3
  refine wpAny_truthy_bool ?_
  cases k with
  | false =>
    obtain ⟨k', e', q'⟩ := q3
    cases e'
    exact ite_ff ⟨H3, I3, q'⟩
  | true =>
    refine ite_tt (test_last (thn (hc pins s3 σ H3 _ I3 q3) fun w' s4 ⟨z', H4, I4, r4, q4⟩ => thn (ho' pins s4 σ H4 y z' u w' _ I4 r2 r4 q4) fun d' s5 ⟨z2, H5, I5, r5, k2, e2, q5⟩ => ?_))
    subst e2
    cases r5
    exact wpAny_truthy_bool ⟨H5, I5, q5⟩
theorem line63 : (sizeLine : Nat) < 2 ^ 63 := by rw [sizeLine_eq]; decide
theorem vals1 {x : V} {us : List Value} (r : Vals [x] us) : ∃ u, us = [u] ∧ RelV x u := by
  cases r with
  | cons r1 r2 => cases r2; exact ⟨_, rfl, r1⟩
theorem vals2 {x y : V} {us : List Value} (r : Vals [x, y] us) : ∃ u w', us = [u, w'] ∧ RelV x u ∧ RelV y w' := by
  cases r with
  | cons r1 r2 =>
    cases r2 with
    | cons r3 r4 => cases r4; exact ⟨_, _, rfl, r1, r3⟩
theorem call_max2 (hc : X.calm = true) : CallR X (.builtin "max") (fun xs H Q => ∃ i j, xs = [.int i, .int j] ∧ Q (.int (if j > i then j else i)) H) := by
  intro pins s σ H xs us Q I r h
  obtain ⟨i, j, rfl, q⟩ := h
  obtain ⟨u, w', rfl, ⟨t, rfl⟩, ⟨t', rfl⟩⟩ := vals2 r
  refine max_two_ints (I.ok.hd hc) fun h' tk k => ⟨_, H, I.kept k, ?_, q⟩
  by_cases hj : j > i
  · rw [if_pos hj, if_pos hj]; exact ⟨_, rfl⟩
  · rw [if_neg hj, if_neg hj]; exact ⟨_, rfl⟩
theorem call_min2 (hc : X.calm = true) : CallR X (.builtin "min") (fun xs H Q => ∃ i j, xs = [.int i, .int j] ∧ Q (.int (if j < i then j else i)) H) := by
  intro pins s σ H xs us Q I r h
  obtain ⟨i, j, rfl, q⟩ := h
  obtain ⟨u, w', rfl, ⟨t, rfl⟩, ⟨t', rfl⟩⟩ := vals2 r
  refine min_two_ints (I.ok.hd hc) fun h' tk k => ⟨_, H, I.kept k, ?_, q⟩
  by_cases hj : j < i
  · rw [if_pos hj, if_pos hj]; exact ⟨_, rfl⟩
  · rw [if_neg hj, if_neg hj]; exact ⟨_, rfl⟩
end
end L2
namespace L2
open PySem PySem.Spec PyProof.Rows
structure ObjM (h : Heap) (x dx C : Addr) (mA : Str → Option Value) : Prop where
  obj : h.get? x = some (PySem.W.instObj C dx)
  ns : h.Ns1 dx mA
  ne : dx ≠ x
theorem lookIn_ns {h : Heap} {dx : Addr} {mA : Str → Option Value} (n : h.Ns1 dx mA) : ∃ od, h.get? dx = some od ∧ ∀ name, PySem.W.lookIn name od = some (mA name) := by
  obtain ⟨o, es, ep, ho, hd, hk, _, hm⟩ := n
  refine ⟨o, ho, fun name => ?_⟩
  have e := hm name
  unfold nsFind findBy at e
  rw [← Array.find?_toList] at e
  unfold PySem.W.lookIn
  rw [hd]
  dsimp only
  split
  · rename_i y q
    rw [q] at e
    exact congrArg some e
  · rename_i q
    rw [q] at e
    have a : es.toList.any (·.refKey) = false := by
      rw [List.any_eq_false]
      intro y hy
      obtain ⟨z, t, hkey⟩ := hk y (Array.mem_toList_iff.mp hy)
      simp [DictEntry.refKey, hkey]
    have a' : ¬ es.toList.any (·.refKey) = true := by rw [a]; exact Bool.false_ne_true
    rw [if_neg a']
    exact congrArg some e
theorem ObjM.look {h : Heap} {x dx C : Addr} {mA : Str → Option Value} (I : ObjM h x dx C mA) : ∃ od, PySem.W.InstAt h x (PySem.W.instObj C dx) C (some od) ∧ ∀ name, PySem.W.lookIn name od = some (mA name) :=
  let ⟨od, ho, hl⟩ := lookIn_ns I.ns
  ⟨od, ⟨I.obj, rfl, rfl, ho⟩, hl⟩
section
variable {prog : Program} {w : World} {A : Around} {E : Value → Shared → Prop} {s : Shared} {K : PySem.W.Frag} {x dx C f : Addr} {mA : Str → Option Value} {name : Str} {v : Value}
theorem get_map {expr : Bool} {Q : Value → Shared → Prop} (X : K.In s.heap) (I : ObjM s.heap x dx C mA) (hg : PySem.W.plainGet K C name = true) (hh : PySem.W.hasDictIn K C = true)
    (ha : PySem.W.findIn K (.ref C) name = some none) (hv : mA name = some v) (hv' : PySem.W.handedIn v = true) (h : Q v { s with toks := s.toks + 1 }) :
    wpAny (model prog w) A (getAttr (.ref x) name expr) Q E s := by
  obtain ⟨od, J, hl⟩ := I.look
  exact PySem.W.get_value X J (PySem.W.plainGet_of hg).1 (PySem.W.findObj_own hh ha rfl (by rw [hl, hv])) hv' h
theorem get_meth {pl : Sem Bool} {Q : Value × List Value → Shared → Prop} (X : K.In s.heap) (I : ObjM s.heap x dx C mA) (hg : PySem.W.plainGet K C name = true)
    (hf : PySem.W.findIn K (.ref C) name = some (some (.ref f))) (ht : PySem.W.isFn K (.ref f) = true) (hv : mA name = none) (h : Q (.ref f, [.ref x]) s) :
    wpAny (model prog w) A (getMethod (.ref x) name pl) Q E s := by
  obtain ⟨od, J, hl⟩ := I.look
  exact PySem.W.method_fn X J (PySem.W.plainGet_of hg).1 (PySem.W.plainGet_of hg).2 hf (beq_iff_eq.mp ht) (by show (PySem.W.lookIn name od).map (·.isSome) = some false; rw [hl, hv]; rfl) h
theorem set_map {ns : List Str} {Q : Unit → Shared → Prop} (X : K.In s.heap) (I : ObjM s.heap x dx C mA)
    (hs : PySem.W.findIn K (.ref C) "__setattr__" = some (some (.builtin "object.__setattr__"))) (hp : PySem.W.plainOver K C = true) (ht : PySem.W.takerIn K C name = some none) (hh : PySem.W.hasDictIn K C = true)
    (hw : PySem.Within mA ns) (hsz : ns.length ≤ sizeLine)
    (h : ∀ h', ObjM h' x dx C (fun y => if y = name then some v else mA y) → Heap.SameBut dx s.heap h' → Q () { s with heap := h', toks := s.toks + 2 }) :
    wpAny (model prog w) A (setAttr (.ref x) name v) Q E s := by
  obtain ⟨od, J, hl⟩ := I.look
  refine PySem.W.set_plain X J hs (PySem.W.osa_open (s := { s with toks := s.toks + 1 }) (r := none) X J hp ht fun b => ?_)
  obtain ⟨cd, hc, hd'⟩ := PySem.W.any_some hh
  have hx : s.heap.get? x = some ⟨.ref C, some dx, .plain, #[]⟩ := I.obj
  refine wpAny_bind (wpAny_pure (wpAny_bind (wpAny_bind (wpAny_loadPart hx (wpAny_bind (PySem.W.Looks.here (s := { s with toks := s.toks + 1 }) (PySem.W.looks_clsIn X hc) ?_))))))
  rw [hd']
  refine wpAny_pure (a := some dx) (wpAny_bind (wpAny_pure (wpAny_bind ?_)))
  refine wpAny_nsSet1 (s := { s with toks := s.toks + 1 }) I.ns fun h' hn2 hs2 => ?_
  obtain ⟨oD, esD, epD, hoD, hdD, hcD⟩ := hn2.count (PySem.Within.cons name v hw)
  refine wpAny_bind (wpAny_lookBehind hoD (by rw [hdD]; exact pastItsLine_dict (Nat.le_trans hcD (by rw [List.length_cons]; omega))) ?_)
  exact wpAny_pure (h _ ⟨(hs2.2 _ (Ne.symm I.ne)).trans I.obj, hn2, I.ne⟩ hs2)
theorem make_map {R : Result → Shared → Prop} {vs : List Value} {kw : List (Str × Value)} (X : K.In s.heap) (hm : PySem.W.makesIn K C = true)
    (hi : PySem.W.findIn K (.ref C) "__init__" = some (some (.ref f))) (hf : PySem.W.typeIn K (.ref f) = some (.type "function"))
    (h : codeAny (model prog w) (A.under (.builtin "type.__call__" ⟨.ref C :: vs, kw⟩)) (.call (.ref f) ⟨.ref (s.heap.objs.size + 1) :: vs, kw⟩) (PySem.W.InitBack (s.heap.objs.size + 1) R)
      { s with heap := (s.heap.push PySem.W.emptyDict).push (PySem.W.instObj C s.heap.objs.size) }) :
    codeAny (model prog w) A (.call (.ref C) ⟨vs, kw⟩) R s := by
  obtain ⟨hh, g, d, t, os⟩ := s
  exact PySem.W.make_core (PySem.W.makes_of X hm) (PySem.W.looks_findIn X hi) (fun self => PySem.W.bind_fn X self hf) (.inl rfl) h
end
noncomputable def putF (f : Str) (v : V) : List (Str × V) → List (Str × V)
  | [] => [(f, v)]
  | (g, x) :: r => if g = f then (g, v) :: r else (g, x) :: putF f v r
theorem lookup_putF (f g : Str) (v : V) : ∀ fs : List (Str × V), (putF f v fs).lookup g = if g = f then some v else fs.lookup g
  | [] => by
    show List.lookup g [(f, v)] = _
    by_cases h : g = f
    · have hb : (g == f) = true := beq_iff_eq.mpr h
      simp only [List.lookup, hb, if_pos h]
    · have hb : (g == f) = false := beq_eq_false_iff_ne.mpr h
      simp only [List.lookup, hb, if_neg h]
  | (k, x) :: r => by
    have ih := lookup_putF f g v r
    rw [show putF f v ((k, x) :: r) = (if k = f then (k, v) :: r else (k, x) :: putF f v r) from rfl]
    by_cases hk : k = f
    · rw [if_pos hk]
      by_cases h : g = k
      · have hb : (g == k) = true := beq_iff_eq.mpr h
        simp only [List.lookup, hb, if_pos (h.trans hk)]
      · have hb : (g == k) = false := beq_eq_false_iff_ne.mpr h
        simp only [List.lookup, hb, if_neg (fun e : g = f => h (e.trans hk.symm))]
    · rw [if_neg hk]
      by_cases h : g = k
      · have hb : (g == k) = true := beq_iff_eq.mpr h
        simp only [List.lookup, hb, if_neg (fun e : g = f => hk (h.symm.trans e))]
      · have hb : (g == k) = false := beq_eq_false_iff_ne.mpr h
        simp only [List.lookup, hb]
        exact ih
theorem keys_putF (f : Str) (v : V) : ∀ fs : List (Str × V), f ∈ (putF f v fs).map (·.1) ∧ ∀ g, g ∈ fs.map (·.1) → g ∈ (putF f v fs).map (·.1)
  | [] => ⟨by simp [putF], fun g h => by simp at h⟩
  | (k, x) :: r => by
    obtain ⟨i1, i2⟩ := keys_putF f v r
    rw [show putF f v ((k, x) :: r) = (if k = f then (k, v) :: r else (k, x) :: putF f v r) from rfl]
    by_cases hk : k = f
    · rw [if_pos hk]
      subst hk
      exact ⟨by simp, fun g h => by simpa using h⟩
    · rw [if_neg hk]
      refine ⟨?_, fun g h => ?_⟩
      · rw [List.map_cons]
        exact List.mem_cons_of_mem _ i1
      · rw [List.map_cons] at h ⊢
        rcases List.mem_cons.mp h with e | e
        · exact List.mem_cons.mpr (.inl e)
        · exact List.mem_cons_of_mem _ (i2 g e)
theorem length_putF (f : Str) (v : V) : ∀ fs : List (Str × V), (putF f v fs).length ≤ fs.length + 1
  | [] => by simp [putF]
  | (k, x) :: r => by
    have ih := length_putF f v r
    rw [show putF f v ((k, x) :: r) = (if k = f then (k, v) :: r else (k, x) :: putF f v r) from rfl]
    by_cases hk : k = f
    · rw [if_pos hk, List.length_cons, List.length_cons]; omega
    · rw [if_neg hk, List.length_cons, List.length_cons]; omega
theorem RelO.some_of {v : V} {o : Option Value} (r : RelO (some v) o) : ∃ u, o = some u ∧ RelV v u := by
  cases o with
  | none => exact (show False from r).elim
  | some u => exact ⟨u, rfl, r⟩
theorem RelO.none_of {o : Option Value} (r : RelO none o) : o = none := by
  cases o with
  | none => rfl
  | some u => exact (show False from r).elim
theorem handed_of {v : V} {u : Value} (r : RelV v u) : PySem.W.handedIn u = true := by
  cases v with
  | non => cases (show u = Value.none from r); rfl
  | bl b => cases (show u = Value.bool b from r); rfl
  | int i => obtain ⟨t, e⟩ := (show ∃ t, u = Value.int i t from r); cases e; rfl
  | str x => obtain ⟨t, e⟩ := (show ∃ t, u = Value.str x t from r); cases e; rfl
  | byt b => obtain ⟨t, e⟩ := (show ∃ t, u = Value.bytes b t from r); cases e; rfl
  | flt b => obtain ⟨t, e⟩ := (show ∃ t, u = Value.float b t from r); cases e; rfl
  | ref a => cases (show u = Value.ref a from r); rfl
  | ty n => cases (show u = Value.type n from r); rfl
section
variable {P : Program} {w : World} {H H' : Hp} {h h' : Heap} {a C dx : Addr} {fs fs' : List (Str × V)}
theorem ins_get (hok : HOk P w H h) (e : H a = some (.ins C dx fs)) : ∃ mA, ObjM h a dx C mA ∧ (∀ f, RelO (fs.lookup f) (mA f)) ∧ PySem.Within mA (fs.map (·.1)) ∧ fs.length ≤ 1000 ∧ H dx = some (.own a) := by
  obtain ⟨d, z, ne, ob, mA, n, r, q⟩ := (show ObjOk P w H h a (.ins C dx fs) from hok a _ e)
  exact ⟨mA, ⟨ob, n, ne⟩, r, q, z, d⟩
end
structure Cls (K : PySem.W.Frag) (C : Addr) : Prop where
  pg : PySem.W.plainGet K C Str.empty = true
  hd : PySem.W.hasDictIn K C = true
  po : PySem.W.plainOver K C = true
  sa : PySem.W.findIn K (.ref C) "__setattr__" = some (some (.builtin "object.__setattr__"))
theorem Cls.get {K : PySem.W.Frag} {C : Addr} (c : Cls K C) (f : Str) : PySem.W.plainGet K C f = true := c.pg
noncomputable def NoAttr (K : PySem.W.Frag) (C : Addr) (f : Str) : Prop := PySem.W.findIn K (.ref C) f = some none
theorem NoAttr.taker {K : PySem.W.Frag} {C : Addr} {f : Str} (n : NoAttr K C f) : PySem.W.takerIn K C f = some none := by
  unfold PySem.W.takerIn
  rw [show PySem.W.findIn K (.ref C) f = some none from n]
  rfl
structure Meth (K : PySem.W.Frag) (C : Addr) (m : Str) (f : Addr) : Prop where
  at_ : PySem.W.findIn K (.ref C) m = some (some (.ref f))
  fn : PySem.W.isFn K (.ref f) = true
  kp : PySem.W.keepIn K (.ref f) = true
section
variable {X : Cx} {pins : List (Addr × Obj)} {σ : St} {H : Hp} {s : Shared} {a C dx : Addr} {fs : List (Str × V)} {f : Str} {v : V} {A : Around} {E : Value → Shared → Prop}
theorem getattr_ok {b : Bool} {Q : Value → Shared → Prop} (I : Inv X pins σ H s) (e : H a = some (.ins C dx fs)) (c : Cls X.K C) (n : NoAttr X.K C f) (l : fs.lookup f = some v)
    (h : ∀ u s', Inv X pins σ H s' → RelV v u → Q u s') : wpAny (model X.prog X.w) A (getAttr (.ref a) f b) Q E s := by
  obtain ⟨mA, O, r, _, _, _⟩ := ins_get I.hok e
  obtain ⟨u, hu, ru⟩ := RelO.some_of (v := v) (o := mA f) (by rw [← l]; exact r f)
  exact get_map I.kIn O (c.get f) c.hd n hu (handed_of ru) (h u _ (I.tok _) ru)
theorem getmeth_ok {m : Str} {g : Addr} {pl : Sem Bool} {Q : Value × List Value → Shared → Prop} (I : Inv X pins σ H s) (e : H a = some (.ins C dx fs)) (c : Cls X.K C) (k : Meth X.K C m g) (l : fs.lookup m = none)
    (h : Q (.ref g, [.ref a]) s) : wpAny (model X.prog X.w) A (getMethod (.ref a) m pl) Q E s := by
  obtain ⟨mA, O, r, _, _, _⟩ := ins_get I.hok e
  have hn : mA m = none := RelO.none_of (by rw [← l]; exact r m)
  exact get_meth I.kIn O (c.get m) k.at_ k.fn hn h
theorem setattr_ok {y : V} {u : Value} {Q : Unit → Shared → Prop} (I : Inv X pins σ H s) (e : H a = some (.ins C dx fs)) (c : Cls X.K C) (n : NoAttr X.K C f) (hl : fs.length < 1000) (ry : RelV y u)
    (h : ∀ s', Inv X pins σ (upd H a (.ins C dx (putF f y fs))) s' → Q () s') : wpAny (model X.prog X.w) A (setAttr (.ref a) f u) Q E s := by
  obtain ⟨mA, O, r, wi, _, ho⟩ := ins_get I.hok e
  have hz : (fs.map (·.1)).length ≤ sizeLine := by rw [List.length_map, sizeLine_eq]; omega
  refine set_map I.kIn O c.sa c.po n.taker c.hd wi hz fun h' O' sb => h _ ?_
  have hd : ∃ o, h'.get? dx = some o := let ⟨o, _, _, e', _⟩ := O'.ns; ⟨o, e'⟩
  refine I.write (x := a) (e := dx) (by rw [e]; exact True.intro) (.inr ho) (fun b q hb z => (sb.2 b hb).trans z) hd ?_
  refine ⟨by rw [upd_ne O.ne]; exact ho, ?_, O.ne, O'.obj, _, O'.ns, fun g => ?_, fun g hg => ?_⟩
  · have := length_putF f y fs; omega
  · show RelO ((putF f y fs).lookup g) (if g = f then some u else mA g)
    rw [lookup_putF]
    by_cases q : g = f
    · rw [if_pos q, if_pos q]; exact ry
    · rw [if_neg q, if_neg q]; exact r g
  · by_cases q : g = f
    · rw [q]; exact (keys_putF f y fs).1
    · refine (keys_putF f y fs).2 g (wi g fun z => hg ?_)
      show (if g = f then some u else mA g) = none
      rw [if_neg q]; exact z
theorem Inv.made (I : Inv X pins σ H s) : Inv X pins σ (upd (upd H s.heap.objs.size (.own (s.heap.objs.size + 1))) (s.heap.objs.size + 1) (.ins C s.heap.objs.size []))
    { s with heap := (s.heap.push PySem.W.emptyDict).push (PySem.W.instObj C s.heap.objs.size) } := by
  have e1 : (s.heap.push PySem.W.emptyDict).get? s.heap.objs.size = some PySem.W.emptyDict := Heap.get?_push_size s.heap rfl
  have e2 : ((s.heap.push PySem.W.emptyDict).push (PySem.W.instObj C s.heap.objs.size)).get? (s.heap.objs.size + 1) = some (PySem.W.instObj C s.heap.objs.size) := by
    have := Heap.get?_push_size (s.heap.push PySem.W.emptyDict) (o := PySem.W.instObj C s.heap.objs.size) rfl
    rwa [Heap.size_push] at this
  have e3 : (s.heap.push PySem.W.emptyDict).Ns s.heap.objs.size (fun _ => none) := ⟨PySem.W.emptyDict, #[], _, e1, rfl, (fun e he => absurd he (by simp)), fun _ => rfl⟩
  have I1 := I.laid (a := s.heap.objs.size) (o := .own (s.heap.objs.size + 1)) (h' := s.heap.push PySem.W.emptyDict) (t' := s.toks) (fun b u q => Heap.get?_push_of_some _ q) (Nat.le_refl _) ⟨_, e1⟩
  refine I1.laid (a := s.heap.objs.size + 1) (o := .ins C s.heap.objs.size []) (t' := s.toks) (fun b u q => Heap.get?_push_of_some _ q) (Nat.le_of_eq (Heap.size_push _ _)) ?_
  have ne : s.heap.objs.size ≠ s.heap.objs.size + 1 := Nat.ne_of_lt (Nat.lt_succ_self _)
  refine ⟨by rw [upd_ne ne, upd_same], Nat.zero_le _, ne, e2, fun _ => none, (Heap.Ns1.of_empty e3).at fun o q => Heap.get?_push_of_some _ q, fun _ => True.intro, fun y hy => absurd rfl hy⟩
theorem attr_of {prog : Program} {w : World} {env : Env} {e : Expr} {f : Str} {pos : Pos} {s : Shared} {Q : Value → Shared → Prop} (hb : attributeBase e f env (eval e env) = eval e env)
    (h : wpAny (model prog w) A (eval e env) (fun o s₁ => wpAny (model prog w) A (getAttr o f true) Q E s₁) E s) : wpAny (model prog w) A (eval (.Attribute e f pos) env) Q E s :=
  Attribute_any_ h (by rw [arm_eval_Attribute, hb])
end
noncomputable def tFld (K : PySem.W.Frag) (ta : TE) (f : Str) : TE := fun σ H Q => ta σ H fun x H1 => ∃ a C dx fs v, x = .ref a ∧ H1 a = some (.ins C dx fs) ∧ Cls K C ∧ NoAttr K C f ∧ fs.lookup f = some v ∧ Q v H1
noncomputable def sFld (K : PySem.W.Frag) (ta tv : TE) (f : Str) : TS := fun D σ H => tv σ H fun y H1 => ta σ H1 fun x H2 => ∃ a C dx fs, x = .ref a ∧ H2 a = some (.ins C dx fs) ∧ Cls K C ∧ NoAttr K C f ∧ fs.length < 1000 ∧
  D.nx σ (upd H2 a (.ins C dx (putF f y fs)))
noncomputable def InOp (X : Cx) (op : Operator) (rd : V → V → Hp → VK → Prop) : Prop :=
  ∀ (pins : List (Addr × Obj)) (s : Shared) (σ : St) (H : Hp) (x y : V) (u v : Value) (Q : VK), Inv X pins σ H s → RelV x u → RelV y v → rd x y H Q → wpAny (model X.prog X.w) X.A (inplaceOp op u v) (EP X pins σ Q) X.xe s
noncomputable def sFldAug (K : PySem.W.Frag) (ta tv : TE) (rd : V → V → Hp → VK → Prop) (f : Str) : TS := fun D σ H => ta σ H fun x H1 => ∃ a C dx fs v, x = .ref a ∧ H1 a = some (.ins C dx fs) ∧ Cls K C ∧ NoAttr K C f ∧ fs.lookup f = some v ∧
  tv σ H1 fun y H2 => rd v y H2 fun z H3 => ∃ dx' fs', H3 a = some (.ins C dx' fs') ∧ fs'.length < 1000 ∧ D.nx σ (upd H3 a (.ins C dx' (putF f z fs')))
section
variable {X : Cx} {o e value : Expr} {f : Str} {pos pos' tpos : Pos} {ta tv : TE}
theorem pe_fld (he : PE X e ta) (hb : attributeBase e f X.env (eval e X.env) = eval e X.env) : PE X (.Attribute e f pos) (tFld X.K ta f) := by
  intro pins s σ H Q I h
  refine attr_of hb (thn (he pins s σ H _ I h) fun u s1 ⟨x, H1, I1, rx, a, C, dx, fs, v, ex, ea, c, n, l, q⟩ => ?_)
  subst ex
  obtain rfl : u = Value.ref a := rx
  exact getattr_ok I1 ea c n l fun u' s2 I2 ru => ⟨v, H1, I2, ru, q⟩
theorem ps_fld (ha : PE X o ta) (hv : PE X value tv) (hs : swapsWith value (some (.Attribute o f pos')) pos.line X.env = pure false) : PS X (.Assign [.Attribute o f pos'] value pos) (sFld X.K ta tv f) := by
  intro pins s σ H D I h
  refine plainObj_wpAny_Assign_Attribute (thn (hv pins s σ H _ I h) fun u s1 ⟨y, H1, I1, ry, q⟩ => thn (ha pins s1 σ H1 _ I1 q) fun ov s2 ⟨x, H2, I2, rx, a, C, dx, fs, ex, ea, c, n, l, q2⟩ => ?_) hs
  subst ex
  obtain rfl : ov = Value.ref a := rx
  exact setattr_ok I2 ea c n l ry fun s3 I3 => ⟨σ, _, I3, q2⟩
theorem ps_fldaug {op : Operator} {rd : V → V → Hp → VK → Prop} (ha : PE X o ta) (hv : PE X value tv) (hop : InOp X op rd) : PS X (.AugAssign (.Attribute o f tpos) op value pos) (sFldAug X.K ta tv rd f) := by
  intro pins s σ H D I h
  refine wpAny_AugAssign_AttributeAny (thn (ha pins s σ H _ I h) fun ov s1 ⟨x, H1, I1, rx, a, C, dx, fs, v, ex, ea, c, n, l, q⟩ => ?_)
  subst ex
  obtain rfl : ov = Value.ref a := rx
  refine getattr_ok I1 ea c n l fun u s2 I2 ru => thn (hv pins s2 σ H1 _ I2 q) fun w3 s3 ⟨y, H2, I3, ry, q3⟩ => thn (hop pins s3 σ H2 v y u w3 _ I3 ru ry q3) fun w4 s4 ⟨z, H3, I4, rz, dx', fs', ea', l', q4⟩ => ?_
  exact setattr_ok I4 ea' c n l' rz fun s5 I5 => ⟨σ, _, I5, q4⟩
noncomputable def rAdd : V → V → Hp → VK → Prop := fun x y H Q => ∃ i j, x = .int i ∧ y = .int j ∧ Q (.int (i + j)) H
theorem in_add : InOp X .Add rAdd := by
  rintro pins s σ H x y u v Q I rx ry ⟨i, j, rfl, rfl, q⟩
  obtain ⟨t, rfl⟩ := (show ∃ t, u = Value.int i t from rx)
  obtain ⟨t', rfl⟩ := (show ∃ t', v = Value.int j t' from ry)
  exact PyProof.Rows.iadd_int ⟨.int (i + j), H, I.tok _, ⟨_, rfl⟩, q⟩
end
section
variable {X : Cx} {pins : List (Addr × Obj)} {σ : St} {H : Hp} {s : Shared} {A : Around} {E : Value → Shared → Prop} {Q : Value → Shared → Prop} {c : Value} {b : Bool}
end
end L2
namespace L2
open PySem PySem.Spec PyProof.Rows
structure Room (k : Nat) (A : Around) : Prop where
  hd : A.handled = none
  dp : A.depth + 3 * k + 5 < recursionLimit
  un : A.units + 16 * k + 200 < cLine
theorem Room.mono {j k : Nat} {A : Around} (r : Room k A) (h : j ≤ k) : Room j A := ⟨r.hd, by have := r.dp; omega, by have := r.un; omega⟩
theorem Room.deeper {k : Nat} {A : Around} (r : Room (k + 1) A) (env : Env) : Room k (A.deeper env) :=
  ⟨r.hd, by have := r.dp; show A.depth + 1 + 3 * k + 5 < _; omega, by have := r.un; show A.units + 3 + 16 * k + 200 < _; omega⟩
theorem make_depth {A : Around} {C : Addr} {us : List Value} {kw : List (Str × Value)} : (A.under (.builtin "type.__call__" ⟨.ref C :: us, kw⟩)).depth = A.depth + 1 := by
  first | rfl | simp [Around.under, Code.weight, Code.isCreation, Code.isGuard, Code.isCaller, Code.frames, Code.isFrame, guardIds]
theorem make_units {A : Around} {C : Addr} {us : List Value} {kw : List (Str × Value)} : (A.under (.builtin "type.__call__" ⟨.ref C :: us, kw⟩)).units = A.units + 1 := by
  first | rfl | simp [Around.under, Code.cUnits, Code.frames, Code.isFrame]
theorem Room.make {k : Nat} {A : Around} (r : Room (k + 1) A) (C : Addr) (us : List Value) (kw : List (Str × Value)) : Room k (A.under (.builtin "type.__call__" ⟨.ref C :: us, kw⟩)) :=
  ⟨r.hd, by have := r.dp; rw [make_depth]; omega, by have := r.un; rw [make_units]; omega⟩
theorem Room.depth {k : Nat} {A : Around} (r : Room k A) : A.depth < recursionLimit := by have := r.dp; omega
theorem Room.units {k : Nat} {A : Around} (r : Room k A) : A.units + 64 < cLine := by have := r.un; omega
noncomputable def tNil : TA := fun _ H Q => Q [] H
noncomputable def tCons (ta : TE) (tr : TA) : TA := fun σ H Q => ta σ H fun x H1 => tr σ H1 fun xs H2 => Q (x :: xs) H2
section
variable {X : Cx} {e : Expr} {es : List Expr} {te : TE} {t : TA} {pos : Pos}
theorem pa_nil : PA X [] tNil := fun _ _ _ _ H Q I h => Calls.spliced_nil ⟨[], H, I, .nil, h⟩
theorem pa_cons (ha : PE X e te) (hr : PA X es t) (hs : starEach (e :: es) X.env = (false, eval e X.env) :: starEach es X.env := by rfl) : PA X (e :: es) (tCons te t) := by
  intro pos pins s σ H Q I h
  rw [hs]
  show wpAny _ _ (spliced ((false, eval e X.env) :: backTo pos (starEach es X.env))) _ _ s
  refine Calls.spliced_cons (thn (ha pins s σ H _ I h) fun u s1 ⟨x, H1, I1, r1, q1⟩ => ?_)
  exact thn (hr pos pins s1 σ H1 _ I1 q1) fun us s2 ⟨xs, H2, I2, r2, q2⟩ => ⟨x :: xs, H2, I2, .cons r1 r2, q2⟩
noncomputable def tTup (t : TA) : TE := fun σ H Q => t σ H fun xs H1 => xs.length ≤ sizeLine ∧ ∀ p, H1 p = none → Q (.ref p) (upd H1 p (.tup xs))
noncomputable def tLst (t : TA) : TE := fun σ H Q => t σ H fun xs H1 => xs.length ≤ sizeLine ∧ ∀ p, H1 p = none → Q (.ref p) (upd H1 p (.lst xs))
theorem pe_tup {x1} (h : PA X es t) : PE X (.Tuple es x1 pos) (tTup t) := by
  intro pins s σ H Q I hq
  refine wpAny_Tuple_spliced (thn (h pos pins s σ H _ I hq) fun us s1 ⟨xs, H1, I1, r, z, q⟩ => ⟨by rw [← r.length]; exact z, ?_⟩)
  have hf : H1 s1.heap.objs.size = none := I1.hok.fresh (Nat.le_refl _)
  refine ⟨.ref s1.heap.objs.size, upd H1 s1.heap.objs.size (.tup xs), I1.laid (t' := s1.toks) (fun b u e => Heap.get?_push_of_some _ e) (Nat.le_refl _) ?_, rfl, q _ hf⟩
  exact ⟨z, us, r, ⟨_, Heap.get?_push_size _ rfl, rfl, _, rfl⟩⟩
theorem pe_lst (h : PA X es t) : PE X (.List es pos) (tLst t) := by
  intro pins s σ H Q I hq
  refine wpAny_List_spliced (thn (h pos pins s σ H _ I hq) fun us s1 ⟨xs, H1, I1, r, z, q⟩ => ⟨by rw [← r.length]; exact z, ?_⟩)
  have hf : H1 s1.heap.objs.size = none := I1.hok.fresh (Nat.le_refl _)
  refine ⟨.ref s1.heap.objs.size, upd H1 s1.heap.objs.size (.lst xs), I1.laid (t' := s1.toks) (fun b u e => Heap.get?_push_of_some _ e) (Nat.le_refl _) ?_, rfl, q _ hf⟩
  exact ⟨z, us, 0, r, Heap.get?_push_size _ rfl⟩
end
noncomputable abbrev Sp := List V → Hp → VK → XK → Prop
noncomputable abbrev CXT := List Env → Hp → Shared → XK → Value → Shared → Prop
structure Env0 (P : Program) (w : World) (K : PySem.W.Frag) (mg : Str → Option Value) (base : Heap) (A : Around) (outer : List Env) (s : Shared) (H : Hp) : Prop where
  frames : A.frames = some outer
  mod : Mod K mg base
  bs : ∀ b o, base.get? b = some o → s.heap.get? b = some o ∧ H b = none
  bsz : base.objs.size ≤ s.heap.objs.size
  funs : s.heap.FunFrames base outer
  frf : ∀ b ∈ frs outer, H b = none
  hok : HOk P w H s.heap
  bare : AllBare s.gens
noncomputable def CE (outer : List Env) (P : Program) (w : World) (H : Hp) (s : Shared) (Q : VK) (u : Value) (s' : Shared) : Prop :=
  ∃ v H', s'.os = s.os ∧ AllBare s'.gens ∧ Un (frs outer) [] H H' s.heap s'.heap ∧ HOk P w H' s'.heap ∧ RelV v u ∧ Q v H'
noncomputable def CR (CX : CXT) (outer : List Env) (P : Program) (w : World) (H : Hp) (s : Shared) (Q : VK) (E : XK) (r : Result) (s' : Shared) : Prop :=
  match r with
  | .ok (.ret u) => CE outer P w H s Q u s'
  | .ok _ => False
  | .error e => CX outer H s E e s'
structure FnOk (P : Program) (w : World) (K : PySem.W.Frag) (mg : Str → Option Value) (base : Heap) (CX : CXT) (k : Nat) (f : Addr) (fd : FuncData) (ps : List Str) (sp : Sp) : Prop where
  len : ∀ vs H Q E, sp vs H Q E → vs.length = ps.length
  run : ∀ (A : Around) (outer : List Env) (s : Shared) (H : Hp) (args : Args) (us : List Value) (vs : List V) (Q : VK) (E : XK), Room k A → Env0 P w K mg base A outer s H → BindsTo s fd args (ps.zip us) → Vals vs us → sp vs H Q E →
    codeAny (model P w) A (.call (.ref f) args) (CR CX outer P w H s Q E) s
theorem Env0.make {P : Program} {w : World} {K : PySem.W.Frag} {mg : Str → Option Value} {base : Heap} {A : Around} {outer : List Env} {s : Shared} {H : Hp} (e : Env0 P w K mg base A outer s H) (C : Addr) (us : List Value) (kw : List (Str × Value)) :
    Env0 P w K mg base (A.under (.builtin "type.__call__" ⟨.ref C :: us, kw⟩)) outer s H := ⟨by first | exact e.frames | (simpa [Around.under, Code.envs, Code.isFrame, pushEnvs] using e.frames), e.mod, e.bs, e.bsz, e.funs, e.frf, e.hok, e.bare⟩
section
variable {X : Cx} {pins : List (Addr × Obj)} {σ : St} {H : Hp} {s s' : Shared}
theorem Inv.env0 (I : Inv X pins σ H s) : Env0 X.prog X.w X.K X.mg X.base X.A X.stack s H :=
  ⟨I.ok.frames, I.ok.mod, I.bs, Nat.le_trans I.ok.bsz I.sz, I.stack, I.stkFree, I.hok, I.bare⟩
theorem Inv.after {Q : VK} {u : Value} (I : Inv X pins σ H s) (h : CE X.stack X.prog X.w H s Q u s') : EP X pins σ Q u s' := by
  obtain ⟨v, H', os, bare, un, hok, r, q⟩ := h
  obtain ⟨hh, g, d, t, os'⟩ := s'
  obtain rfl : os' = s.os := os
  exact ⟨v, H', I.call (h' := hh) (g' := g) (d' := d) (t' := t) (ch := []) un hok bare (fun b z => absurd z (by simp)), r, q⟩
end
noncomputable def tCall (sp : Sp) (dvs : List V) (E : XK) (t : TA) : TE := fun σ H Q => t σ H fun vs H1 => sp (vs ++ dvs) H1 Q E
noncomputable def tMeth (C : Addr) (m : Str) (sp : Sp) (dvs : List V) (E : XK) (ta : TE) (t : TA) : TE := fun σ H Q => ta σ H fun x H1 => ∃ a dx fs, x = .ref a ∧ H1 a = some (.ins C dx fs) ∧ fs.lookup m = none ∧
  t σ H1 fun vs H2 => sp (x :: (vs ++ dvs)) H2 Q E
noncomputable def tMake (C : Addr) (sp : Sp) (dvs : List V) (E : XK) (t : TA) : TE := fun σ H Q => t σ H fun vs H1 => ∀ x dx, H1 x = none → H1 dx = none → dx ≠ x →
  sp (.ref x :: (vs ++ dvs)) (upd (upd H1 dx (.own x)) x (.ins C dx [])) (fun v H2 => v = .non ∧ Q (.ref x) H2) E
noncomputable def Binds (K : PySem.W.Frag) (fd : FuncData) (ps : List Str) (ds : List Value) : Prop :=
  ∀ (s : Shared) (us : List Value), K.In s.heap → (us ++ ds).length = ps.length → BindsTo s fd ⟨us, []⟩ (ps.zip (us ++ ds))
theorem Binds.all {K : PySem.W.Frag} {fd : FuncData} {ps : List Str} (h : ∀ us : List Value, us.length = ps.length → bindArgs fd ⟨us, []⟩ = pure (ps.zip us)) : Binds K fd ps [] := fun s us _ hl => by
  rw [List.append_nil] at hl ⊢
  exact .of_eq (h us hl)
noncomputable def Passes (CX : CXT) (X : Cx) (E : XK) : Prop := ∀ (pins : List (Addr × Obj)) (σ : St) (H : Hp) (s : Shared) (e : Value) (s' : Shared), Inv X pins σ H s → CX X.stack H s E e s' → X.xe e s'
section
variable {X : Cx} {CX : CXT} {k : Nat} {f C : Addr} {fd : FuncData} {ps : List Str} {sp : Sp} {dvs : List V} {ds : List Value} {E : XK} {x m : Str} {p pos apos : Pos} {e o : Expr} {es : List Expr} {ta : TE} {t : TA}
theorem run_fn {pins : List (Addr × Obj)} {σ : St} {H : Hp} {s : Shared} {Q : VK} {us : List Value} {vs : List V} (F : FnOk X.prog X.w X.K X.mg X.base CX k f fd ps sp) (hr : Room k X.A) (hb : Binds X.K fd ps ds) (hd : Vals dvs ds) (hx : Passes CX X E)
    (I : Inv X pins σ H s) (r : Vals vs us) (h : sp (vs ++ dvs) H Q E) : wpAny (model X.prog X.w) X.A (call (.ref f) us) (EP X pins σ Q) X.xe s := by
  have r2 : Vals (vs ++ dvs) (us ++ ds) := r.append hd
  have hl : (us ++ ds).length = ps.length := by rw [← r2.length]; exact F.len _ _ _ _ h
  refine wpAny_call (codeAny_mono (F.run X.A X.stack s H ⟨us, []⟩ (us ++ ds) (vs ++ dvs) Q E hr I.env0 (hb s us I.kIn hl) r2 h) fun r s' hq => ?_)
  cases r with
  | error e => exact hx pins σ H s e s' I hq
  | ok fl =>
    cases fl with
    | ret u => exact I.after hq
    | next => exact False.elim hq
    | brk => exact False.elim hq
    | cont => exact False.elim hq
theorem pe_call (F : FnOk X.prog X.w X.K X.mg X.base CX k f fd ps sp) (hr : Room k X.A) (hg : Gl X x) (hm : X.mg x = some (.ref f)) (hk : PySem.W.keepIn X.K (.ref f) = true) (hb : Binds X.K fd ps ds) (hd : Vals dvs ds) (hx : Passes CX X E)
    (ha : PA X (e :: es) t) (hdb : (x == ("__debug__" : Str)) = false := by decide) (he : starEach (e :: es) X.env = (false, eval e X.env) :: starEach es X.env := by rfl) (hpl : (backTo pos (starEach es X.env)).any (·.1) = false := by rfl) :
    PE X (.Call (.Name x p) (e :: es) [] pos) (tCall sp dvs E t) := by
  intro pins s σ H Q I h
  refine wpAny_Call_Name_kw (ld_glob I hg hm ?_ hdb)
  refine PySem.W.callWith_K (h₀ := X.base) I.ok.mod.kin hk (thn (ha pos pins s σ H _ I h) fun us s1 ⟨vs, H1, I1, r, q⟩ => ⟨I1.kIn, ?_⟩) he hpl
  exact run_fn F hr hb hd hx I1 r q
theorem pe_meth {pl : Sem Bool} (he : PE X o ta) (c : Cls X.K C) (hm : Meth X.K C m f) (F : FnOk X.prog X.w X.K X.mg X.base CX k f fd ps sp) (hr : Room k X.A) (hb : Binds X.K fd ps ds) (hd : Vals dvs ds) (hx : Passes CX X E) (ha : PA X (e :: es) t)
    (hst : starEach (e :: es) X.env = (false, eval e X.env) :: starEach es X.env := by rfl) (hpl : (backTo pos (starEach es X.env)).any (·.1) = false := by rfl)
    (ht : eval (.Call (.Attribute o m apos) (e :: es) [] pos) X.env = (do
      let ov ← eval o X.env
      standAt apos.atName
      let (f, first) ← holding [ov] (getMethod ov m pl)
      callWith pos f first (backTo pos (starEach (e :: es) X.env)) (backToKw pos (keywordEach [] X.env))) := by rfl) :
    PE X (.Call (.Attribute o m apos) (e :: es) [] pos) (tMeth C m sp dvs E ta t) := by
  intro pins s σ H Q I h
  refine PySem.W.methodCall_KW (pl := pl) (thn (he pins s σ H _ I h) fun u s1 ⟨x, H1, I1, rx, a, dx, fs, ex, ea, l, q⟩ => ?_) ht
  subst ex
  obtain rfl : u = Value.ref a := rx
  refine getmeth_ok I1 ea c hm l ?_
  refine PySem.W.callWith_K (first := [.ref a]) (h₀ := X.base) I.ok.mod.kin hm.kp (thn (ha pos pins s1 σ H1 _ I1 q) fun us s2 ⟨vs, H2, I2, r, q2⟩ => ⟨I2.kIn, ?_⟩) hst hpl
  exact run_fn (us := .ref a :: us) (vs := .ref a :: vs) F hr hb hd hx I2 (.cons rfl r) q2
theorem pe_meth0 {pl : Sem Bool} (he : PE X o ta) (c : Cls X.K C) (hm : Meth X.K C m f) (F : FnOk X.prog X.w X.K X.mg X.base CX k f fd ps sp) (hr : Room k X.A) (hb : Binds X.K fd ps ds) (hd : Vals dvs ds) (hx : Passes CX X E)
    (ht : eval (.Call (.Attribute o m apos) [] [] pos) X.env = (do
      let ov ← eval o X.env
      standAt apos.atName
      let (f, first) ← holding [ov] (getMethod ov m pl)
      callWith pos f first (backTo pos (starEach [] X.env)) (backToKw pos (keywordEach [] X.env))) := by rfl) :
    PE X (.Call (.Attribute o m apos) [] [] pos) (tMeth C m sp dvs E ta tNil) := by
  intro pins s σ H Q I h
  refine PySem.W.methodCall_KW (pl := pl) (thn (he pins s σ H _ I h) fun u s1 ⟨x, H1, I1, rx, a, dx, fs, ex, ea, l, q⟩ => ?_) ht
  subst ex
  obtain rfl : u = Value.ref a := rx
  refine getmeth_ok I1 ea c hm l ?_
  exact PySem.W.callWith_K0 (first := [.ref a]) I1.kIn hm.kp (run_fn (us := [.ref a]) (vs := [.ref a]) F hr hb hd hx I1 (.cons rfl .nil) q)
structure Mk (K : PySem.W.Frag) (C f : Addr) : Prop where
  makes : PySem.W.makesIn K C = true
  init : PySem.W.findIn K (.ref C) "__init__" = some (some (.ref f))
  fn : PySem.W.isFn K (.ref f) = true
  kp : PySem.W.keepIn K (.ref C) = true
theorem run_make {pins : List (Addr × Obj)} {σ : St} {H : Hp} {s : Shared} {Q : VK} {us : List Value} {vs : List V} (M : Mk X.K C f) (F : FnOk X.prog X.w X.K X.mg X.base CX k f fd ps sp) (hr : Room (k + 1) X.A) (hb : Binds X.K fd ps ds) (hd : Vals dvs ds)
    (hx : Passes CX X E) (I : Inv X pins σ H s) (r : Vals vs us)
    (h : ∀ x dx, H x = none → H dx = none → dx ≠ x → sp (.ref x :: (vs ++ dvs)) (upd (upd H dx (.own x)) x (.ins C dx [])) (fun v H2 => v = .non ∧ Q (.ref x) H2) E) :
    wpAny (model X.prog X.w) X.A (call (.ref C) us) (EP X pins σ Q) X.xe s := by
  have hq := h (s.heap.objs.size + 1) s.heap.objs.size (I.hok.fresh (Nat.le_succ _)) (I.hok.fresh (Nat.le_refl _)) (Nat.ne_of_lt (Nat.lt_succ_self _))
  have I2 := Inv.made (C := C) I
  have r2 : Vals (V.ref (s.heap.objs.size + 1) :: (vs ++ dvs)) (Value.ref (s.heap.objs.size + 1) :: (us ++ ds)) := .cons rfl (r.append hd)
  have hl : (Value.ref (s.heap.objs.size + 1) :: us ++ ds).length = ps.length := by
    have e := r2.length
    rw [F.len _ _ _ _ hq] at e
    exact e.symm
  refine wpAny_call (make_map (f := f) I.kIn M.makes M.init (beq_iff_eq.mp M.fn) (codeAny_mono (F.run _ X.stack _ _ ⟨Value.ref (s.heap.objs.size + 1) :: us, []⟩ (Value.ref (s.heap.objs.size + 1) :: (us ++ ds)) _ _ E (hr.make C us [])
    (I2.env0.make C us []) (hb _ (Value.ref (s.heap.objs.size + 1) :: us) I2.kIn hl) r2 hq) fun r s' hq' => ?_))
  cases r with
  | error e => exact hx pins σ _ _ e s' I2 hq'
  | ok fl =>
    cases fl with
    | ret u =>
      obtain ⟨v, H', I3, rv, ev, q3⟩ := I2.after hq'
      subst ev
      exact ⟨rv, ⟨V.ref (s.heap.objs.size + 1), H', I3, rfl, q3⟩⟩
    | next => exact False.elim hq'
    | brk => exact False.elim hq'
    | cont => exact False.elim hq'
theorem pe_make (M : Mk X.K C f) (F : FnOk X.prog X.w X.K X.mg X.base CX k f fd ps sp) (hr : Room (k + 1) X.A) (hg : Gl X x) (hm : X.mg x = some (.ref C)) (hb : Binds X.K fd ps ds) (hd : Vals dvs ds) (hx : Passes CX X E)
    (ha : PA X (e :: es) t) (hdb : (x == ("__debug__" : Str)) = false := by decide) (he : starEach (e :: es) X.env = (false, eval e X.env) :: starEach es X.env := by rfl) (hpl : (backTo pos (starEach es X.env)).any (·.1) = false := by rfl) :
    PE X (.Call (.Name x p) (e :: es) [] pos) (tMake C sp dvs E t) := by
  intro pins s σ H Q I h
  refine wpAny_Call_Name_kw (ld_glob I hg hm ?_ hdb)
  refine PySem.W.callWith_K (h₀ := X.base) I.ok.mod.kin M.kp (thn (ha pos pins s σ H _ I h) fun us s1 ⟨vs, H1, I1, r, q⟩ => ⟨I1.kIn, ?_⟩) he hpl
  exact run_make M F hr hb hd hx I1 r q
theorem pe_make0 (M : Mk X.K C f) (F : FnOk X.prog X.w X.K X.mg X.base CX k f fd ps sp) (hr : Room (k + 1) X.A) (hg : Gl X x) (hm : X.mg x = some (.ref C)) (hb : Binds X.K fd ps ds) (hd : Vals dvs ds) (hx : Passes CX X E)
    (hdb : (x == ("__debug__" : Str)) = false := by decide) : PE X (.Call (.Name x p) [] [] pos) (tMake C sp dvs E tNil) := by
  intro pins s σ H Q I h
  refine wpAny_Call_Name_kw (ld_glob I hg hm ?_ hdb)
  exact PySem.W.callWith_K0 I.kIn M.kp (run_make (us := []) M F hr hb hd hx I .nil h)
end
section
variable {X : Cx} {CX : CXT} {k : Nat} {f C : Addr} {fd : FuncData} {ps ks : List Str} {sp : Sp} {E : XK} {x m : Str} {p pos apos kpos : Pos} {e o : Expr} {es : List Expr} {kws : List Keyword} {te ta : TE} {t tk : TA} {nm : Option Str}
variable {g : List Value → List Value → List Value} {gV : List V → List V → List V}
end
structure FnScope (N P : List Str) (sc : Scope) : Prop where
  kind : sc.kind = .function
  co : sc.isCoroutine = false
  gen : sc.isGenerator = false
  nd : N.Nodup
  pre : N.take P.length = P
  par : ∀ x ∈ P, sc.names.lookup x = some .local ∨ sc.names.lookup x = some .cell
  nofree : ∀ y ∈ sc.names, y.2 ≠ .free
theorem bindL_out {kindOf : Str → Option NameKind} {x : Str} : ∀ {binds : List (Str × Value)} {m : Str → Option Value}, (∀ v, (x, v) ∉ binds) → bindL kindOf binds m x = m x
  | [], _, _ => rfl
  | (n, v) :: r, m, h => by
    unfold bindL
    rw [bindL_out fun w hw => h w (List.mem_cons_of_mem _ hw)]
    split
    · have : x ≠ n := by rintro rfl; exact h v List.mem_cons_self
      simp [this]
    · rfl
theorem bindC_out {kindOf : Str → Option NameKind} {x : Str} : ∀ {binds : List (Str × Value)} {m : Str → Option Value}, (∀ v, (x, v) ∉ binds) → bindC kindOf binds m x = m x
  | [], _, _ => rfl
  | (n, v) :: r, m, h => by
    unfold bindC
    rw [bindC_out fun w hw => h w (List.mem_cons_of_mem _ hw)]
    split
    · rfl
    · have : x ≠ n := by rintro rfl; exact h v List.mem_cons_self
      simp [this]
theorem bindL_get {kindOf : Str → Option NameKind} {x : Str} {v : Value} : ∀ {P : List Str} {vs : List Value} {i : Nat} {m : Str → Option Value}, P.Nodup → P[i]? = some x → vs[i]? = some v → kindOf x = some .local →
    bindL kindOf (P.zip vs) m x = some v
  | [], _, _, _, _, h, _, _ => by simp at h
  | _ :: _, [], _, _, _, _, h, _ => by simp at h
  | p :: P, w :: vs, 0, m, nd, h1, h2, hk => by
    simp at h1 h2; subst h1; subst h2
    show bindL kindOf ((p, w) :: P.zip vs) m p = _
    unfold bindL
    rw [bindL_out fun v hv => (List.nodup_cons.mp nd).1 (List.of_mem_zip hv).1, if_pos hk]
    simp
  | p :: P, w :: vs, i + 1, m, nd, h1, h2, hk => by
    show bindL kindOf ((p, w) :: P.zip vs) m x = _
    unfold bindL
    exact bindL_get (i := i) (List.nodup_cons.mp nd).2 (by simpa using h1) (by simpa using h2) hk
theorem bindC_get {kindOf : Str → Option NameKind} {x : Str} {v : Value} : ∀ {P : List Str} {vs : List Value} {i : Nat} {m : Str → Option Value}, P.Nodup → P[i]? = some x → vs[i]? = some v → kindOf x ≠ some .local →
    bindC kindOf (P.zip vs) m x = some v
  | [], _, _, _, _, h, _, _ => by simp at h
  | _ :: _, [], _, _, _, _, h, _ => by simp at h
  | p :: P, w :: vs, 0, m, nd, h1, h2, hk => by
    simp at h1 h2; subst h1; subst h2
    show bindC kindOf ((p, w) :: P.zip vs) m p = _
    unfold bindC
    rw [bindC_out fun v hv => (List.nodup_cons.mp nd).1 (List.of_mem_zip hv).1, if_neg hk]
    simp
  | p :: P, w :: vs, i + 1, m, nd, h1, h2, hk => by
    show bindC kindOf ((p, w) :: P.zip vs) m x = _
    unfold bindC
    exact bindC_get (i := i) (List.nodup_cons.mp nd).2 (by simpa using h1) (by simpa using h2) hk
noncomputable def start (N : List Str) (vs : List V) : St := vs.map some ++ List.replicate (N.length - vs.length) none
noncomputable def cxOf (CX : CXT) (P : Program) (w : World) (K : PySem.W.Frag) (mg : Str → Option Value) (base : Heap) (N : List Str) (qual : Str) (scope : Scope) (f : Addr) (cd : Value) (A : Around) (outer : List Env) (s : Shared) (H : Hp) (E : XK) : Cx where
  prog := P
  w := w
  K := K
  mg := mg
  base := base
  A := A.deeper (envOfC qual scope s.heap.objs.size f cd)
  N := N
  s_0 := s
  H_0 := H
  env := envOfC qual scope s.heap.objs.size f cd
  outer := outer
  stack := envOfC qual scope s.heap.objs.size f cd :: outer
  ex := []
  calm := true
  fn := fun _ => true
  pn := []
  xe := fun e s' => wpAny (model P w) (A.deeper (envOfC qual scope s.heap.objs.size f cd)) (leaving (envOfC qual scope s.heap.objs.size f cd) e) (fun _ s'' => CX outer H s E e s'') (fun e' s'' => CX outer H s E e' s'') s'
theorem cell_has {sc : Scope} {n : Nat} {x : Str} (h : sc.names.lookup x = some .cell) : ∃ c, (cellsFrom n sc.names []).lookup x = some c := by
  have q := PySem.W.cellsFrom_some sc.names n [] (.inl h)
  exact Option.isSome_iff_exists.mp q
theorem inv_start {CX : CXT} {P : Program} {w : World} {K : PySem.W.Frag} {mg : Str → Option Value} {base : Heap} {N ps : List Str} {qual : Str} {scope : Scope} {f : Addr} {cd : Value} {A : Around} {outer : List Env} {s s1 : Shared} {H : Hp} {E : XK} {us : List Value} {vs : List V}
    (S : FnScope N ps scope) (hd : A.handled = none) (e0 : Env0 P w K mg base A outer s H) (hl : vs.length = ps.length) (r : Vals vs us)
    (x : InCallC s s.heap.objs.size (bindL (envOfC qual scope s.heap.objs.size f cd).kindOf (ps.zip us) fun _ => none) (cellsFrom (s.heap.objs.size + 1) scope.names []) (bindC (envOfC qual scope s.heap.objs.size f cd).kindOf (ps.zip us) fun _ => none) s1) :
    Inv (cxOf CX P w K mg base N qual scope f cd A outer s H E) [] (start N vs) H s1 := by
  have hpl : ps.length ≤ N.length := by have := congrArg List.length S.pre; rw [List.length_take] at this; omega
  obtain ⟨h1, tk, rfl, hk⟩ := x.done
  have noA : ∀ b : Addr, b ∉ (cxOf CX P w K mg base N qual scope f cd A outer s H E).ex := fun b z => absurd (show b ∈ ([] : List Addr) from z) (by simp)
  refine ⟨⟨e0.mod, S.kind, rfl, rfl, Nat.le_refl _, fun y z c h1 h2 => ?_, fun y hy => ?_, fun y c _ h => ?_, fun _ => hd, Around.frames_deeper e0.frames, .inr ⟨rfl, rfl⟩, fun b z => absurd z (noA b), e0.bs, e0.bsz, fun b _ _ => noA b, fun b z => absurd z (noA b), e0.funs, e0.frf⟩,
    rfl, e0.bare, Un.kept hk, ⟨_, x.toInCall.ns, fun i y v h1 h2 h3 => ?_⟩, fun y c h => ⟨_, x.cell y c h⟩, e0.hok.fresh (Nat.le_refl _), fun y c h => ?_, fun p hp => absurd (show p ∈ ([] : List (Addr × Obj)) from hp) (by simp), e0.hok.kept hk, ?_⟩
  · exact name_of_addr x.apart (PySem.mem_of_lookup h1) (PySem.mem_of_lookup h2)
  · have hy : scope.names.lookup y = some .cell ∨ scope.names.lookup y = some .free := hy
    rcases hy with hy | hy
    · exact cell_has hy
    · exact absurd rfl (S.nofree _ (PySem.mem_of_lookup hy))
  · exact Nat.le_of_lt (x.above y c (PySem.mem_of_lookup h))
  · have hi : i < vs.length := by
      unfold start at h2
      by_cases hi : i < vs.length
      · exact hi
      · rw [List.getElem?_append_right (by simpa using hi)] at h2
        rw [List.getElem?_replicate] at h2
        split at h2 <;> cases h2
    have ha : vs[i]? = some v := by
      unfold start at h2
      rw [List.getElem?_append_left (by simpa using hi), List.getElem?_map] at h2
      cases e : vs[i]? with
      | none => rw [e] at h2; cases h2
      | some a => rw [e] at h2; cases h2; rfl
    obtain ⟨u, hu, rv⟩ := r.get ha
    have hp : ps[i]? = some y := by
      rw [← S.pre, List.getElem?_take_of_lt (by omega)]; exact h1
    have ndP : ps.Nodup := by rw [← S.pre]; exact S.nd.sublist (List.take_sublist _ _)
    refine ⟨u, rv, ?_⟩
    rcases S.par y (List.mem_of_getElem? hp) with k | k
    · exact .inl ⟨k, bindL_get ndP hp hu k⟩
    · obtain ⟨c, e⟩ := cell_has (n := s.heap.objs.size + 1) k
      refine .inr ⟨.inl k, c, e, ?_⟩
      have q := x.cell y c e
      rw [bindC_get ndP hp hu (by show scope.names.lookup y ≠ _; rw [k]; decide)] at q
      exact q
  · exact e0.hok.fresh (Nat.le_of_lt (x.above y c (PySem.mem_of_lookup h)))
  · unfold start
    show _ = N.length
    rw [List.length_append, List.length_map, List.length_replicate]
    omega
theorem fn_of {CX : CXT} {P : Program} {w : World} {K : PySem.W.Frag} {mg : Str → Option Value} {base : Heap} {k : Nat} {f : Addr} {name qual : Str} {params : Arguments} {body : List Stmt} {scope : Scope} {dV kV doc pm cdv ct oc : Value} {an od : Option Addr}
    {osl : Array (Option Value)} {N ps : List Str} {sp : Sp} (lk : K.lookup f = some ⟨oc, od, .func (PySem.W.fnOf name qual params body scope dV kV doc pm an cdv ct), osl⟩) (hcd : PySem.W.codeIn K cdv qual = true) (S : FnScope N ps scope)
    (len : ∀ vs H Q E, sp vs H Q E → vs.length = ps.length)
    (hbody : ∀ (A : Around) (outer : List Env) (s : Shared) (H : Hp) (vs : List V) (Q : VK) (E : XK), Room k (A.deeper (envOfC qual scope s.heap.objs.size f cdv)) → sp vs H Q E →
      ∃ t, PSs (cxOf CX P w K mg base N qual scope f cdv A outer s H E) body t ∧ t { nx := fun _ H' => Q .non H', rt := Q } (start N vs) H) :
    FnOk P w K mg base CX (k + 1) f (PySem.W.fnOf name qual params body scope dV kV doc pm an cdv ct) ps sp := by
  refine ⟨len, fun A outer s H args us vs Q E hr e0 hb r hsp => ?_⟩
  have hl := len _ _ _ _ hsp
  have KX : K.In s.heap := e0.mod.kin.keeps fun b o e => (e0.bs b o e).1
  have lim : s.heap.NoLimit := e0.mod.nolimit.keeps fun b o e => (e0.bs b o e).1
  have hkind : ∀ y ∈ ps.zip us, scope.names.lookup y.1 = some .local ∨ (scope.names.lookup y.1 = some .cell ∧ ((cellsFrom (s.heap.objs.size + 1) scope.names []).lookup y.1).isSome = true) := fun ⟨n, v⟩ hy => by
    rcases S.par n (List.of_mem_zip hy).1 with q | q
    · exact .inl q
    · exact .inr ⟨q, PySem.W.cellsFrom_some _ _ _ (.inl q)⟩
  refine codeAny_call_function hr.depth (KX _ _ lk) rfl S.co S.gen rfl (PySem.W.codeRec_of KX hcd) (hb _ _ _ _ ?_)
  refine wpAny_newFunctionEnv_cells S.kind hkind fun env he s1 x => ?_
  subst he
  refine ⟨lim.keeps x.toInCall.keep, codeAny_func ?_⟩
  obtain ⟨t, ht, hq⟩ := hbody A outer s H vs Q E (hr.deeper _) hsp
  have I : Inv (cxOf CX P w K mg base N qual scope f cdv A outer s H E) [] (start N vs) H s1 := inv_start S hr.hd e0 hl r x
  refine wpAny_mono (ht [] s1 (start N vs) H _ I hq) (fun fl s' hs => ?_) fun e s' hs => hs
  have fin : ∀ {σ' : St} {H' : Hp} {v : V} {u : Value}, Inv (cxOf CX P w K mg base N qual scope f cdv A outer s H E) [] σ' H' s' → RelV v u → Q v H' → CE outer P w H s Q u s' :=
    fun {σ' H' v u} J rv q => ⟨v, H', J.os, J.bare, J.base, J.hok, rv, q⟩
  cases fl with
  | ret u =>
    obtain ⟨v, σ', H', J, rv, q⟩ := hs
    exact fin J rv q
  | next =>
    obtain ⟨σ', H', J, q⟩ := hs
    exact fin (v := V.non) (u := Value.none) J rfl q
  | brk =>
    obtain ⟨_, _, _, q⟩ := hs
    exact False.elim q
  | cont =>
    obtain ⟨_, _, _, q⟩ := hs
    exact False.elim q
end L2
namespace L2
open PySem PySem.Spec PyProof.Rows
section
variable {X : Cx} {x : Str} {p pos : Pos} {e : Expr} {es : List Expr} {t : TA} {id T : String} {r : List V → Hp → VK → Prop}
noncomputable def tCB (r : List V → Hp → VK → Prop) (t : TA) : TE := fun σ H Q => t σ H fun vs H1 => r vs H1 Q
theorem pe_callB (hc : CallR X (.builtin id) r) (hg : Gl X x) (hm : X.mg x = none) (hv : bootBuiltins x = some (.builtin id)) (ha : PA X (e :: es) t) (hn : x ≠ "__name__" := by decide) (hdb : (x == ("__debug__" : Str)) = false := by decide)
    (he : starEach (e :: es) X.env = (false, eval e X.env) :: starEach es X.env := by rfl) (hpl : (backTo pos (starEach es X.env)).any (·.1) = false := by rfl) : PE X (.Call (.Name x p) (e :: es) [] pos) (tCB r t) := by
  intro pins s σ H Q I h
  refine wpAny_Call_Name_kw (ld_blt I hg hm hv ?_ hn hdb)
  exact PyProof.Rows.callWith_builtin1 (thn (ha pos pins s σ H _ I h) fun us s1 ⟨vs, H1, I1, r1, q1⟩ => hc pins s1 σ H1 vs us Q I1 r1 q1) he hpl
end
end L2
namespace HT
open PySem PyProof.Rows
section
open PySem.SeqAt
open PySem.AutoSeq1 (wpAny_loadPart')
open PySem.MeetsSeq PySem.MeetsSeq2 PySem.MeetsSeq3
end
section
variable {prog : Program} {w : World} {A : Around} {E : Value → Shared → Prop} {s : Shared}
noncomputable def sIx (n d : Nat) : Option Int → Nat
  | none => d
  | some v => if v < 0 then (v + (n : Int)).toNat else min v.toNat n
theorem sIx_nat (n d k : Nat) : sIx n d (some (k : Int)) = min k n := by
  show (if (k : Int) < 0 then ((k : Int) + (n : Int)).toNat else min (k : Int).toNat n) = min k n
  rw [if_neg (by omega), Int.toNat_natCast]
end
end HT
namespace L2
open PySem PySem.Spec PyProof.Rows
noncomputable abbrev TO := St → Hp → (Option Int → Hp → Prop) → Prop
noncomputable def PO (X : Cx) (e : Option Expr) (t : TO) : Prop :=
  ∀ (pins : List (Addr × Obj)) (s : Shared) (σ : St) (H : Hp) (Q : Option Int → Hp → Prop), Inv X pins σ H s → t σ H Q →
    wpAny (model X.prog X.w) X.A (evalPart e X.env) (fun u s' => ∃ o H', Inv X pins σ H' s' ∧ IsPart u o ∧ Q o H') X.xe s
noncomputable def tPart (t : TE) : TO := fun σ H Q => t σ H fun x H1 => ∃ i, x = .int i ∧ Q (some i) H1
section
variable {X : Cx} {e : Expr} {te : TE} {lo hi : Option Expr} {tl th : TO} {pos p2 : Pos}
theorem po_some (h : PE X e te) : PO X (some e) (tPart te) := by
  intro pins s σ H Q I hw
  rw [evalPart_some]
  refine thn (h pins s σ H _ I hw) fun u s1 ⟨x, H1, I1, r1, q1⟩ => ?_
  obtain ⟨i, rfl, q⟩ := q1
  obtain ⟨t, rfl⟩ := r1
  exact ⟨some i, H1, I1, .int i t, q⟩
noncomputable def SlR (X : Cx) (r : V → Option Int → Option Int → Hp → VK → Prop) : Prop :=
  ∀ (pins : List (Addr × Obj)) (s : Shared) (σ : St) (H : Hp) (x : V) (v vl vu : Value) (lo hi : Option Int) (sl : Addr) (Q : VK), Inv X pins σ H s → RelV x v → s.heap.IsSliceOf sl vl vu .none → IsPart vl lo → IsPart vu hi → r x lo hi H Q →
    ∃ T id, typeLookup (.type T) "__getitem__" = pure (some (.builtin id)) ∧ s.TypeIs v T ∧ wpAny (model X.prog X.w) X.A (getItem v (.ref sl)) (EP X pins σ Q) X.xe s
noncomputable def tSl (r : V → Option Int → Option Int → Hp → VK → Prop) (te : TE) (tl th : TO) : TE := fun σ H Q => te σ H fun x H1 => tl σ H1 fun l H2 => th σ H2 fun u H3 => r x l u H3 Q
theorem pe_slice {r : V → Option Int → Option Int → Hp → VK → Prop} (hr : SlR X r) (he : PE X e te) (hl : PO X lo tl) (hu : PO X hi th) : PE X (.Subscript e (.Slice lo hi none p2) pos) (tSl r te tl th) := by
  intro pins s σ H Q I h
  refine Subscript_ (thn (he pins s σ H _ I h) fun v s1 ⟨x, H1, I1, r1, q1⟩ => ?_)
  refine wpAny_Slice (thn (hl pins s1 σ H1 _ I1 q1) fun vl s2 ⟨l, H2, I2, pl, q2⟩ => thn (hu pins s2 σ H2 _ I2 q2) fun vu s3 ⟨u, H3, I3, pu, q3⟩ => ?_)
  rw [evalPart_none]
  refine wpAny_pure ?_
  have I4 : Inv X pins σ H3 { s3 with heap := s3.heap.push { cls := .type "slice", data := .fields #[vl, vu, .none] } } := I3.kept (t' := s3.toks) fun b ob q => Heap.get?_push_of_some _ q
  obtain ⟨T, id, hT, ht, hg⟩ := hr pins { s3 with heap := s3.heap.push { cls := .type "slice", data := .fields #[vl, vu, .none] } } σ H3 x v vl vu l u s3.heap.objs.size Q I4 r1 (Heap.IsSliceOf.new ..) pl pu q3
  show wpAny (model X.prog X.w) X.A (subscriptTail e (.Slice lo hi none p2) v (.ref s3.heap.objs.size)) (EP X pins σ Q) X.xe { s3 with heap := s3.heap.push { cls := .type "slice", data := .fields #[vl, vu, .none] } }
  exact tail_any (ops := [.ref s3.heap.objs.size, v]) ht hT hg (by with_unfolding_all rfl)
noncomputable def cutV (xs : List V) (lo hi : Option Int) : List V := (xs.drop (HT.sIx xs.length 0 lo)).take (HT.sIx xs.length xs.length hi - HT.sIx xs.length 0 lo)
theorem cutV_length (xs : List V) (lo hi : Option Int) : (cutV xs lo hi).length ≤ xs.length := by
  unfold cutV
  rw [List.length_take, List.length_drop]
  omega
end
end L2
namespace L2
open PySem PySem.Spec PyProof.Rows
noncomputable def ixN (n : Nat) (i : Int) : Option Nat := if 0 ≤ i then (if i < n then some i.toNat else none) else if -(n : Int) ≤ i then some (i + n).toNat else none
noncomputable def atI {α : Type} (xs : List α) (i : Int) : Option α := (ixN xs.length i).bind fun j => xs[j]?
theorem ixN_seq {n : Nat} {i : Int} {j : Nat} (h : ixN n i = some j) : seqIndex? i n = some j ∧ j < n ∧ -(n : Int) ≤ i ∧ i < n := by
  unfold ixN at h
  by_cases h0 : 0 ≤ i
  · rw [if_pos h0] at h
    by_cases h1 : i < n
    · rw [if_pos h1] at h
      have e : i.toNat = j := Option.some.inj h
      exact ⟨by rw [seqIndex_of h0 h1, e], by omega, by omega, h1⟩
    · rw [if_neg h1] at h; cases h
  · rw [if_neg h0] at h
    by_cases h1 : -(n : Int) ≤ i
    · rw [if_pos h1] at h
      have e : (i + n).toNat = j := Option.some.inj h
      exact ⟨by rw [seqIndex_neg (by omega) h1, e], by omega, h1, by omega⟩
    · rw [if_neg h1] at h; cases h
theorem atI_get {α : Type} {xs : List α} {i : Int} {v : α} (h : atI xs i = some v) : ∃ j, seqIndex? i xs.length = some j ∧ xs[j]? = some v ∧ j < xs.length ∧ -(xs.length : Int) ≤ i ∧ i < xs.length := by
  unfold atI at h
  cases e : ixN xs.length i with
  | none => rw [e] at h; cases h
  | some j =>
    rw [e] at h
    obtain ⟨h1, h2, h3, h4⟩ := ixN_seq e
    exact ⟨j, h1, h, h2, h3, h4⟩
theorem atI_nat {α : Type} {xs : List α} {j : Nat} {v : α} (h : xs[j]? = some v) : atI xs (j : Int) = some v := by
  have hj : j < xs.length := (List.getElem?_eq_some_iff.mp h).1
  have e : ixN xs.length (j : Int) = some j := by
    unfold ixN
    rw [if_pos (by omega), if_pos (by omega)]; simp
  unfold atI; rw [e]; exact h
noncomputable def PlainIx (b : Expr) : Prop := ∀ o i, subscripted b false o i = operate [o, i] (getItem o i)
noncomputable def IxR (X : Cx) (r : R2) : Prop :=
  ∀ (value slice : Expr) (pins : List (Addr × Obj)) (s : Shared) (σ : St) (H : Hp) (x y : V) (v u : Value) (Q : VK), Inv X pins σ H s → RelV x v → RelV y u → r x y H Q →
    subscripted slice false v u = operate [v, u] (getItem v u) → wpAny (model X.prog X.w) X.A (subscriptTail value slice v u) (EP X pins σ Q) X.xe s
noncomputable def MtR (X : Cx) (id : String) (r : V → List V → Hp → VK → Prop) : Prop :=
  ∀ (pins : List (Addr × Obj)) (s : Shared) (σ : St) (H : Hp) (x : V) (xs : List V) (v : Value) (us : List Value) (Q : VK), Inv X pins σ H s → RelV x v → Vals xs us → r x xs H Q →
    wpAny (model X.prog X.w) X.A (call (.builtin id) (v :: us)) (EP X pins σ Q) X.xe s
section
variable {X : Cx} {a b : Expr} {ta tb : TE} {pos : Pos}
theorem pe_ix {r : R2} (hr : IxR X r) (ha : PE X a ta) (hb : PE X b tb) (hs : PlainIx b) : PE X (.Subscript a b pos) (tOp r ta tb) := by
  intro pins s σ H Q I h
  exact Subscript_ (binT ha hb I h fun v u s2 x y H2 I2 rx ry q => hr a b pins s2 σ H2 x y v u Q I2 rx ry q (hs _ _))
noncomputable def rIxL (K : PySem.W.Frag) : R2 := fun x y H Q => ∃ p xs i v, x = .ref p ∧ y = .int i ∧ SqL K H p xs ∧ atI xs i = some v ∧ Q v H
noncomputable def rIxT (K : PySem.W.Frag) : R2 := fun x y H Q => ∃ p xs i v, x = .ref p ∧ y = .int i ∧ SqT K H p xs ∧ atI xs i = some v ∧ Q v H
theorem ix_list : IxR X (rIxL X.K) := by
  intro value slice pins s σ H x y v u Q I rx ry h hs
  obtain ⟨p, xs, i, z, rfl, rfl, hq, he, q⟩ := h
  cases rx
  obtain ⟨t, rfl⟩ := ry
  obtain ⟨its, r, pl, hz⟩ := I.list hq
  obtain ⟨j, h1, h2, h3, h4, h5⟩ := atI_get he
  obtain ⟨w, ew, rw'⟩ := r.get h2
  have hl := r.length
  have hn := line63
  have fin : EP X pins σ Q w s := ⟨z, H, I, rw', q⟩
  by_cases h0 : 0 ≤ i
  · have hj : i.toNat = j := by
      rw [seqIndex_of h0 h5] at h1
      exact Option.some.inj h1
    exact item_listR pl.isList h0 (by omega) (by rw [hj]; simpa using ew) fin hs
  · have hj : (i + (its.toArray.size : Int)).toNat = j := by
      rw [seqIndex_neg (by omega) h4] at h1
      rw [List.size_toArray, ← hl]
      exact Option.some.inj h1
    exact subscriptTail_builtinR (x := w) pl.isList.typeIs slot_list_getitem.lookup
      (wpAny_getItem_list_neg (Q := fun r s' => r = w ∧ EP X pins σ Q r s') pl.isList (by omega) (by rw [List.size_toArray] <;> omega) (by omega) (by rw [hj]; simpa using ew) ⟨rfl, fin⟩) hs
theorem ix_tup : IxR X (rIxT X.K) := by
  intro value slice pins s σ H x y v u Q I rx ry h hs
  obtain ⟨p, xs, i, z, rfl, rfl, hq, he, q⟩ := h
  cases rx
  obtain ⟨t, rfl⟩ := ry
  obtain ⟨its, r, pl, hz⟩ := I.tuple hq
  obtain ⟨j, h1, h2, h3, h4, h5⟩ := atI_get he
  obtain ⟨w, ew, rw'⟩ := r.get h2
  have hl := r.length
  have hn := line63
  have fin : EP X pins σ Q w s := ⟨z, H, I, rw', q⟩
  exact subscriptTail_builtinR (x := w) pl.typeIs slot_tuple_getitem.lookup
    (getItem_tuple (j := j) (Q := fun r s' => r = w ∧ EP X pins σ Q r s') pl (by omega) (by omega) (by rw [List.size_toArray, ← hl]; exact h1) (by simpa using ew) ⟨rfl, fin⟩) hs
theorem slice_bounds (lo hi : Option Int) (n : Nat) : (sliceBounds lo hi none n).1 = ((HT.sIx n 0 lo : Nat) : Int) ∧ (sliceBounds lo hi none n).2.1 = ((HT.sIx n n hi : Nat) : Int) ∧ (sliceBounds lo hi none n).2.2 = 1 := by
  refine ⟨?_, ?_, rfl⟩
  · cases lo with
    | none => simp [sliceBounds, HT.sIx]
    | some i =>
      simp only [sliceBounds, HT.sIx, Option.getD_none, show (1 : Int) > 0 by decide, if_true]
      by_cases h : i < 0
      · simp only [h, if_true] <;> omega
      · simp only [h, if_false] <;> omega
  · cases hi with
    | none => simp [sliceBounds, HT.sIx]
    | some i =>
      simp only [sliceBounds, HT.sIx, Option.getD_none, show (1 : Int) > 0 by decide, if_true]
      by_cases h : i < 0
      · simp only [h, if_true] <;> omega
      · simp only [h, if_false] <;> omega
theorem slicePick_cut (its : List Value) (lo hi : Option Int) : slicePick its.toArray lo hi none = ((its.drop (HT.sIx its.length 0 lo)).take (HT.sIx its.length its.length hi - HT.sIx its.length 0 lo)).toArray := by
  obtain ⟨h1, h2, h3⟩ := slice_bounds lo hi its.toArray.size
  unfold slicePick
  rw [h1, h2, h3]
  simp only [sliceRange_one, pick_run, List.size_toArray] <;> rfl
noncomputable def rSlL (K : PySem.W.Frag) : V → Option Int → Option Int → Hp → VK → Prop := fun x lo hi H Q => ∃ a xs, x = .ref a ∧ SqL K H a xs ∧ ∀ p, H p = none → Q (.ref p) (upd H p (.lst (cutV xs lo hi)))
theorem sl_list : SlR X (rSlL X.K) := by
  intro pins s σ H x v vl vu lo hi sl Q I rx hs pl pu h
  obtain ⟨a, xs, rfl, hx, q⟩ := h
  cases rx
  obtain ⟨its, r, ht, hz⟩ := I.list hx
  have hlen := r.length
  refine ⟨"list", _, slot_list_getitem.lookup, ht.isList.typeIs, ?_⟩
  refine wpAny_getItem_list_slice ht.isList hs pl pu .none (by simp) ?_ (by rw [List.size_toArray] <;> omega)
  rw [slicePick_cut, ← hlen]
  refine ⟨.ref s.heap.objs.size, _, I.laid (t' := s.toks) (o := .lst (cutV xs lo hi)) (fun b ob q => Heap.get?_push_of_some _ q) (Nat.le_refl _) ?_, rfl, q _ (I.hok.fresh (Nat.le_refl _))⟩
  exact ⟨Nat.le_trans (cutV_length xs lo hi) hz, _, 0, (r.drop (HT.sIx xs.length 0 lo)).take (HT.sIx xs.length xs.length hi - HT.sIx xs.length 0 lo), Heap.get?_push_size _ rfl⟩
theorem call_len_seq : CallR X (.builtin "len") (fun xs H Q => ∃ p ys, xs = [.ref p] ∧ (SqL X.K H p ys ∨ SqT X.K H p ys) ∧ Q (.int ys.length) H) := by
  intro pins s σ H xs us Q I r h
  obtain ⟨p, ys, rfl, hq, q⟩ := h
  obtain ⟨u, rfl, rx⟩ := vals1 r
  cases rx
  have hn := line63
  rcases hq with hq | hq
  · obtain ⟨its, r', pl, hz⟩ := I.list hq
    have hlen := r'.length
    exact Calls.call_len_list pl.isList (by simp only [List.size_toArray] <;> omega) ⟨.int ys.length, H, I.tok _, ⟨s.toks + 1, by rw [List.size_toArray, hlen]⟩, q⟩
  · obtain ⟨its, r', pl, hz⟩ := I.tuple hq
    have hlen := r'.length
    exact len_tuple pl (by simp only [List.size_toArray] <;> omega) ⟨.int ys.length, H, I.tok _, ⟨s.toks + 1, by rw [List.size_toArray, hlen]⟩, q⟩
noncomputable def tyV (K : PySem.W.Frag) (T : String) (x : V) (H : Hp) : Prop := match x with
  | .str _ => T = "str"
  | .int _ => T = "int"
  | .ref p => (T = "list" ∧ ∃ xs, SqL K H p xs) ∨ (T = "tuple" ∧ ∃ o, K.lookup p = some o ∧ o.cls = .type "tuple" ∧ o.dict = none) ∨
      (T = "dict" ∧ ((∃ kvs, H p = some (.dK kvs)) ∨ ∃ kvs, H p = some (.dT kvs))) ∨ (T = "set" ∧ ∃ S n, H p = some (.set S n))
  | _ => False
theorem tyV_is {pins : List (Addr × Obj)} {σ : St} {H : Hp} {s : Shared} {T : String} {x : V} {v : Value} (I : Inv X pins σ H s) (r : RelV x v) (ty : tyV X.K T x H) :
    s.TypeIs v T ∧ ∀ a, v = .ref a → ∃ ob, s.heap.get? a = some ob ∧ ob.dict = none := by
  cases x with
  | str z =>
    obtain ⟨t, rfl⟩ := r
    cases (show T = "str" from ty)
    exact ⟨typeIs_str s z t, fun _ e => nomatch e⟩
  | int i =>
    obtain ⟨t, rfl⟩ := r
    cases (show T = "int" from ty)
    exact ⟨typeIs_int s i t, fun _ e => nomatch e⟩
  | ref p =>
    cases r
    rcases ty with ⟨rfl, xs, hq⟩ | ⟨rfl, o, hk, hc, hd⟩ | ⟨rfl, hk⟩ | ⟨rfl, S, n, hk⟩
    · obtain ⟨its, _, pl, _⟩ := I.list hq
      refine ⟨pl.isList.typeIs, fun a e => ?_⟩
      cases e
      obtain ⟨o, n, e, c, hd, _⟩ := pl
      exact ⟨o, e, hd⟩
    · refine ⟨⟨o, I.kIn p o hk, hc⟩, fun a e => ?_⟩
      cases e
      exact ⟨o, I.kIn _ o hk, hd⟩
    · have z : ∃ o, s.heap.get? p = some o ∧ o.ExactDict := by
        rcases hk with ⟨kvs, hk⟩ | ⟨kvs, hk⟩
        · obtain ⟨_, _, _, _, o, _, _, e, ex, _⟩ := I.hok p _ hk
          exact ⟨o, e, ex⟩
        · obtain ⟨_, _, _, _, o, _, _, e, ex, _⟩ := I.hok p _ hk
          exact ⟨o, e, ex⟩
      obtain ⟨o, e, ex⟩ := z
      refine ⟨⟨o, e, ex.1⟩, fun a e2 => ?_⟩
      cases e2
      exact ⟨o, e, ex.2.1⟩
    · obtain ⟨o, _, _, _, e, ex, _⟩ := I.hok p _ hk
      refine ⟨⟨o, e, ex.1⟩, fun a e2 => ?_⟩
      cases e2
      exact ⟨o, e, ex.2.1⟩
  | _ => exact False.elim ty
noncomputable def tBM (K : PySem.W.Frag) (T : String) (r : V → List V → Hp → VK → Prop) (to : TE) (t : TA) : TE := fun σ H Q => to σ H fun x H1 => tyV K T x H1 ∧ t σ H1 fun xs H2 => r x xs H2 Q
variable {o e : Expr} {es : List Expr} {to : TE} {t : TA} {name : Str} {apos cpos : Pos} {T id : String} {r : V → List V → Hp → VK → Prop}
theorem pe_bm (pa : PlainAttrs T) (slot : Slot T name id) (hty : typeOf (.builtin id) = pure (.type "method_descriptor")) (hm : MtR X id r) (ho : PE X o to) (ha : PA X (e :: es) t)
    (hbase : attributeBase o name X.env (eval o X.env) = eval o X.env := by rfl)
    (hfew : ((backTo cpos (starEach (e :: es) X.env)).all (fun x => !x.1) && (backToKw cpos (keywordEach [] X.env)).all (fun x => x.1.isSome)
      && decide ((e :: es).length + ([] : List Keyword).length + (if ([] : List Keyword).isEmpty then 0 else 1) < 30)) = true := by rfl)
    (hline : (apos.endLine == cpos.line) = true := by rfl) (hs : starEach (e :: es) X.env = (false, eval e X.env) :: starEach es X.env := by rfl) (hplain : (backTo cpos (starEach es X.env)).any (·.1) = false := by rfl) :
    PE X (.Call (.Attribute o name apos) (e :: es) [] cpos) (tBM X.K T r to t) := by
  intro pins s σ H Q I h
  refine wpAny_Call_method_late hbase hfew hline rfl (thn (ho pins s σ H _ I h) fun v s1 ⟨x, H1, I1, r1, ty, q1⟩ => ?_)
  obtain ⟨h1, h2⟩ := tyV_is I1 r1 ty
  refine ⟨T, id, pa, slot, hty, h1, h2, ?_⟩
  have hA := ha cpos pins s1 σ H1 _ I1 q1
  rw [hs] at hA ⊢
  refine Calls.callWith_builtin (by show (false || (backTo cpos (starEach es X.env)).any (·.1)) = false; rw [hplain] <;> rfl) (Calls.evalArgs_plain ?_)
  exact thn hA fun us s2 ⟨vs, H2, I2, r2, q2⟩ => hm pins s2 σ H2 x vs v us Q I2 r1 r2 q2
end
end L2
namespace L2
open PySem PySem.Spec PyProof.Rows
noncomputable def MtM (X : Cx) (id : String) (r : V → List V → Hp → VK → Prop) : Prop :=
  ∀ (pins : List (Addr × Obj)) (s : Shared) (σ : St) (H : Hp) (x : V) (xs : List V) (v : Value) (us : List Value) (Q : VK), Inv X pins σ H s → RelV x v → Vals xs us → r x xs H Q →
    wpAny (model X.prog X.w) X.A (call (.builtin id) (v :: us)) (EP X pins σ Q) X.xe s
theorem Vals.one : ∀ {x : V} {us : List Value}, Vals [x] us → ∃ u, us = [u] ∧ RelV x u
  | _, _, .cons r .nil => ⟨_, rfl, r⟩
section
variable {X : Cx} {pins : List (Addr × Obj)} {σ : St} {H : Hp} {s : Shared} {l b : Addr} {xs ys zs : List V}
theorem Inv.lset {its its' : List Value} {n : Nat} {f : Array Value → Array Value} {t' : Nat} (I : Inv X pins σ H s) (hH : H l = some (.lst xs))
    (e : s.heap.get? l = some { cls := .type "list", data := .seq its.toArray n }) (hf : f its.toArray = its'.toArray) (hv : Vals ys its') (hz : ys.length ≤ sizeLine) :
    Inv X pins σ (upd H l (.lst ys)) { s with heap := s.heap.update l (Obj.mapSeq f), toks := t' } := by
  have q := PySem.IsL.update e f
  rw [hf] at q
  refine I.write (x := l) (e := l) (by rw [hH]; exact trivial) (.inl rfl) (fun b' u hb hu => (Heap.get?_update_other s.heap (Obj.mapSeq f) (Ne.symm hb)).trans hu) ⟨_, q⟩ ?_
  exact ⟨hz, its', _, hv, q⟩
theorem Inv.lnew {its : List Value} {t' : Nat} (I : Inv X pins σ H s) (hv : Vals ys its) (hz : ys.length ≤ sizeLine) :
    Inv X pins σ (upd H s.heap.objs.size (.lst ys)) { s with heap := s.heap.push { cls := .type "list", data := .seq its.toArray }, toks := t' } :=
  I.laid (fun _ _ q => Heap.get?_push_of_some _ q) (Nat.le_refl _) ⟨hz, its, 0, hv, Heap.get?_push_size _ rfl⟩
theorem Inv.fresh (I : Inv X pins σ H s) : H s.heap.objs.size = none := I.hok.fresh (Nat.le_refl _)
theorem Inv.lstM (I : Inv X pins σ H s) (hH : H l = some (.lst xs)) : xs.length ≤ sizeLine ∧ ∃ (its : List Value) (n : Nat), Vals xs its ∧ xs.length = its.length ∧ s.heap.get? l = some { cls := .type "list", data := .seq its.toArray n } := by
  obtain ⟨z, its, n, r, e⟩ := I.hok l _ hH
  exact ⟨z, its, n, r, r.length, e⟩
theorem notLongL {n : Nat} (h : n ≤ sizeLine) : Builtin.List.listTooLong n = false := by
  unfold Builtin.List.listTooLong
  exact decide_eq_false (by omega)
end
section
variable {X : Cx}
noncomputable def rAppend : V → List V → Hp → VK → Prop := fun x vs H Q => ∃ l xs y, x = .ref l ∧ vs = [y] ∧ H l = some (.lst xs) ∧ xs.length < sizeLine ∧ Q .non (upd H l (.lst (xs ++ [y])))
theorem mt_append : MtM X "list.append" rAppend := by
  intro pins s σ H x vs v us Q I rx rv h
  obtain ⟨l, xs, y, rfl, rfl, hH, hz, q⟩ := h
  cases rx
  obtain ⟨u, rfl, ru⟩ := rv.one
  obtain ⟨z, its, n, r, hl, e⟩ := I.lstM hH
  refine call_meets F.slot_list_append ⟨_, e, rfl⟩ F.entry_list_append (F.args_list_append_2 _ _) (PySem.list_append l its.toArray n u (by rw [List.size_toArray]; omega)) ⟨e, ?_⟩
  refine ⟨.non, _, I.lset (its' := its ++ [u]) hH e (by simp) (r.append (.cons ru .nil)) ?_, rfl, q⟩
  rw [List.length_append, List.length_singleton]
  omega
noncomputable def rExtend : V → List V → Hp → VK → Prop := fun x vs H Q => ∃ l b xs zs, x = .ref l ∧ vs = [.ref b] ∧ H l = some (.lst xs) ∧ H b = some (.lst zs) ∧ xs.length + zs.length ≤ sizeLine ∧ Q .non (upd H l (.lst (xs ++ zs)))
theorem mt_extend : MtM X "list.extend" rExtend := by
  intro pins s σ H x vs v us Q I rx rv h
  obtain ⟨l, b, xs, zs, rfl, rfl, hH, hB, hz, q⟩ := h
  cases rx
  obtain ⟨u, rfl, ru⟩ := rv.one
  cases ru
  obtain ⟨z, its, n, r, hl, e⟩ := I.lstM hH
  obtain ⟨z2, its2, n2, r2, hl2, e2⟩ := I.lstM hB
  have hsz : its.toArray.size + its2.toArray.size ≤ sizeLine := by rw [List.size_toArray, List.size_toArray]; omega
  have hlong : ¬ (!its.toArray.isEmpty && Builtin.List.listTooLong (its.toArray.size + its2.toArray.size)) = true := by
    rw [notLongL hsz, Bool.and_false]
    exact Bool.false_ne_true
  refine call_meets F.slot_list_extend ⟨_, e, rfl⟩ F.entry_list_extend (F.args_list_extend_2 _ _)
    (AutoSeq1.list_extend_list_list_0 l its.toArray n b its2.toArray n2 hlong (by rw [List.size_toArray]; omega) (by omega)) ⟨e, e2, ?_⟩
  refine ⟨.non, _, I.lset (its' := its ++ its2) hH e (by simp) (r.append r2) ?_, rfl, q⟩
  rw [List.length_append]
  omega
noncomputable def rCat : R2 := fun x y H Q => ∃ l b xs zs, x = .ref l ∧ y = .ref b ∧ H l = some (.lst xs) ∧ H b = some (.lst zs) ∧ xs.length + zs.length ≤ sizeLine ∧ ∀ p, H p = none → Q (.ref p) (upd H p (.lst (xs ++ zs)))
theorem op_cat : OpR X (binaryOp .Add) rCat := by
  intro pins s σ H x y v u Q I rx ry h
  obtain ⟨l, b, xs, zs, rfl, rfl, hH, hB, hz, q⟩ := h
  cases rx
  cases ry
  obtain ⟨z, its, n, r, hl, e⟩ := I.lstM hH
  obtain ⟨z2, its2, n2, r2, hl2, e2⟩ := I.lstM hB
  refine PySem.P.add_list e e2 ?_ (by rw [List.size_toArray, List.size_toArray]; omega)
  have ea : its.toArray ++ its2.toArray = (its ++ its2).toArray := by simp
  rw [ea]
  exact ⟨.ref _, _, I.lnew (t' := s.toks) (r.append r2) (by rw [List.length_append]; omega), rfl, q _ I.fresh⟩
end
section
variable {prog : Program} {w : World} {A : Around} {E : Value → Shared → Prop} {s : Shared}
set_option maxRecDepth 100000 in
end
section
variable {X : Cx}
end
end L2
namespace L2
open PySem PySem.Spec PyProof.Rows
theorem Vals.ints : ∀ {ns : List Int} {us : List Value}, Vals (ns.map V.int) us → IntsAre us ns
  | [], us, h => by
    rw [List.map_nil] at h
    cases h
    exact IntsAre.nil
  | n :: ns, us, h => by
    rw [List.map_cons] at h
    cases h with
    | cons r t =>
      obtain ⟨k, rfl⟩ := r
      exact IntsAre.cons n k (Vals.ints t)
theorem vals_of_ints : ∀ {us : List Value} {ns : List Int}, IntsAre us ns → Vals (ns.map V.int) us
  | _, _, .nil => by rw [List.map_nil]; exact Paired.nil
  | _, _, .cons n t h => by rw [List.map_cons]; exact Paired.cons (show RelV (V.int n) (Value.int n t) from ⟨t, rfl⟩) (vals_of_ints h)
theorem Vals.ref1 {a : Addr} {us : List Value} (r : Vals [V.ref a] us) : us = [Value.ref a] := by
  cases r with
  | cons r t =>
    cases t
    cases r
    rfl
theorem Vals.int2 {i j : Int} {us : List Value} (r : Vals [V.int i, V.int j] us) : ∃ t u, us = [Value.int i t, Value.int j u] := by
  cases r with
  | cons r t =>
    cases t with
    | cons r2 t2 =>
      cases t2
      obtain ⟨t, rfl⟩ := r
      obtain ⟨u, rfl⟩ := r2
      exact ⟨t, u, rfl⟩
section
variable {prog : Program} {w : World} {A : Around} {E : Value → Shared → Prop} {s : Shared} {l : Addr} {its : List Value} {ns : List Int} {Q : Value → Shared → Prop}
theorem min_raw (hh : A.handled = none) (hl : s.heap.IsList l its.toArray) (hi : IntsAre its ns) (hne : 0 < ns.length)
    (h : ∀ h' tk M t', (∀ b o, s.heap.get? b = some o → h'.get? b = some o) → M ∈ ns → (∀ a, a ∈ ns → M ≤ a) → Q (.int M t') { s with heap := h', toks := tk }) : wpAny (model prog w) A (call (.builtin "min") [.ref l]) Q E s := by
  obtain ⟨xs, e⟩ := hi.allInts.items
  have hn : numsOf (intItems xs).toList = ns := by rw [← e]; exact hi.numsOf
  rw [nums_intItems] at hn
  subst hn
  rw [e] at hl
  have hsz : 0 < xs.size := by simpa using hne
  refine PySem.min_intList hh hl hsz fun v h' tk hv hk => ?_
  obtain ⟨t, rfl⟩ := intItems_at hv
  obtain ⟨h1, h2⟩ := argBest_lt (numAt xs) (xs.size - 1)
  refine h h' tk _ t hk ?_ fun a ha => ?_
  · rw [numAt_eq]; exact PySem.getD_mem (by rw [List.length_map, Array.length_toList]; omega)
  · obtain ⟨j, hj, rfl⟩ := mem_getD ha
    rw [List.length_map, Array.length_toList] at hj
    rw [← numAt_eq]; exact h2 j (by omega)
end
section
variable {X : Cx}
noncomputable def rMin (K : PySem.W.Frag) : List V → Hp → VK → Prop := fun vs H Q => ∃ (a : Addr) (ns : List Int), vs = [V.ref a] ∧ SqL K H a (ns.map V.int) ∧ 0 < ns.length ∧ ∀ m, m ∈ ns → (∀ y, y ∈ ns → m ≤ y) → Q (.int m) H
theorem cr_min (hc : X.calm = true) : CallR X (.builtin "min") (rMin X.K) := by
  intro pins s σ H vs us Q I r h
  obtain ⟨a, ns, rfl, hs, hne, q⟩ := h
  obtain ⟨its, rv, hl, _⟩ := I.list hs
  rw [Vals.ref1 r]
  exact min_raw (I.ok.hd hc) hl.isList rv.ints hne fun h' tk m t' hk h1 h2 => ⟨.int _, H, I.kept hk, ⟨_, rfl⟩, q m h1 h2⟩
end
section
variable {X : Cx}
end
section
variable {X : Cx}
end
section
variable {X : Cx}
end
section
variable {X : Cx} {pins : List (Addr × Obj)} {σ : St} {H : Hp} {s : Shared}
end
section
variable {X : Cx}
end
end L2
namespace L2
open PySem PySem.Spec PyProof.Rows
noncomputable abbrev CellAt (h : Heap) (c : Addr) (v : Option Value) : Prop := h.IsCell c v
noncomputable def relS (scope sc : Scope) : Scope :=
  { scope with names := scope.names.map fun (n, k) => if (k == .free && sc.kind == .function && sc.names.lookup n == some .cell) then (n, .cell) else (n, k) }
noncomputable def cloFrom (cells : List (Str × Addr)) : List (Str × NameKind) → List (Str × Addr) → List (Str × Addr)
  | [], acc => acc
  | (n, k) :: r, acc => if k == .free then cloFrom cells r ((n, (cells.lookup n).getD 0) :: acc) else cloFrom cells r acc
theorem closure_loop (env : Env) (f : Str × NameKind → List (Str × Addr) → Sem (ForInStep (List (Str × Addr))))
    (hf : ∀ n k c, f (n, k) c = if k == .free then (do let a ← cellOf env n; pure (.yield ((n, a) :: c))) else pure (.yield c)) :
    ∀ (names : List (Str × NameKind)) (acc : List (Str × Addr)), (∀ y ∈ names, y.2 = .free → ∃ c, env.cells.lookup y.1 = some c) → forIn names acc f = pure (cloFrom env.cells names acc)
  | [], acc, _ => by rw [List.forIn_nil]; rfl
  | (n, k) :: r, acc, h => by
    rw [List.forIn_cons, hf]
    have ih := fun acc => closure_loop env f hf r acc fun y hy => h y (List.mem_cons_of_mem _ hy)
    unfold cloFrom
    by_cases hk : (k == NameKind.free) = true
    · rw [if_pos hk, if_pos hk]
      obtain ⟨c, hc⟩ := h (n, k) List.mem_cons_self (by simpa using hk)
      have e : cellOf env n = pure c := by unfold cellOf; rw [hc]
      rw [e]
      have e2 : (env.cells.lookup n).getD 0 = c := by rw [hc]; rfl
      rw [e2]
      exact ih _
    · rw [if_neg hk, if_neg hk]
      exact ih _
theorem closure_ok {scope : Scope} {env : Env} (h : ∀ y ∈ scope.names, y.2 = .free → ∃ c, env.cells.lookup y.1 = some c) : closureFor scope env = pure (cloFrom env.cells scope.names []) := by
  simp only [closureFor]
  rw [closure_loop env _ (fun n k c => rfl) scope.names [] h]
  rfl
theorem mem_lookup {α : Type} : ∀ {l : List (Str × α)} {n : Str} {c : α}, (n, c) ∈ l → ∃ c', l.lookup n = some c'
  | (k, v) :: r, n, c, h => by
    rw [List.lookup_cons]
    cases hb : n == k with
    | true => exact ⟨_, rfl⟩
    | false =>
      rcases List.mem_cons.mp h with e | h
      · cases e; simp at hb
      · exact mem_lookup h
theorem cloFrom_mem {cells : List (Str × Addr)} : ∀ {names : List (Str × NameKind)} {acc : List (Str × Addr)} {n : Str} {c : Addr}, (n, c) ∈ cloFrom cells names acc → (n, c) ∈ acc ∨ ((n, .free) ∈ names ∧ c = (cells.lookup n).getD 0)
  | [], _, _, _, h => .inl h
  | (m, k) :: r, acc, n, c, h => by
    unfold cloFrom at h
    split at h
    · rename_i hk
      have hk : k = .free := by simpa using hk
      rcases cloFrom_mem h with h | ⟨h1, h2⟩
      · rcases List.mem_cons.mp h with e | h
        · cases e; exact .inr ⟨hk ▸ List.mem_cons_self, rfl⟩
        · exact .inl h
      · exact .inr ⟨List.mem_cons_of_mem _ h1, h2⟩
    · rcases cloFrom_mem h with h | ⟨h1, h2⟩
      · exact .inl h
      · exact .inr ⟨List.mem_cons_of_mem _ h1, h2⟩
theorem cloFrom_acc {cells : List (Str × Addr)} : ∀ {names : List (Str × NameKind)} {acc : List (Str × Addr)} {p : Str × Addr}, p ∈ acc → p ∈ cloFrom cells names acc
  | [], _, _, h => h
  | (m, k) :: r, acc, p, h => by
    unfold cloFrom
    split
    · exact cloFrom_acc (List.mem_cons_of_mem _ h)
    · exact cloFrom_acc h
theorem cloFrom_has {cells : List (Str × Addr)} : ∀ {names : List (Str × NameKind)} {acc : List (Str × Addr)} {n : Str}, (n, .free) ∈ names → (n, (cells.lookup n).getD 0) ∈ cloFrom cells names acc
  | (m, k) :: r, acc, n, h => by
    unfold cloFrom
    rcases List.mem_cons.mp h with e | h
    · cases e
      exact cloFrom_acc List.mem_cons_self
    · split
      · exact cloFrom_has h
      · exact cloFrom_has h
theorem cells_mem : ∀ {names : List (Str × NameKind)} {h : Heap} {acc : List (Str × Addr)} {x : Str} {c : Addr}, (x, c) ∈ cellsFrom h.objs.size names acc →
    (x, c) ∈ acc ∨ ((x, .cell) ∈ names ∧ h.objs.size ≤ c ∧ CellAt (pushCells h names) c none)
  | [], _, _, _, _, h => .inl h
  | (n, k) :: r, h, acc, x, c, hm => by
    unfold cellsFrom at hm
    unfold pushCells
    split at hm
    · rename_i hk
      rw [if_pos hk]
      have hk : k = .cell := by simpa using hk
      rw [← Heap.size_push h { cls := .type "cell", data := .cell none }] at hm
      rcases cells_mem hm with hm | ⟨h1, h2, h3⟩
      · rcases List.mem_cons.mp hm with e | hm
        · cases e
          exact .inr ⟨hk ▸ List.mem_cons_self, Nat.le_refl _, _, pushCells_keeps r _ _ _ (Heap.get?_push_size _ rfl), rfl⟩
        · exact .inl hm
      · rw [Heap.size_push] at h2
        exact .inr ⟨List.mem_cons_of_mem _ h1, Nat.le_of_succ_le h2, h3⟩
    · rename_i hk
      rw [if_neg hk]
      rcases cells_mem hm with hm | ⟨h1, h2, h3⟩
      · exact .inl hm
      · exact .inr ⟨List.mem_cons_of_mem _ h1, h2, h3⟩
theorem cells_acc : ∀ {names : List (Str × NameKind)} {n : Nat} {acc : List (Str × Addr)} {p : Str × Addr}, p ∈ acc → p ∈ cellsFrom n names acc
  | [], _, _, _, h => h
  | (m, k) :: r, n, acc, p, h => by
    unfold cellsFrom
    split
    · exact cells_acc (List.mem_cons_of_mem _ h)
    · exact cells_acc h
theorem cells_has : ∀ {names : List (Str × NameKind)} {n : Nat} {acc : List (Str × Addr)} {x : Str}, (x, .cell) ∈ names → ∃ c, (x, c) ∈ cellsFrom n names acc
  | (m, k) :: r, n, acc, x, h => by
    unfold cellsFrom
    rcases List.mem_cons.mp h with e | h
    · cases e
      exact ⟨n, cells_acc List.mem_cons_self⟩
    · split
      · exact cells_has h
      · exact cells_has h
theorem cells_inj : ∀ {names : List (Str × NameKind)} {h : Heap} {acc : List (Str × Addr)} {x y : Str} {c : Addr}, (∀ p ∈ acc, p.2 < h.objs.size) → (∀ x y c, (x, c) ∈ acc → (y, c) ∈ acc → x = y) →
    (x, c) ∈ cellsFrom h.objs.size names acc → (y, c) ∈ cellsFrom h.objs.size names acc → x = y
  | [], _, _, _, _, _, _, hi, h1, h2 => hi _ _ _ h1 h2
  | (n, k) :: r, h, acc, x, y, c, hl, hi, h1, h2 => by
    unfold cellsFrom at h1 h2
    split at h1
    · rename_i hk
      rw [if_pos hk] at h2
      rw [← Heap.size_push h { cls := .type "cell", data := .cell none }] at h1 h2
      refine cells_inj (h := h.push _) (fun p hp => ?_) (fun x y c a b => ?_) h1 h2
      · rw [Heap.size_push]
        rcases List.mem_cons.mp hp with rfl | hp
        · exact Nat.lt_succ_self _
        · exact Nat.lt_succ_of_lt (hl p hp)
      · rcases List.mem_cons.mp a with e | a <;> rcases List.mem_cons.mp b with e' | b
        · cases e; cases e'; rfl
        · cases e; exact absurd (hl _ b) (Nat.lt_irrefl _)
        · cases e'; exact absurd (hl _ a) (Nat.lt_irrefl _)
        · exact hi _ _ _ a b
    · rename_i hk
      rw [if_neg hk] at h2
      exact cells_inj hl hi h1 h2
theorem newEnv_comp {M : Model} {A : Around} {E : Value → Shared → Prop} {s : Shared} {scope : Scope} {globals : Addr} {closure : List (Str × Addr)} {qual : Str} {func : Option Addr} {code : Value} {around : Env} {builtins : Addr} {Q : Env → Shared → Prop}
    (h : Q (newEnv scope s.heap.objs.size globals (cellsFrom (s.heap.objs.size + 1) scope.names closure) qual func code (some around) builtins)
      { s with heap := pushCells (s.heap.push { cls := .type "dict", data := .dict #[] }) scope.names }) :
    wpAny M A (newFunctionEnv scope globals closure [] qual func code (some around) builtins) Q E s := by
  simp only [newFunctionEnv, Option.isSome_some, if_true]
  refine wpAny_bind (wpAny_alloc ?_)
  refine wpAny_bind (wpAny_layCells _ (fun n k c => rfl) scope.names closure _ _ ?_)
  rw [show ({ s with heap := s.heap.push { cls := .type "dict", data := .dict #[] } } : Shared).heap.objs.size = s.heap.objs.size + 1 from Heap.size_push ..]
  rw [List.forIn_nil]
  exact wpAny_bind (wpAny_pure (wpAny_pure h))
theorem lookup_relS {sc : Scope} : ∀ {names : List (Str × NameKind)} {x : Str} {k : NameKind},
    (names.map fun (n, k) => if (k == NameKind.free && sc.kind == .function && sc.names.lookup n == some .cell) then (n, NameKind.cell) else (n, k)).lookup x = some k →
    ∃ k', names.lookup x = some k' ∧ (k = k' ∨ (k' = .free ∧ k = .cell))
  | [], _, _, h => by simp at h
  | (n, k₀) :: r, x, k, h => by
    have ih := @lookup_relS sc r x k
    have h' : List.lookup x ((if (k₀ == NameKind.free && sc.kind == .function && sc.names.lookup n == some .cell) = true then (n, NameKind.cell) else (n, k₀)) :: (r.map _)) = some k := h
    cases hx : x == n with
    | true =>
      simp only [List.lookup_cons, hx]
      by_cases hc : (k₀ == NameKind.free && sc.kind == .function && sc.names.lookup n == some .cell) = true
      · rw [if_pos hc] at h'
        simp only [List.lookup_cons, hx] at h'
        cases h'
        simp only [Bool.and_eq_true, beq_iff_eq] at hc
        exact ⟨k₀, rfl, .inr ⟨hc.1.1, rfl⟩⟩
      · rw [if_neg hc] at h'
        simp only [List.lookup_cons, hx] at h'
        cases h'
        exact ⟨_, rfl, .inl rfl⟩
    | false =>
      simp only [List.lookup_cons, hx]
      by_cases hc : (k₀ == NameKind.free && sc.kind == .function && sc.names.lookup n == some .cell) = true
      · rw [if_pos hc] at h'
        simp only [List.lookup_cons, hx] at h'
        exact ih h'
      · rw [if_neg hc] at h'
        simp only [List.lookup_cons, hx] at h'
        exact ih h'
structure BlkOk (N : List Str) (sc scope : Scope) (own : List (Str × Nat)) : Prop where
  kind : scope.kind = .function
  uniq : ∀ y ∈ scope.names, scope.names.lookup y.1 = some y.2
  ix : ∀ p ∈ own, N[p.2]? = some p.1
  free : ∀ y ∈ scope.names, y.2 = .free → sc.names.lookup y.1 = some .cell ∨ sc.names.lookup y.1 = some .free
  own : ∀ y ∈ scope.names, y.2 = .local ∨ y.2 = .cell → y.1 ∈ own.map (·.1) ∨ y.1 ∉ N
noncomputable def wipe (σ : St) : List Nat → St
  | [] => σ
  | v :: vs => (wipe σ vs).set v none
theorem wipe_length (σ : St) : ∀ vs : List Nat, (wipe σ vs).length = σ.length
  | [] => rfl
  | v :: vs => by unfold wipe; rw [List.length_set, wipe_length σ vs]
theorem wipe_some {σ : St} {i : Nat} {x : V} : ∀ {vs : List Nat}, (wipe σ vs)[i]? = some (some x) → σ[i]? = some (some x) ∧ i ∉ vs
  | [], h => ⟨h, by simp⟩
  | v :: vs, h => by
    unfold wipe at h
    by_cases hi : v = i
    · subst hi
      by_cases hv : v < (wipe σ vs).length
      · rw [List.getElem?_set_self hv] at h; cases h
      · rw [List.getElem?_eq_none (by simpa using hv)] at h; cases h
    · rw [List.getElem?_set_ne hi] at h
      obtain ⟨h1, h2⟩ := wipe_some h
      exact ⟨h1, by simp only [List.mem_cons, not_or]; exact ⟨fun e => hi e.symm, h2⟩⟩
noncomputable abbrev Cx.blk (X : Cx) (s : Shared) (H : Hp) (scope : Scope) (cenv : Env) (fp : List Addr) : Cx := { X with s_0 := s, H_0 := H, env := cenv, outer := X.stack, ex := fp, fn := fun x => scope.names.lookup x == some .cell, pn := [], xe := fun _ _ => False }
section
variable {X : Cx} {pins : List (Addr × Obj)} {σ : St} {H : Hp} {s : Shared}
theorem block_start {scope : Scope} {own : List (Str × Nat)} {fp : List Addr} (I : Inv X pins σ H s) (ok : BlkOk X.N X.env.scope scope own) (hN : X.N.Nodup) (hfp : ∀ b ∈ fp, FpOk X pins H b ∧ b < s.heap.objs.size) :
    Inv (X.blk s H scope (compEnvC scope (cellsFrom (s.heap.objs.size + 1) scope.names (cloFrom X.env.cells scope.names [])) s.heap.objs.size X.env) fp) [] (wipe σ (own.map (·.2))) H { s with heap := pushCells (s.heap.push { cls := .type "dict", data := .dict #[] }) scope.names } := by
  have hfree : ∀ y ∈ scope.names, y.2 = .free → ∃ c, X.env.cells.lookup y.1 = some c := fun y hy e => by
    rcases ok.free y hy e with k | k
    · exact I.ok.has _ (.inl k)
    · exact I.ok.has _ (.inr k)
  generalize hcenv : compEnvC scope (cellsFrom (s.heap.objs.size + 1) scope.names (cloFrom X.env.cells scope.names [])) s.heap.objs.size X.env = cenv
  have kp : ∀ b o, s.heap.get? b = some o → (pushCells (s.heap.push { cls := .type "dict", data := .dict #[] }) scope.names).get? b = some o := fun b o e => pushCells_keeps _ _ _ _ (Heap.get?_push_of_some _ e)
  have hL : cenv.locals = s.heap.objs.size := by rw [← hcenv]; rfl
  have hcl : cenv.cells = cellsFrom (s.heap.objs.size + 1) scope.names (cloFrom X.env.cells scope.names []) := by rw [← hcenv]; rfl
  have hsc : cenv.scope = relS scope X.env.scope := by rw [← hcenv]; rfl
  rw [← Heap.size_push s.heap { cls := .type "dict", data := .dict #[] }] at hcl
  have cm : ∀ {y c}, (y, c) ∈ cloFrom X.env.cells scope.names [] → X.env.cells.lookup y = some c ∧ c < s.heap.objs.size := fun {y c} hm => by
    rcases cloFrom_mem hm with hm | ⟨h1, rfl⟩
    · cases hm
    · obtain ⟨c, hc⟩ := hfree _ h1 rfl
      rw [hc]
      obtain ⟨w, z⟩ := I.cell _ _ hc
      exact ⟨rfl, z.lt⟩
  have mem : ∀ {y c}, cenv.cells.lookup y = some c → (X.env.cells.lookup y = some c ∧ c < s.heap.objs.size) ∨ (s.heap.objs.size + 1 ≤ c ∧ CellAt (pushCells (s.heap.push { cls := .type "dict", data := .dict #[] }) scope.names) c none) := fun {y c} e => by
    rw [hcl] at e
    rcases cells_mem (PySem.mem_of_lookup e) with hm | ⟨_, h2, h3⟩
    · exact .inl (cm hm)
    · rw [Heap.size_push] at h2; exact .inr ⟨h2, h3⟩
  have look : ∀ {y}, scope.names.lookup y = some .free → ∃ c, cenv.cells.lookup y = some c ∧ X.env.cells.lookup y = some c := fun {y} hl => by
    have hy : (y, NameKind.free) ∈ scope.names := PySem.mem_of_lookup hl
    obtain ⟨c', e'⟩ := mem_lookup (cells_acc (names := scope.names) (n := (s.heap.push { cls := .type "dict", data := .dict #[] }).objs.size) (cloFrom_has (cells := X.env.cells) (acc := []) hy))
    rw [← hcl] at e'
    refine ⟨c', e', ?_⟩
    rw [hcl] at e'
    rcases cells_mem (PySem.mem_of_lookup e') with hm | ⟨h1, _, _⟩
    · exact (cm hm).1
    · have := ok.uniq _ h1
      rw [hl] at this; cases this
  have okB : (X.blk s H scope cenv fp).Ok := by
    refine ⟨I.ok.mod, by show cenv.scope.kind = _; rw [hsc]; exact ok.kind, by show cenv.globals = _; rw [← hcenv]; exact I.ok.glob, by show cenv.builtins = _; rw [← hcenv]; exact I.ok.blt, by show s.heap.objs.size ≤ cenv.locals; rw [hL]; exact Nat.le_refl _,
      fun y z c e1 e2 => ?_, fun y hy => ?_, fun y c z e => ?_, I.ok.hd, I.ok.frames, .inl rfl, fun b hb => ⟨?_, fun y c e z => ?_⟩, I.bs, Nat.le_trans I.ok.bsz I.sz, fun b o e hb => ?_, fun b hb z => ?_, I.stack, I.stkFree⟩
    · have e1 : cenv.cells.lookup y = some c := e1
      have e2 : cenv.cells.lookup z = some c := e2
      rw [hcl] at e1 e2
      refine cells_inj (fun p hp => ?_) (fun y z c a b => I.ok.inj y z c (cm a).1 (cm b).1) (PySem.mem_of_lookup e1) (PySem.mem_of_lookup e2)
      rw [Heap.size_push]
      exact Nat.lt_succ_of_lt (cm (y := p.1) (c := p.2) hp).2
    · show ∃ c, cenv.cells.lookup y = some c
      have key : ∀ k, cenv.kindOf y = some k → (k = .cell ∨ k = .free) → ∃ c, cenv.cells.lookup y = some c := fun k hk hk' => by
        unfold Env.kindOf at hk
        rw [hsc] at hk
        obtain ⟨k', e, r⟩ := lookup_relS hk
        have : k' = .cell ∨ k' = .free := by
          rcases r with rfl | ⟨rfl, _⟩
          · exact hk'
          · exact .inr rfl
        rcases this with rfl | rfl
        · obtain ⟨c, hm⟩ := cells_has (n := (s.heap.push { cls := .type "dict", data := .dict #[] }).objs.size) (acc := cloFrom X.env.cells scope.names []) (PySem.mem_of_lookup e)
          obtain ⟨c', e'⟩ := mem_lookup hm
          exact ⟨c', by rw [hcl]; exact e'⟩
        · obtain ⟨c, h1, _⟩ := look e
          exact ⟨c, h1⟩
      rcases hy with hy | hy
      · exact key _ hy (.inl rfl)
      · exact key _ hy (.inr rfl)
    · have z : (scope.names.lookup y == some NameKind.cell) = true := z
      have z : scope.names.lookup y = some .cell := by simpa using z
      have e : cenv.cells.lookup y = some c := e
      rw [hcl] at e
      rcases cells_mem (PySem.mem_of_lookup e) with hm | ⟨_, h2, _⟩
      · rcases cloFrom_mem hm with hm | ⟨h1, _⟩
        · cases hm
        · have q := ok.uniq _ h1
          rw [z] at q; cases q
      · rw [Heap.size_push] at h2
        exact Nat.le_of_succ_le h2
    · show b ≠ cenv.locals
      rw [hL]; exact Nat.ne_of_lt (hfp b hb).2
    · have e : cenv.cells.lookup y = some c := e
      rcases mem e with ⟨h1, _⟩ | ⟨h1, _⟩
      · exact (hfp b hb).1.2.2.2.2.1 y c h1 z
      · have h2 : s.heap.objs.size + 1 ≤ b := by rw [← z]; exact h1
        exact absurd (Nat.lt_of_lt_of_le (hfp b hb).2 (Nat.le_of_succ_le h2)) (Nat.lt_irrefl _)
    · rcases (hfp b hb).1.2.2.2.1 with z | z
      · exact I.ok.noex b o e z
      · exact absurd (Nat.lt_of_lt_of_le (Heap.lt_size e) (Nat.le_trans I.ok.bsz z)) (Nat.lt_irrefl _)
    · rcases List.mem_cons.mp (I.stkSub b z) with z | z
      · exact (hfp b hb).1.2.1 z
      · exact (hfp b hb).1.2.2.1 z
  refine ⟨okB, rfl, I.bare, Un.kept kp, ⟨fun _ => none, ?_, fun i y av e1 e2 e3 => ?_⟩, fun y c e => ?_, ?_, fun y c e => ?_, fun p hp => ?_, I.hok.kept kp, by rw [wipe_length]; exact I.len⟩
  · show Heap.Ns _ cenv.locals _
    rw [hL]
    exact Heap.Ns.keeps (Heap.Ns.new ..) fun b o e => pushCells_keeps _ _ _ _ e
  · obtain ⟨e2, hne⟩ := wipe_some e2
    have hfr : scope.names.lookup y = some .free ∧ (cenv.kindOf y = some .cell ∨ cenv.kindOf y = some .free) := by
      have key : ∀ k, cenv.scope.names.lookup y = some k → k = .local ∨ k = .cell ∨ k = .free → scope.names.lookup y = some .free ∧ (cenv.kindOf y = some .cell ∨ cenv.kindOf y = some .free) := fun k hk hk' => by
        have hk0 := hk
        rw [hsc] at hk
        obtain ⟨k', e, r⟩ := lookup_relS hk
        have no : ¬ (k' = .local ∨ k' = .cell) := fun hh => by
          rcases ok.own _ (PySem.mem_of_lookup e) hh with e' | e'
          · obtain ⟨p, hp, hpy⟩ := List.mem_map.mp e'
            have e3 := ok.ix p hp
            have : p.1 = y := hpy
            rw [this] at e3
            exact hne (List.mem_map.mpr ⟨p, hp, nodup_ix hN e3 e1⟩)
          · exact e' (List.mem_of_getElem? e1)
        rcases r with rfl | ⟨rfl, rfl⟩
        · rcases hk' with rfl | rfl | rfl
          · exact absurd (.inl rfl) no
          · exact absurd (.inr rfl) no
          · exact ⟨e, .inr hk0⟩
        · exact ⟨e, .inl hk0⟩
      have e3 : Vis cenv.scope y := e3
      rcases e3 with e3 | e3 | e3
      · exact key _ e3 (.inl rfl)
      · exact key _ e3 (.inr (.inl rfl))
      · exact key _ e3 (.inr (.inr rfl))
    obtain ⟨m, hn, hl⟩ := I.loc
    have hvis : Vis X.env.scope y := (ok.free _ (PySem.mem_of_lookup hfr.1) rfl).elim (fun k => .inr (.inl k)) (fun k => .inr (.inr k))
    obtain ⟨w, r, q⟩ := hl i y av e1 e2 hvis
    refine ⟨w, r, .inr ⟨hfr.2, ?_⟩⟩
    obtain ⟨c, h1, h2⟩ := look hfr.1
    rcases q with ⟨k, _⟩ | ⟨_, c', e', z⟩
    · have k : X.env.scope.names.lookup y = some .local := k
      rcases ok.free _ (PySem.mem_of_lookup hfr.1) rfl with k' | k' <;> rw [show X.env.scope.names.lookup y = _ from k'] at k <;> cases k
    · rw [h2] at e'; cases e'
      exact ⟨c, h1, z.keeps kp⟩
  · have e : cenv.cells.lookup y = some c := e
    rcases mem e with ⟨h1, _⟩ | ⟨_, z⟩
    · obtain ⟨w, z⟩ := I.cell y c h1
      exact ⟨w, z.keeps kp⟩
    · exact ⟨_, z⟩
  · show H cenv.locals = none
    rw [hL]; exact I.hok.fresh (Nat.le_refl _)
  · have e : cenv.cells.lookup y = some c := e
    rcases mem e with ⟨h1, _⟩ | ⟨h1, _⟩
    · exact I.freeC y c h1
    · exact I.hok.fresh (Nat.le_of_succ_le h1)
  · exact absurd (show p ∈ ([] : List (Addr × Obj)) ++ [] from hp) (by simp)
theorem app_ok {E : Value → Shared → Prop} {D : Addr} {xs : List V} {y : V} {v : Value} {Q : Value → Shared → Prop} (I : Inv X pins σ H s) (hD : H D = some (.lst xs)) (hz : xs.length < sizeLine) (r : RelV y v)
    (h : ∀ s', Inv X pins σ (upd H D (.lst (xs ++ [y]))) s' → Q .none s') : wpAny (model X.prog X.w) X.A (call (.builtin "list.append") [.ref D, v]) Q E s := by
  obtain ⟨hz', its, n, ri, e⟩ := I.hok D _ hD
  have hl := ri.length
  refine append_at (hsz := by rw [List.size_toArray]; omega) e fun h' sb ho' => ?_
  refine h { s with heap := h' } (I.write (t' := s.toks) (by rw [hD]; trivial) (.inl rfl) (fun b u hb q => (sb.2 b hb).trans q) ⟨_, ho'⟩ ⟨by rw [List.length_append]; exact hz, its ++ [v], n + 1, ri.append (.cons r .nil), ?_⟩)
  rw [ho']
  simp
noncomputable def PTs (X : Cx) (ifs : List Expr) (t : TT) : Prop :=
  ∀ (pins : List (Addr × Obj)) (s : Shared) (σ : St) (H : Hp) (Q : Bool → Hp → Prop), Inv X pins σ H s → t σ H Q →
    wpAny (model X.prog X.w) X.A (forIn ifs true fun c r => if r = true then do let ok ← isTrue c X.env (eval c X.env); pure (ForInStep.yield ok) else pure (ForInStep.yield r)) (TP X pins σ Q) X.xe s
noncomputable def tYes : TT := fun _ H Q => Q true H
theorem pts_nil : PTs X [] tYes := fun _ _ _ H _ I h => wpAny_tests_nil ⟨H, I, h⟩
theorem pts_one {c : Expr} {t : TT} (h : PT X c t) : PTs X [c] t := fun pins s σ H Q I hw => wpAny_tests_one (h pins s σ H Q I hw)
end
theorem thnF {α : Type} {t : Sem α} {Q Q' : α → Shared → Prop} {M : Model} {A : Around} {E : Value → Shared → Prop} {s : Shared} (h : wpAny M A t Q (fun _ _ => False) s) (hQ : ∀ a s, Q a s → Q' a s) : wpAny M A t Q' E s := wpAny_mono h hQ fun _ _ z => False.elim z
theorem compLoop_any {prog : Program} {w : World} {A : Around} {R : Result → Shared → Prop} {s : Shared} {elt target iter : Expr} {ifs : List Expr} {scope : Scope} {pos : Pos} {it acc : Value} {env : Env} (I : Nat → Shared → Prop)
    (turn : ∀ n s, I n s → wpAny (model prog w) A (pyNext it) (fun r s₁ => match r with
      | none => R (.ok .next) s₁
      | some v => wpAny (model prog w) A (letOwnedTupleGo target it v) (fun _ s₁' => wpAny (model prog w) A (assign target env v) (fun _ s₂ =>
          wpAny (model prog w) A (forIn ifs true fun c r => if r = true then do let ok ← isTrue c env (eval c env); pure (ForInStep.yield ok) else pure (ForInStep.yield r)) (fun ok s₃ =>
            if ok = true then wpAny (model prog w) A (eval elt env) (fun x s₄ =>
              wpAny (model prog w) A (call (.builtin "list.append") [acc, x]) (fun _ s₅ => ∃ m, m < n ∧ I m s₅) (notedBy (model prog w) A env fun e s' => R (.error e) s') s₄) (notedBy (model prog w) A env fun e s' => R (.error e) s') s₃
            else ∃ m, m < n ∧ I m s₃) (notedBy (model prog w) A env fun e s' => R (.error e) s') s₂) (notedBy (model prog w) A env fun e s' => R (.error e) s') s₁') (notedBy (model prog w) A env fun e s' => R (.error e) s') s₁) (notedBy (model prog w) A env fun e s' => R (.error e) s') s)
    (n : Nat) (h : I n s) :
    codeAny (model prog w) A (.compLoop (.ListComp elt [⟨target, iter, ifs, 0⟩] scope pos) 0 it acc env) R s := by
  refine codeAny_loop rfl I (fun n s hI => ?_) n h
  show wpAny _ A ((compTurn (.ListComp elt [⟨target, iter, ifs, 0⟩] scope pos) 0 it acc env).onRaise (fun x => do noteFrame x env; theTreesLotGoes x)) _ _ s
  refine wpAny_noted ?_
  rw [compTurn_list]
  refine wpAny_bind (wpAny_standAt (wpAny_bind (wpAny_mono (turn n s hI) (fun r s₁ h₁ => ?_) fun _ _ h' => h')))
  cases r with
  | none => exact wpAny_pure h₁
  | some v =>
    refine wpAny_bind (wpAny_mono h₁ (fun _ s₁' h₁' => ?_) fun _ _ h' => h')
    refine wpAny_bind (wpAny_mono h₁' (fun _ s₂ h₂ => wpAny_bind (wpAny_mono h₂ (fun ok s₃ h₃ => ?_) fun _ _ h' => h')) fun _ _ h' => h')
    cases ok with
    | false => exact wpAny_pure ⟨rfl, h₃⟩
    | true =>
      exact wpAny_bind (wpAny_bind (wpAny_mono h₃ (fun x s₄ h₄ => wpAny_bind (wpAny_mono h₄ (fun _ s₅ h₅ => wpAny_pure (wpAny_pure ⟨rfl, h₅⟩)) fun _ _ h' => h')) fun _ _ h' => h'))
section
variable {X : Cx}
noncomputable def tLc (wi : TI) (g : TG) (tt : TT) (te : TE) (vs : List Nat) : TE := fun σ H Q => wi σ H fun J H1 => ∀ D, H1 D = none → ∃ W : Nat → Nat → Hp → Prop, (∃ m, W 0 m (upd H1 D (.lst []))) ∧ ∀ i m H, W i m H →
  (J.stop i H ∧ Q (.ref D) H) ∨ (J.go i H ∧ ∃ Nx : Hp → Prop, (∀ H', Nx H' → ∃ m', m' < m ∧ W (i + 1) m' H') ∧ ∀ x H', J.yld i H x H' → g x (wipe σ vs) H' fun σ2 H2 => wipe σ2 vs = wipe σ vs ∧ tt σ2 H2 fun b H3 =>
    if b = true then te σ2 H3 fun y H4 => ∃ acc, H4 D = some (.lst acc) ∧ acc.length < sizeLine ∧ Nx (upd H4 D (.lst (acc ++ [y]))) else Nx H3)
theorem lc_core {pins : List (Addr × Obj)} {s : Shared} {σ : St} {H : Hp} {Q : VK} {elt tg iter : Expr} {ifs : List Expr} {scope : Scope} {own : List (Str × Nat)} {pos pos' : Pos} {wi : TI} {g : TG} {tt : TT} {te : TE} {use : Option (Value → Sem Unit)} {Qf : Value → Shared → Prop}
    (hc : X.calm = true) (hN : X.N.Nodup) (I : Inv X pins σ H s) (hi : PI X tg iter wi) (ok : BlkOk X.N X.env.scope scope own)
    (hg : ∀ (s : Shared) (H : Hp) (C : Addr) (cl : List (Str × Addr)) (fp : List Addr), PG (X.blk s H scope (compEnvC scope cl C X.env) fp) tg g) (ht : ∀ (s : Shared) (H : Hp) (C : Addr) (cl : List (Str × Addr)) (fp : List Addr), PTs (X.blk s H scope (compEnvC scope cl C X.env) fp) ifs tt)
    (he : ∀ (s : Shared) (H : Hp) (C : Addr) (cl : List (Str × Addr)) (fp : List Addr), PE (X.blk s H scope (compEnvC scope cl C X.env) fp) elt te) (hs : ∀ x, foldedSetIterable iter X.env x = pure x)
    (h : tLc wi g tt te (own.map (·.2)) σ H Q)
    (hRR : ∀ D C s' m H', Inv X pins σ H' s' → Q (.ref D) H' → s'.heap.Ns C m → FpOk X pins H' C → compPost (model X.prog X.w) X.A X.xe use Qf (.ref D) C (.ok .next) s') :
    wpAny (model X.prog X.w) X.A (comprehension (.ListComp elt [⟨tg, iter, ifs, 0⟩] scope pos) scope X.env pos' (newList []) false (eval iter X.env) use) Qf X.xe s := by
  have hfree : ∀ y ∈ scope.names, y.2 = .free → ∃ c, X.env.cells.lookup y.1 = some c := fun y hy e => by
    rcases ok.free y hy e with k | k
    · exact I.ok.has _ (.inl k)
    · exact I.ok.has _ (.inr k)
  refine wpAny_comprehension_free (use := use) rfl hs (closure_ok hfree) ok.kind (fun y hy e => by rw [ok.uniq y hy, e])
    (thn (hi pins s σ H _ I h) fun xv s1 hx => thn hx fun itv s2 h2 => ?_)
  obtain ⟨it, fp, tn, J, H2, e, I2, T, st2, f2, q⟩ := h2
  subst e
  refine wpAny_newObj_type (newEnv_comp ?_) (by show 0 ≤ sizeLine; decide)
  generalize hD : s2.heap.objs.size = D
  have hDn : H2 D = none := I2.hok.fresh (Nat.le_of_eq hD)
  obtain ⟨W, ⟨m0, w0⟩, turn⟩ := q D hDn
  -- the new list
  generalize hs3 : ({ s2 with heap := s2.heap.push { cls := .type "list", data := .seq ([] : List Value).toArray } } : Shared) = s3
  have I3 : Inv X pins σ (upd H2 D (.lst [])) s3 := by
    rw [← hs3]
    refine I2.laid (t' := s2.toks) (fun b o e => Heap.get?_push_of_some _ e) (Nat.le_of_eq hD) ⟨Nat.zero_le _, [], 0, .nil, ?_⟩
    rw [← hD]
    exact Heap.get?_push_size _ rfl
  have h3 : s3.heap = s2.heap.push { cls := .type "list", data := .seq ([] : List Value).toArray } := by rw [← hs3]
  have sz : ∀ b ∈ fp, b < s2.heap.objs.size := fun b hb => by
    obtain ⟨o, e, _⟩ := T.obj _ _ st2 b hb
    exact Heap.lt_size e
  have f3 : ∀ b ∈ fp, FpOk X pins (upd H2 D (.lst [])) b ∧ b < s3.heap.objs.size := fun b hb => by
    have hlt := sz b hb
    refine ⟨⟨?_, (f2 b hb).2⟩, by rw [h3, Heap.size_push]; exact Nat.lt_succ_of_lt hlt⟩
    rw [upd_ne (by rw [← hD]; exact Nat.ne_of_lt hlt)]
    exact (f2 b hb).1
  have st3 : tn 0 s3.heap := T.keep _ _ _ st2 fun b _ o e => by rw [h3]; exact Heap.get?_push_of_some _ e
  have I4 := block_start I3 ok hN f3
  have pg := hg s3 (upd H2 D (.lst [])) s3.heap.objs.size (cellsFrom (s3.heap.objs.size + 1) scope.names (cloFrom X.env.cells scope.names [])) fp
  have pt := ht s3 (upd H2 D (.lst [])) s3.heap.objs.size (cellsFrom (s3.heap.objs.size + 1) scope.names (cloFrom X.env.cells scope.names [])) fp
  have pe := he s3 (upd H2 D (.lst [])) s3.heap.objs.size (cellsFrom (s3.heap.objs.size + 1) scope.names (cloFrom X.env.cells scope.names [])) fp
  show codeAny _ _ (.compStart (.ListComp elt [⟨tg, iter, ifs, 0⟩] scope pos) 0 (.ref it) (.ref D) (compEnvC scope (cellsFrom (s3.heap.objs.size + 1) scope.names (cloFrom X.env.cells scope.names [])) s3.heap.objs.size X.env)) (compPost (model X.prog X.w) X.A X.xe use Qf (.ref D) s3.heap.objs.size) { s3 with heap := pushCells (s3.heap.push { cls := .type "dict", data := .dict #[] }) scope.names }
  have nfp : ∀ b ∈ fp, (upd H2 D (.lst [])) b = none := fun b hb => (f3 b hb).1.1
  generalize hce : compEnvC scope (cellsFrom (s3.heap.objs.size + 1) scope.names (cloFrom X.env.cells scope.names [])) s3.heap.objs.size X.env = ce at I4 pg pt pe ⊢
  have cL : ce.locals = s3.heap.objs.size := by subst hce; rfl
  generalize hH3 : upd H2 D (.lst []) = H3 at I3 I4 pg pt pe w0 nfp f3
  generalize hs4 : ({ s3 with heap := pushCells (s3.heap.push { cls := .type "dict", data := .dict #[] }) scope.names } : Shared) = s4 at I4 ⊢
  have st4 : tn 0 s4.heap := T.keep _ _ _ st3 fun b _ o e => by rw [← hs4]; exact pushCells_keeps _ _ _ _ (Heap.get?_push_of_some _ e)
  have stat : ∀ {σ' : St} {H' : Hp} {s' : Shared}, Inv (X.blk s3 H3 scope ce fp) [] σ' H' s' → (∀ b ∈ fp, H' b = none) → ∀ b ∈ fp, FpOk (X.blk s3 H3 scope ce fp) [] H' b := fun {σ' H' s'} I' hn b hb =>
    ⟨hn b hb, (I'.ok.exf b hb).1, I'.ok.exfs b hb, .inl hb, fun x c e => (I'.ok.exf b hb).2 x c e, fun p hp => absurd (show p ∈ ([] : List (Addr × Obj)) ++ [] from hp) (by simp)⟩
  have loop : codeAny (model X.prog X.w) X.A (.compLoop (.ListComp elt [⟨tg, iter, ifs, 0⟩] scope pos) 0 (.ref it) (.ref D) ce) (compPost (model X.prog X.w) X.A X.xe use Qf (.ref D) s3.heap.objs.size) s4 := by
    refine compLoop_any (fun n s' => ∃ i H', Inv (X.blk s3 H3 scope ce fp) [] (wipe σ (own.map (·.2))) H' s' ∧ tn i s'.heap ∧ (∀ b ∈ fp, H' b = none) ∧ W i n H') ?_ m0 ⟨0, H3, I4, st4, nfp, w0⟩
    rintro n s5 ⟨i, H5, I5, st5, n5, w5⟩
    rcases turn i n H5 w5 with ⟨stop, qq⟩ | ⟨go, Nx, hNx, step⟩
    · have td := T.done (X.blk s3 H3 scope ce fp) rfl rfl rfl hc i [] s5 _ H5 (fun _ _ => False) I5 (stat I5 n5) st5 stop
      refine thnF td fun r s6 ⟨hr, I6⟩ => ?_
      subst hr
      -- back in the def's context
      have I7 : Inv X pins σ H5 s6 := I3.call' (ch := fp) I6.os I6.base I6.hok I6.bare fun b hb => ⟨(f3 b hb).1.2.2.2.1, (f3 b hb).1.2.1, (f3 b hb).1.2.2.2.2.1, (f3 b hb).1.2.2.2.2.2⟩
      have nC : H5 s3.heap.objs.size = none := by
        have z : H5 ce.locals = none := I6.free
        rw [cL] at z
        exact z
      obtain ⟨m, hn, _⟩ := I6.loc
      have hn : s6.heap.Ns ce.locals m := hn
      rw [cL] at hn
      exact hRR D s3.heap.objs.size s6 m H5 I7 qq hn (I3.fpOk (Nat.le_refl _) nC)
    · have ti := T.item (X.blk s3 H3 scope ce fp) rfl rfl rfl hc i [] s5 _ H5 (fun _ _ => False) I5 (stat I5 n5) st5 go
      refine thnF ti fun r s6 ⟨u, hr, h6⟩ => ?_
      subst hr
      refine thnF h6 fun _ s7 ⟨x, H7, I7, r7, y7, st7, n7⟩ => ?_
      have I7' := I7.pinned (stat I7 n7) (T.obj _ _ st7)
      refine thnF (pg _ s7 _ H7 x u _ I7' r7 (step x H7 y7)) fun _ s8 ⟨σ8, H8, I8, hw8, q8⟩ => ?_
      refine thnF (pt _ s8 σ8 H8 _ I8 q8) fun b s9 ⟨H9, I9, q9⟩ => ?_
      -- the turn's end
      have fin : ∀ {s' : Shared} {H' : Hp}, Inv (X.blk s3 H3 scope ce fp) ([] ++ pinsAt fp s7.heap) σ8 H' s' → Nx H' → ∃ m, m < n ∧ ∃ i H', Inv (X.blk s3 H3 scope ce fp) [] (wipe σ (own.map (·.2))) H' s' ∧ tn i s'.heap ∧ (∀ b ∈ fp, H' b = none) ∧ W i m H' := fun {s' H'} I' nx => by
        obtain ⟨m', hm, w'⟩ := hNx H' nx
        have pin' : ∀ b ∈ fp, ∀ o, s7.heap.get? b = some o → s'.heap.get? b = some o ∧ H' b = none := fun b hb o e =>
          let z := I'.pin (b, o) (List.mem_append_right _ (List.mem_append_right _ (mem_pinsAt hb e)))
          ⟨z.1, z.2.1⟩
        have hl : (wipe σ (own.map (·.2))).length = σ8.length := by rw [← hw8, wipe_length]
        refine ⟨m', hm, i + 1, H', (I'.unpinned (pins := [])).weak hl (fun j v e => ?_), T.keep _ _ _ st7 fun b hb o e => (pin' b hb o e).1, fun b hb => ?_, w'⟩
        · rw [← hw8] at e
          exact (wipe_some e).1
        · obtain ⟨o, e, _⟩ := T.obj _ _ st7 b hb
          exact (pin' b hb o e).2
      cases b with
      | false =>
        simp only [Bool.false_eq_true, if_false] at q9 ⊢
        exact fin I9 q9
      | true =>
        simp only [if_true] at q9 ⊢
        refine thnF (pe _ s9 σ8 H9 _ I9 q9) fun z s10 ⟨yv, H10, I10, r10, acc, hD10, hz10, nx⟩ => ?_
        exact app_ok (X := X.blk s3 H3 scope ce fp) I10 hD10 hz10 r10 fun s11 I11 => fin I11 nx
  exact codeAny_compStart_list loop (T.self X.A 0 _ _ _ st4 loop)
theorem pe_lc {elt tg iter : Expr} {ifs : List Expr} {scope : Scope} {own : List (Str × Nat)} {pos : Pos} {wi : TI} {g : TG} {tt : TT} {te : TE} (hc : X.calm = true) (hN : X.N.Nodup) (hi : PI X tg iter wi) (ok : BlkOk X.N X.env.scope scope own)
    (hg : ∀ (s : Shared) (H : Hp) (C : Addr) (cl : List (Str × Addr)) (fp : List Addr), PG (X.blk s H scope (compEnvC scope cl C X.env) fp) tg g) (ht : ∀ (s : Shared) (H : Hp) (C : Addr) (cl : List (Str × Addr)) (fp : List Addr), PTs (X.blk s H scope (compEnvC scope cl C X.env) fp) ifs tt)
    (he : ∀ (s : Shared) (H : Hp) (C : Addr) (cl : List (Str × Addr)) (fp : List Addr), PE (X.blk s H scope (compEnvC scope cl C X.env) fp) elt te) (hs : ∀ x, foldedSetIterable iter X.env x = pure x := by intro _; rfl) :
    PE X (.ListComp elt [⟨tg, iter, ifs, 0⟩] scope pos) (tLc wi g tt te (own.map (·.2))) := by
  intro pins s σ H Q I h
  rw [eval_ListComp]
  refine lc_core hc hN I hi ok hg ht he hs h fun D C s' m H' I' q hn f => ⟨m, hn, fun h'' sb => ?_⟩
  obtain ⟨f0, f1, f2, f3, f4, f5⟩ := f
  exact ⟨.ref D, H', I'.turned (t' := s'.toks) (fun b o hb e => (sb.2 b hb).trans e) f0 f1 f3 f4 f5, rfl, q⟩
theorem ps_setLc {i : Nat} {y : Str} {py : Pos} {elt tg iter : Expr} {ifs : List Expr} {scope : Scope} {own : List (Str × Nat)} {pos spos : Pos} {wi : TI} {g : TG} {tt : TT} {te : TE} (hc : X.calm = true) (hN : X.N.Nodup) (hy : X.N[i]? = some y) (hyl : X.env.scope.names.lookup y = some .local)
    (hsw : swapsWith (.ListComp elt [⟨tg, iter, ifs, 0⟩] scope pos) (some (.Name y py)) spos.line X.env = pure true) (hi : PI X tg iter wi) (ok : BlkOk X.N X.env.scope scope own)
    (hg : ∀ (s : Shared) (H : Hp) (C : Addr) (cl : List (Str × Addr)) (fp : List Addr), PG (X.blk s H scope (compEnvC scope cl C X.env) fp) tg g) (ht : ∀ (s : Shared) (H : Hp) (C : Addr) (cl : List (Str × Addr)) (fp : List Addr), PTs (X.blk s H scope (compEnvC scope cl C X.env) fp) ifs tt)
    (he : ∀ (s : Shared) (H : Hp) (C : Addr) (cl : List (Str × Addr)) (fp : List Addr), PE (X.blk s H scope (compEnvC scope cl C X.env) fp) elt te) (hs : ∀ x, foldedSetIterable iter X.env x = pure x := by intro _; rfl) :
    PS X (.Assign [.Name y py] (.ListComp elt [⟨tg, iter, ifs, 0⟩] scope pos) spos) (tAsg (tLc wi g tt te (own.map (·.2))) (gName i)) := by
  intro pins s σ H D I h
  rw [exec_Assign_Name_used _ _ _ _ hsw]
  refine wpAny_bind (wpAny_standAt (wpAny_bind ?_))
  show wpAny _ X.A (do let _ ← comprehension (.ListComp elt [⟨tg, iter, ifs, 0⟩] scope pos) scope X.env (firstIterPos [⟨tg, iter, ifs, 0⟩] pos) (newList []) false (eval iter X.env) (some (assign (.Name y py) X.env))) _ _ s
  have h : tLc wi g tt te (own.map (·.2)) σ H (fun x H1 => gName i x σ H1 D.nx) := h
  refine wpAny_bind (thn (lc_core (Qf := fun _ s' => SP X pins D .next s') hc hN I hi ok hg ht he hs h fun L C s' m H' I' q hn f => ?_) fun _ s' hq => wpAny_pure (wpAny_pure hq))
  show wpAny _ _ (assign (.Name y py) X.env (.ref L)) _ _ _
  refine wpAny_assign_Name (store_ok2 (v := V.ref L) I' hN hy (.inl hyl) rfl (fun s2 I2 ⟨a, sb, ha⟩ => ?_) (.inr hyl))
  obtain ⟨f0, f1, f2, f3, f4, f5⟩ := f
  have haC : C ≠ a := by
    rcases ha with z | z
    · rw [z]; exact f1
    · exact fun e => f4 y a z e.symm
  refine ⟨m, hn.sameBut sb haC, fun h3 sb3 => ?_⟩
  exact ⟨_, H', I2.turned (t' := s2.toks) (fun b o hb e => (sb3.2 b hb).trans e) f0 f1 f3 f4 f5, q⟩
theorem sw_true {elt : Expr} {gs : List Comprehension} {scope : Scope} {pos py : Pos} {y : Str} {l : Nat} {env : Env} (hk : env.scope.kind = .function) (hy : env.scope.names.lookup y = some .local) (hl : (py.line == pos.line) = true)
    (ha : (scope.names.any fun (n, k) => n == y && (k == .local || k == .cell)) = false) : swapsWith (.ListComp elt gs scope pos) (some (.Name y py)) l env = pure true := by
  have ky : env.kindOf y = some .local := hy
  have hb : env.blockKind = .function := by unfold Env.blockKind; rw [hk]; rfl
  unfold swapsWith
  simp only [hb, ky, ha, Expr.pos, hl]
  rfl
end
theorem lc_range {lo : Int} {n : Nat} {g : TG} {tt : TT} {te : TE} {vs : List Nat} {σ : St} {H1 : Hp} {D : Addr} {Qd : Hp → Prop} (Pv : Nat → Hp → Prop) (h0 : Pv 0 (upd H1 D (.lst [])))
    (hs : ∀ i H, i < n → Pv i H → g (.int (lo + i)) (wipe σ vs) H fun σ2 H2 => wipe σ2 vs = wipe σ vs ∧ tt σ2 H2 fun b H3 =>
      if b = true then te σ2 H3 fun y H4 => ∃ acc, H4 D = some (.lst acc) ∧ acc.length < sizeLine ∧ Pv (i + 1) (upd H4 D (.lst (acc ++ [y]))) else Pv (i + 1) H3) (hd : ∀ H, Pv n H → Qd H) :
    ∃ W : Nat → Nat → Hp → Prop, (∃ m, W 0 m (upd H1 D (.lst []))) ∧ ∀ i m H, W i m H →
      ((Itr lo n).stop i H ∧ Qd H) ∨ ((Itr lo n).go i H ∧ ∃ Nx : Hp → Prop, (∀ H', Nx H' → ∃ m', m' < m ∧ W (i + 1) m' H') ∧ ∀ x H', (Itr lo n).yld i H x H' → g x (wipe σ vs) H' fun σ2 H2 => wipe σ2 vs = wipe σ vs ∧ tt σ2 H2 fun b H3 =>
        if b = true then te σ2 H3 fun y H4 => ∃ acc, H4 D = some (.lst acc) ∧ acc.length < sizeLine ∧ Nx (upd H4 D (.lst (acc ++ [y]))) else Nx H3) := by
  refine ⟨fun i m H => m = n - i ∧ i ≤ n ∧ Pv i H, ⟨n, by simp, Nat.zero_le _, h0⟩, ?_⟩
  rintro i m H ⟨rfl, hi, p⟩
  by_cases hlt : i < n
  · refine .inr ⟨hlt, Pv (i + 1), fun H' p' => ⟨n - (i + 1), by omega, rfl, hlt, p'⟩, fun x H' y => ?_⟩
    obtain ⟨e, y⟩ := y
    subst e y
    exact hs i _ hlt p
  · have e : i = n := by omega
    subst e
    exact .inl ⟨Nat.le_refl _, hd H p⟩
theorem lc_list {K : PySem.W.Frag} {a : Addr} {xs : List V} {g : TG} {tt : TT} {te : TE} {vs : List Nat} {σ : St} {H1 : Hp} {D : Addr} {Qd : Hp → Prop} (Pv : Nat → Hp → Prop) (h0 : Pv 0 (upd H1 D (.lst []))) (hl : ∀ i H, i ≤ xs.length → Pv i H → SqL K H a xs)
    (hs : ∀ i x H, xs[i]? = some x → Pv i H → g x (wipe σ vs) H fun σ2 H2 => wipe σ2 vs = wipe σ vs ∧ tt σ2 H2 fun b H3 =>
      if b = true then te σ2 H3 fun y H4 => ∃ acc, H4 D = some (.lst acc) ∧ acc.length < sizeLine ∧ Pv (i + 1) (upd H4 D (.lst (acc ++ [y]))) else Pv (i + 1) H3) (hd : ∀ H, Pv xs.length H → Qd H) :
    ∃ W : Nat → Nat → Hp → Prop, (∃ m, W 0 m (upd H1 D (.lst []))) ∧ ∀ i m H, W i m H →
      ((Itl K a).stop i H ∧ Qd H) ∨ ((Itl K a).go i H ∧ ∃ Nx : Hp → Prop, (∀ H', Nx H' → ∃ m', m' < m ∧ W (i + 1) m' H') ∧ ∀ x H', (Itl K a).yld i H x H' → g x (wipe σ vs) H' fun σ2 H2 => wipe σ2 vs = wipe σ vs ∧ tt σ2 H2 fun b H3 =>
        if b = true then te σ2 H3 fun y H4 => ∃ acc, H4 D = some (.lst acc) ∧ acc.length < sizeLine ∧ Nx (upd H4 D (.lst (acc ++ [y]))) else Nx H3) := by
  refine ⟨fun i m H => m = xs.length - i ∧ i ≤ xs.length ∧ Pv i H, ⟨xs.length, by simp, Nat.zero_le _, h0⟩, ?_⟩
  rintro i m H ⟨rfl, hi, p⟩
  have q := hl i H hi p
  by_cases hlt : i < xs.length
  · refine .inr ⟨⟨xs, xs[i], q, by simp [hlt]⟩, Pv (i + 1), fun H' p' => ⟨xs.length - (i + 1), by omega, rfl, hlt, p'⟩, fun x H' y => ?_⟩
    obtain ⟨e, y⟩ := y
    subst e
    exact hs i x _ (y xs q) p
  · have e : i = xs.length := by omega
    subst e
    exact .inl ⟨⟨xs, q, Nat.le_refl _⟩, hd H p⟩
noncomputable def blkC (N : List Str) (sc scope : Scope) (own : List (Str × Nat)) : Bool :=
  (match scope.kind with | .function => true | _ => false) && (scope.names.all fun y => decide (scope.names.lookup y.1 = some y.2)) && (own.all fun p => decide (N[p.2]? = some p.1)) &&
    (scope.names.all fun y => match y.2 with
      | .free => (match sc.names.lookup y.1 with | some .cell => true | some .free => true | _ => false)
      | .local => decide (y.1 ∈ own.map (·.1)) || decide (y.1 ∉ N)
      | .cell => decide (y.1 ∈ own.map (·.1)) || decide (y.1 ∉ N)
      | _ => true)
theorem blkOk_by {N : List Str} {sc scope : Scope} {own : List (Str × Nat)} (h : blkC N sc scope own = true) : BlkOk N sc scope own := by
  unfold blkC at h
  simp only [Bool.and_eq_true, List.all_eq_true, decide_eq_true_eq] at h
  obtain ⟨⟨⟨h1, h2⟩, h3⟩, h4⟩ := h
  refine ⟨?_, h2, h3, fun y hy e => ?_, fun y hy e => ?_⟩
  · split at h1
    · assumption
    · cases h1
  · have q := h4 y hy
    simp only [e] at q
    split at q <;> first | exact .inl (by assumption) | exact .inr (by assumption) | cases q
  · have q := h4 y hy
    rcases e with e | e <;> (simp only [e, Bool.or_eq_true, decide_eq_true_eq] at q; exact q)
end L2
namespace L2
open PySem PySem.Spec PyProof.Rows
section
variable {prog : Program} {w : World} {A : Around} {R : Result → Shared → Prop} {s : Shared} {elt t0 i0 t1 i1 : Expr} {ifs0 ifs1 : List Expr} {scope : Scope} {pos : Pos} {it acc : Value} {env : Env}
end
section
variable {X : Cx}
end
end L2
namespace L2
open PySem PySem.Spec PyProof.Rows
section
variable {κ : Type} [DecidableEq κ]
noncomputable def valV (kvs : List (κ × V)) (k : κ) : Option V := (kvs.find? fun kv => decide (kv.1 = k)).map (·.2)
noncomputable def putK (kvs : List (κ × V)) (k : κ) (v : V) : List (κ × V) :=
  if (kvs.any fun kv => decide (kv.1 = k)) = true then kvs.map (fun kv => if kv.1 = k then (kv.1, v) else kv) else kvs ++ [(k, v)]
noncomputable def dropK (kvs : List (κ × V)) (k : κ) : List (κ × V) := kvs.filter fun kv => decide (kv.1 ≠ k)
theorem valV_pos {p : κ × V} {r : List (κ × V)} {k : κ} (e : p.1 = k) : valV (p :: r) k = some p.2 := by simp [valV, List.find?_cons, e]
theorem valV_neg {p : κ × V} {r : List (κ × V)} {k : κ} (e : ¬ p.1 = k) : valV (p :: r) k = valV r k := by simp [valV, List.find?_cons, e]
theorem valV_any (k : κ) : ∀ kvs : List (κ × V), (kvs.any fun kv => decide (kv.1 = k)) = (valV kvs k).isSome
  | [] => rfl
  | p :: r => by
    rw [List.any_cons]
    by_cases e : p.1 = k
    · simp only [valV_pos e, decide_eq_true e, Bool.true_or, Option.isSome_some]
    · rw [valV_neg e, decide_eq_false e, Bool.false_or]; exact valV_any k r
theorem length_putK (kvs : List (κ × V)) (k : κ) (v : V) : (putK kvs k v).length ≤ kvs.length + 1 := by
  unfold putK
  split
  · rw [List.length_map]; omega
  · rw [List.length_append, List.length_cons, List.length_nil]; omega
theorem RelO.isSome_eq {o : Option V} {u : Option Value} (r : RelO o u) : o.isSome = u.isSome := by
  cases o with
  | none => cases u with
    | none => rfl
    | some _ => exact (show False from r).elim
  | some _ => cases u with
    | none => exact (show False from r).elim
    | some _ => rfl
theorem KV.val {kvs : List (κ × V)} {vs : List (κ × Value)} (r : KV kvs vs) (k : κ) : RelO (valV kvs k) (valueAt vs k) := by
  unfold KV at r
  induction r with
  | nil => exact True.intro
  | @cons p q ps qs h t ih =>
    obtain ⟨h1, h2⟩ := h
    by_cases e : p.1 = k
    · have e' : q.1 = k := h1.symm.trans e
      have b : valueAt (q :: qs) k = some q.2 := by simp [valueAt, List.find?_cons, e']
      rw [valV_pos e, b]; exact h2
    · have e' : ¬ q.1 = k := fun z => e (h1.trans z)
      have b : valueAt (q :: qs) k = valueAt qs k := by simp [valueAt, List.find?_cons, e']
      rw [valV_neg e, b]; exact ih
theorem KV.any {kvs : List (κ × V)} {vs : List (κ × Value)} (r : KV kvs vs) (k : κ) : (kvs.any fun kv => decide (kv.1 = k)) = vs.any fun kv => decide (kv.1 = k) := by
  unfold KV at r
  induction r with
  | nil => rfl
  | cons h t ih => rw [List.any_cons, List.any_cons, ih, h.1]
theorem KV.repl {kvs : List (κ × V)} {vs : List (κ × Value)} (r : KV kvs vs) (k : κ) {y : V} {u : Value} (ry : RelV y u) :
    KV (kvs.map fun kv => if kv.1 = k then (kv.1, y) else kv) (vs.map fun kv => if kv.1 = k then (kv.1, u) else kv) := by
  unfold KV at r ⊢
  induction r with
  | nil => exact .nil
  | @cons p q ps qs h t ih =>
    rw [List.map_cons, List.map_cons]
    refine .cons ?_ ih
    obtain ⟨h1, h2⟩ := h
    by_cases e : p.1 = k
    · rw [if_pos e, if_pos (h1.symm.trans e)]; exact ⟨h1, ry⟩
    · rw [if_neg e, if_neg (fun z => e (h1.trans z))]; exact ⟨h1, h2⟩
theorem KV.put {kvs : List (κ × V)} {vs : List (κ × Value)} (r : KV kvs vs) (k : κ) {y : V} {u : Value} (ry : RelV y u) : KV (putK kvs k y) (stored vs k u) := by
  unfold putK stored
  rw [r.any k]
  by_cases e : (vs.any fun kv => decide (kv.1 = k)) = true
  · rw [if_pos e, if_pos e]; exact r.repl k ry
  · rw [if_neg e, if_neg e]; exact Paired.snoc r ⟨rfl, ry⟩
theorem KV.drop {kvs : List (κ × V)} {vs : List (κ × Value)} (r : KV kvs vs) (k : κ) : KV (dropK kvs k) (without vs k) := by
  unfold KV at r ⊢
  unfold dropK without
  induction r with
  | nil => exact .nil
  | @cons p q ps qs h t ih =>
    obtain ⟨h1, h2⟩ := h
    rw [List.filter_cons, List.filter_cons]
    by_cases e : p.1 = k
    · have a : ¬ decide (p.1 ≠ k) = true := by simp [e]
      have b : ¬ decide (q.1 ≠ k) = true := by simp [h1.symm.trans e]
      rw [if_neg a, if_neg b]; exact ih
    · have e' : ¬ q.1 = k := fun z => e (h1.trans z)
      have a : decide (p.1 ≠ k) = true := by simp [e]
      have b : decide (q.1 ≠ k) = true := by simp [e']
      rw [if_pos a, if_pos b]; exact .cons ⟨h1, h2⟩ ih
theorem KV.keys {kvs : List (κ × V)} {vs : List (κ × Value)} (r : KV kvs vs) : kvs.map (·.1) = vs.map (·.1) := by
  unfold KV at r
  induction r with
  | nil => rfl
  | cons h t ih => rw [List.map_cons, List.map_cons, ih, h.1]
theorem KV.length {kvs : List (κ × V)} {vs : List (κ × Value)} (r : KV kvs vs) : kvs.length = vs.length := Paired.length r
theorem dropK_le (kvs : List (κ × V)) (k : κ) : (dropK kvs k).length ≤ kvs.length := List.length_filter_le _ _
end
theorem kV_is {P : Program} {w : World} {k : Key} {u : Value} (r : RelV (kV k) u) : (mixKind P w).is k u = true := by
  cases k with
  | inl i => obtain ⟨t, e⟩ := (show ∃ t, u = Value.int i t from r); subst e; exact mixKind_int P w i t
  | inr x => obtain ⟨t, e⟩ := (show ∃ t, u = Value.str x t from r); subst e; exact mixKind_str P w x t
theorem items_are {P : Program} {w : World} : ∀ {ks : List Key} {us : List Value}, Vals (ks.map kV) us → ItemsAre (mixKind P w) ks us
  | [], _, r => by rw [List.map_nil] at r; cases r; exact .nil
  | k :: ks, _, r => by
    rw [List.map_cons] at r
    cases r with
    | cons h t => exact .cons (kV_is h) (items_are t)
noncomputable abbrev KT (H : Hp) : List (List Key × V) → List (List Key × Addr × Value) → Prop := Paired fun p q => p.1 = q.1 ∧ H q.2.1 = some (.tup (p.1.map kV)) ∧ RelV p.2 q.2.2
theorem KT.val {H : Hp} {kvs : List (List Key × V)} {xs : List (List Key × Addr × Value)} (r : KT H kvs xs) (k : List Key) : RelO (valV kvs k) ((atKey xs k).map (·.2)) := by
  induction r with
  | nil => exact True.intro
  | @cons p q ps qs h t ih =>
    obtain ⟨h1, _, h2⟩ := h
    by_cases e : p.1 = k
    · have e' : q.1 = k := h1.symm.trans e
      have b : atKey (q :: qs) k = some q.2 := by simp [atKey, List.find?_cons, e']
      rw [valV_pos e, b]; exact h2
    · have e' : ¬ q.1 = k := fun z => e (h1.trans z)
      have b : atKey (q :: qs) k = atKey qs k := by simp [atKey, List.find?_cons, e']
      rw [valV_neg e, b]; exact ih
theorem KT.repl {H : Hp} {kvs : List (List Key × V)} {xs : List (List Key × Addr × Value)} (r : KT H kvs xs) (k : List Key) {y : V} {u : Value} (ry : RelV y u) :
    KT H (kvs.map fun kv => if kv.1 = k then (kv.1, y) else kv) (xs.map (putAt k u)) := by
  induction r with
  | nil => exact .nil
  | @cons p q ps qs h t ih =>
    rw [List.map_cons, List.map_cons]
    refine .cons ?_ ih
    obtain ⟨h1, h2, h3⟩ := h
    unfold putAt
    by_cases e : p.1 = k
    · rw [if_pos e, if_pos (h1.symm.trans e)]; exact ⟨h1, h2, ry⟩
    · rw [if_neg e, if_neg (fun z => e (h1.trans z))]; exact ⟨h1, h2, h3⟩
theorem KT.put {H : Hp} {kvs : List (List Key × V)} {xs : List (List Key × Addr × Value)} (r : KT H kvs xs) (k : List Key) {b : Addr} {y : V} {u : Value} (hb : H b = some (.tup (k.map kV))) (ry : RelV y u) :
    KT H (putK kvs k y) (storedH xs k b u) := by
  have e : (kvs.any fun kv => decide (kv.1 = k)) = (atKey xs k).isSome := by
    rw [valV_any, (r.val k).isSome_eq, Option.isSome_map]
  unfold putK storedH
  rw [e]
  by_cases q : (atKey xs k).isSome = true
  · rw [if_pos q, if_pos q]; exact r.repl k ry
  · rw [if_neg q, if_neg q]; exact Paired.snoc r ⟨rfl, hb, ry⟩
theorem KT.keeps {H H' : Hp} {kvs : List (List Key × V)} {xs : List (List Key × Addr × Value)} (r : KT H kvs xs) (ht : ∀ b ys, H b = some (.tup ys) → H' b = some (.tup ys)) : KT H' kvs xs :=
  Paired.mapP r fun _ _ z => ⟨z.1, ht _ _ z.2.1, z.2.2⟩
section
variable {P : Program} {w : World} {H : Hp} {h : Heap} {a : Addr}
theorem rd_of {u : HO} (ok : HOk P w H h) (e : Rd H a u) : ObjOk P w H h a u := e.ok ok
theorem dk_rd {kvs : List (Key × V)} (ok : HOk P w H h) (e : Rd H a (.dK kvs)) : kvs.length ≤ sizeLine ∧ (a == sysModules) = false ∧ ∃ vs, KV kvs vs ∧ h.DictOf (mixKind P w) a vs :=
  show ObjOk P w H h a (.dK kvs) from rd_of ok e
theorem dk_of {kvs : List (Key × V)} (ok : HOk P w H h) (e : H a = some (.dK kvs)) : kvs.length ≤ sizeLine ∧ (a == sysModules) = false ∧ ∃ vs, KV kvs vs ∧ h.DictOf (mixKind P w) a vs := dk_rd ok (.inl e)
theorem key_of {ks : List Key} (ok : HOk P w H h) (e : H a = some (.tup (ks.map kV))) : (tupleKind (mixKind P w)).is h ks a := by
  obtain ⟨_, its, r, o, h1, h2, n, h3⟩ := (show ObjOk P w H h a (.tup (ks.map kV)) from ok a _ e)
  exact ⟨o, its.toArray, n, h1, h2, h3, by simpa using items_are r⟩
theorem dt_rd {kvs : List (List Key × V)} (ok : HOk P w H h) (e : Rd H a (.dT kvs)) : kvs.length ≤ sizeLine ∧ (a == sysModules) = false ∧
    ∃ xs, KT H kvs xs ∧ h.DictOfH (tupleKind (mixKind P w)) a xs := by
  obtain ⟨z, y, xs, r, o, es, ep, h1, h2, h3, h4, h5⟩ := (show ObjOk P w H h a (.dT kvs) from rd_of ok e)
  refine ⟨z, y, xs, r, o, es, ep, h1, h2, h3, h4, fun x hx => ?_, h5⟩
  have all : ∀ {l : List (List Key × V)} {m : List (List Key × Addr × Value)}, KT H l m → ∀ x ∈ m, (tupleKind (mixKind P w)).is h x.1 x.2.1 := by
    intro l m q
    induction q with
    | nil => intro x hx; exact nomatch hx
    | @cons p q ps qs hq t ih =>
      intro x hx
      rcases List.mem_cons.mp hx with e | hx
      · subst e
        exact key_of ok (by rw [← hq.1]; exact hq.2.1)
      · exact ih x hx
  exact all r x hx
theorem dt_of {kvs : List (List Key × V)} (ok : HOk P w H h) (e : H a = some (.dT kvs)) : kvs.length ≤ sizeLine ∧ (a == sysModules) = false ∧
    ∃ xs, KT H kvs xs ∧ h.DictOfH (tupleKind (mixKind P w)) a xs := dt_rd ok (.inl e)
end
noncomputable def DGet (H : Hp) (a : Addr) (y : V) (r : Option V) : Prop :=
  (∃ kvs k, Rd H a (.dK kvs) ∧ y = kV k ∧ r = valV kvs k) ∨ ∃ kvs k b, Rd H a (.dT kvs) ∧ y = .ref b ∧ H b = some (.tup (k.map kV)) ∧ r = valV kvs k
noncomputable def DPut (H : Hp) (a : Addr) (y v : V) (H' : Hp) : Prop :=
  (∃ kvs k, H a = some (.dK kvs) ∧ y = kV k ∧ kvs.length < sizeLine ∧ H' = upd H a (.dK (putK kvs k v))) ∨
  ∃ kvs k b, H a = some (.dT kvs) ∧ y = .ref b ∧ H b = some (.tup (k.map kV)) ∧ kvs.length < sizeLine ∧ H' = upd H a (.dT (putK kvs k v))
theorem DGet.k {H : Hp} {a : Addr} {kvs : List (Key × V)} {k : Key} (e : H a = some (.dK kvs)) : DGet H a (kV k) (valV kvs k) := .inl ⟨kvs, k, .inl e, rfl, rfl⟩
theorem DPut.k {H : Hp} {a : Addr} {kvs : List (Key × V)} {k : Key} {v : V} (e : H a = some (.dK kvs)) (hl : kvs.length < sizeLine) : DPut H a (kV k) v (upd H a (.dK (putK kvs k v))) := .inl ⟨kvs, k, e, rfl, hl, rfl⟩
section
variable {X : Cx} {pins : List (Addr × Obj)} {σ : St} {H : Hp} {s : Shared} {a : Addr} {y v : V} {u r : Value} {o : Option V} {A : Around} {E : Value → Shared → Prop}
theorem Inv.big (I : Inv X pins σ H s) : sysModules < s.heap.objs.size := by
  have h : mainGlobals < s.heap.objs.size := (I.mod.glob.keeps I.bk).lt
  exact Nat.lt_trans (by decide) h
theorem d_getItem {Q : Value → Shared → Prop} (hu : A.units + 1 < cLine) (I : Inv X pins σ H s) (g : DGet H a y (some v)) (ry : RelV y u) (h : ∀ w' s', Inv X pins σ H s' → RelV v w' → Q w' s') :
    wpAny (model X.prog X.w) A (getItem (.ref a) u) Q E s := by
  rcases g with ⟨kvs, k, e, ey, l⟩ | ⟨kvs, k, b, e, ey, eb, l⟩
  · subst ey
    obtain ⟨z, hd, vs, rel, dd⟩ := dk_rd I.hok e
    obtain ⟨w', hw, rw'⟩ := RelO.some_of (v := v) (o := valueAt vs k) (by rw [l]; exact rel.val k)
    exact wpAny_getItem_of (kV_is ry) dd.mapOf hw (h w' _ (I.tok _) rw')
  · subst ey
    cases (show u = Value.ref b from ry)
    obtain ⟨z, hd, xs, rel, dd⟩ := dt_rd I.hok e
    obtain ⟨w', hw, rw'⟩ := RelO.some_of (v := v) (o := (atKey xs k).map (·.2)) (by rw [l]; exact rel.val k)
    obtain ⟨p, hp, hp2⟩ := Option.map_eq_some_iff.mp hw
    refine wpAny_getItem_heap (tupleKind_room_in1 hu) (key_of I.hok eb) dd hp ?_
    rw [hp2]
    exact h w' _ (I.tok _) rw'
theorem d_in {Q : Value → Shared → Prop} (hu : A.units + 1 < cLine) (I : Inv X pins σ H s) (g : DGet H a y o) (ry : RelV y u) (h : ∀ s', Inv X pins σ H s' → Q (.bool o.isSome) s') :
    wpAny (model X.prog X.w) A (compareOp .In u (.ref a)) Q E s := by
  rcases g with ⟨kvs, k, e, ey, l⟩ | ⟨kvs, k, b, e, ey, eb, l⟩
  · subst ey
    obtain ⟨z, hd, vs, rel, dd⟩ := dk_rd I.hok e
    refine wpAny_in_of (kV_is ry) hd dd.mapOf ?_
    rw [← (rel.val k).isSome_eq, ← l]
    exact h _ (I.tok _)
  · subst ey
    cases (show u = Value.ref b from ry)
    obtain ⟨z, hd, xs, rel, dd⟩ := dt_rd I.hok e
    refine wpAny_in_heap (tupleKind_room_in1 hu) (key_of I.hok eb) hd dd ?_
    have q := (rel.val k).isSome_eq
    rw [Option.isSome_map] at q
    rw [← q, ← l]
    exact h _ (I.tok _)
theorem d_notIn {Q : Value → Shared → Prop} (hu : A.units + 1 < cLine) (I : Inv X pins σ H s) (g : DGet H a y o) (ry : RelV y u) (h : ∀ s', Inv X pins σ H s' → Q (.bool (!o.isSome)) s') :
    wpAny (model X.prog X.w) A (compareOp .NotIn u (.ref a)) Q E s := by
  rcases g with ⟨kvs, k, e, ey, l⟩ | ⟨kvs, k, b, e, ey, eb, l⟩
  · subst ey
    obtain ⟨z, hd, vs, rel, dd⟩ := dk_rd I.hok e
    refine wpAny_notIn_of (kV_is ry) hd dd.mapOf ?_
    rw [← (rel.val k).isSome_eq, ← l]
    exact h _ (I.tok _)
  · subst ey
    cases (show u = Value.ref b from ry)
    obtain ⟨z, hd, xs, rel, dd⟩ := dt_rd I.hok e
    refine wpAny_notIn_heap (tupleKind_room_in1 hu) (key_of I.hok eb) hd dd ?_
    have q := (rel.val k).isSome_eq
    rw [Option.isSome_map] at q
    rw [← q, ← l]
    exact h _ (I.tok _)
theorem d_write {h' : Heap} {t' : Nat} {ob : HO} (I : Inv X pins σ H s) (mu : Mut (H a)) (hs : Heap.SameBut a s.heap h') (he : ∃ q, h'.get? a = some q) (new : ObjOk X.prog X.w (upd H a ob) h' a ob) :
    Inv X pins σ (upd H a ob) { s with heap := h', toks := t' } :=
  I.write (x := a) (e := a) mu (.inl rfl) (fun b q hb z => (hs.2 b hb).trans z) he new
theorem dk_new {P : Program} {w : World} {H' : Hp} {h' : Heap} {kvs : List (Key × V)} {vs : List (Key × Value)} (z : kvs.length ≤ sizeLine) (hd : (a == sysModules) = false) (rel : KV kvs vs) (dd : h'.DictOf (mixKind P w) a vs) :
    ObjOk P w H' h' a (.dK kvs) := ⟨z, hd, vs, rel, dd⟩
theorem d_setItem {H' : Hp} {Q : Unit → Shared → Prop} (hu : A.units + 1 < cLine) (I : Inv X pins σ H s) (g : DPut H a y v H') (ry : RelV y u) (rv : RelV v r) (h : ∀ s', Inv X pins σ H' s' → Q () s') :
    wpAny (model X.prog X.w) A (setItem (.ref a) u r) Q E s := by
  rcases g with ⟨kvs, k, e, ey, l, eH⟩ | ⟨kvs, k, b, e, ey, eb, l, eH⟩
  · subst ey eH
    obtain ⟨z, hd, vs, rel, dd⟩ := dk_of I.hok e
    have hz : vs.length ≤ sizeLine := by rw [← rel.length]; exact z
    have hl : (putK kvs k v).length ≤ sizeLine := by have := length_putK kvs k v; omega
    refine wpAny_setItem_pairs (hsz := hz) (kV_is ry) dd fun h' dd' hs => h _ ?_
    have he : ∃ q, h'.get? a = some q := let ⟨q, _, _, hq, _⟩ := dd'; ⟨q, hq⟩
    exact d_write I (by rw [e]; exact True.intro) hs he (dk_new hl hd (rel.put k rv) dd')
  · subst ey eH
    cases (show u = Value.ref b from ry)
    obtain ⟨z, hd, xs, rel, dd⟩ := dt_of I.hok e
    have hz : xs.length ≤ sizeLine := by rw [← Paired.length rel]; exact z
    have hl : (putK kvs k v).length ≤ sizeLine := by have := length_putK kvs k v; omega
    refine wpAny_setItem_heap (hsz := hz) (tupleKind_room_in1 hu) (key_of I.hok eb) dd fun h' dd' hs => h _ ?_
    obtain ⟨q, es, ep, hq, h2, h3, h4, _, h5⟩ := dd'
    refine d_write I (by rw [e]; exact True.intro) hs ⟨q, hq⟩ ⟨hl, hd, _, (rel.put k eb rv).keeps fun c ys ec => ?_, q, es, ep, hq, h2, h3, h4, h5⟩
    rw [upd_ne (ne_of ec e (fun z => nomatch z))]
    exact ec
end
section
variable {X : Cx} {pins : List (Addr × Obj)} {σ : St} {H : Hp} {s : Shared} {a : Addr} {kvs : List (Key × V)} {k : Key} {u : Value} {A : Around} {E : Value → Shared → Prop}
theorem d_pop {v : V} {more : List Value} {Q : Value → Shared → Prop} (I : Inv X pins σ H s) (e : H a = some (.dK kvs)) (ry : RelV (kV k) u) (l : valV kvs k = some v) (hm : more = [] ∨ ∃ x, more = [x])
    (h : ∀ w' s', Inv X pins σ (upd H a (.dK (dropK kvs k))) s' → RelV v w' → Q w' s') : wpAny (model X.prog X.w) A (call (.builtin "dict.pop") (.ref a :: u :: more)) Q E s := by
  obtain ⟨z, hd, vs, rel, dd⟩ := dk_of I.hok e
  obtain ⟨w', hw, rw'⟩ := RelO.some_of (v := v) (o := valueAt vs k) (by rw [← l]; exact rel.val k)
  have hp : (keyPart u).isSome = true := by
    cases k with
    | inl i => obtain ⟨t, q⟩ := (show ∃ t, u = Value.int i t from ry); subst q; rfl
    | inr x => obtain ⟨t, q⟩ := (show ∃ t, u = Value.str x t from ry); subst q; rfl
  have ha : argsOk "dict.pop" ⟨.ref a :: u :: more, []⟩ := by
    rcases hm with q | ⟨x, q⟩
    · subst q; exact PySem.F.args_dict_pop_2 _ _
    · subst q; exact PySem.F.args_dict_pop_3 _ _ _
  refine call_meetsIn PySem.F.slot_dict_pop dd.typeIs PySem.F.entry_dict_pop ha (meets_dict_pop_there (mixKind X.prog X.w) a (kV_is ry) more hm hp)
    ⟨vs, w', dd, by rw [← rel.length]; exact z, hw, fun h' dd' hs => h w' _ ?_ rw'⟩
  have he : ∃ q, h'.get? a = some q := let ⟨q, _, _, hq, _⟩ := dd'; ⟨q, hq⟩
  exact d_write I (by rw [e]; exact True.intro) hs he (dk_new (Nat.le_trans (dropK_le kvs k) z) hd (rel.drop k) dd')
end
noncomputable def NoSl (i : Expr) : Prop := ∀ ov iv, subscripted i false ov iv = operate [ov, iv] (getItem ov iv)
theorem subD_of {prog : Program} {w : World} {A : Around} {E : Value → Shared → Prop} {s : Shared} {env : Env} {value slice : Expr} {pos : Pos} {T id : String} {Q : Value → Shared → Prop}
    (hl : typeLookup (.type T) "__getitem__" = pure (some (.builtin id))) (hs : NoSl slice)
    (h : wpAny (model prog w) A (eval value env) (fun o s₁ => wpAny (model prog w) A (eval slice env) (fun i s₂ => s₂.TypeIs o T ∧ wpAny (model prog w) A (getItem o i) Q E s₂) E s₁) E s) :
    wpAny (model prog w) A (eval (.Subscript value slice pos) env) Q E s := by
  refine Subscript_ (wpAny_mono h (fun o s₁ h₁ => wpAny_mono h₁ (fun i s₂ h₂ => ?_) fun _ _ x => x) fun _ _ x => x)
  obtain ⟨hT, h₂⟩ := h₂
  unfold subscriptTail
  refine wpAny_bind ?_
  rw [getitemInPython_of_ne hT.not_modules]
  refine wpAny_bind (wpAny_specialOf hT hl ?_)
  have fin : wpAny (model prog w) A (subscripted slice false o i) (fun r s₃ => wpAny (model prog w) A (letTemporaryGo value o r >>= fun _ => pure r) Q E s₃) E s₂ := by
    rw [hs o i]
    exact wpAny_operating (wpAny_mono h₂ (fun r s₃ h₃ => wpAny_bind (wpAny_letTemporaryGo (wpAny_pure h₃))) fun _ _ x => x)
  first
    | exact wpAny_pure (wpAny_bind fin)
    | exact wpAny_bind (wpAny_pure (wpAny_bind fin))
    | exact wpAny_bind fin
theorem dict_typeIs {X : Cx} {pins : List (Addr × Obj)} {σ : St} {H : Hp} {s : Shared} {a : Addr} {y : V} {o : Option V} (I : Inv X pins σ H s) (g : DGet H a y o) : s.TypeIs (.ref a) "dict" := by
  rcases g with ⟨kvs, k, e, _, _⟩ | ⟨kvs, k, b, e, _, _, _⟩
  · obtain ⟨_, _, vs, _, dd⟩ := dk_rd I.hok e
    exact dd.typeIs
  · obtain ⟨_, _, xs, _, dd⟩ := dt_rd I.hok e
    exact dd.typeIs
noncomputable def tDGet (td ty : TE) : TE := fun σ H Q => td σ H fun x H1 => ty σ H1 fun y H2 => ∃ a v, x = .ref a ∧ DGet H2 a y (some v) ∧ Q v H2
noncomputable def tDIn (ty td : TE) : TE := fun σ H Q => ty σ H fun y H1 => td σ H1 fun x H2 => ∃ a o, x = .ref a ∧ DGet H2 a y o ∧ Q (.bl o.isSome) H2
noncomputable def tDNotIn (ty td : TE) : TE := fun σ H Q => ty σ H fun y H1 => td σ H1 fun x H2 => ∃ a o, x = .ref a ∧ DGet H2 a y o ∧ Q (.bl (!o.isSome)) H2
noncomputable def sDPut (td ty tv : TE) : TS := fun D σ H => tv σ H fun v H1 => td σ H1 fun x H2 => ty σ H2 fun y H3 => ∃ a H4, x = .ref a ∧ DPut H3 a y v H4 ∧ D.nx σ H4
section
variable {X : Cx} {o i e value : Expr} {pos pos' tpos : Pos} {td ty tv : TE}
theorem pe_dget (hu : X.A.units + 1 < cLine) (ho : PE X o td) (hi : PE X i ty) (hs : NoSl i) : PE X (.Subscript o i pos) (tDGet td ty) := by
  intro pins s σ H Q I h
  refine subD_of PySem.F.slot_dict_getitem.lookup hs (thn (ho pins s σ H _ I h) fun u s1 ⟨x, H1, I1, rx, q1⟩ => thn (hi pins s1 σ H1 _ I1 q1) fun iv s2 ⟨y, H2, I2, ry, a, v, ex, g, q2⟩ => ?_)
  subst ex
  obtain rfl : u = Value.ref a := rx
  exact ⟨dict_typeIs I2 g, d_getItem hu I2 g ry fun w' s3 I3 rw' => ⟨v, H2, I3, rw', q2⟩⟩
theorem pc_din (hu : X.A.units + 1 < cLine) (hi : PE X i ty) (ho : PE X o td) : PC X .In i o (tDIn ty td) := by
  intro pins s σ H Q I h
  refine thn (hi pins s σ H _ I h) fun iv s1 ⟨y, H1, I1, ry, q1⟩ => thn (ho pins s1 σ H1 _ I1 q1) fun u s2 ⟨x, H2, I2, rx, a, ov, ex, g, q2⟩ => ?_
  subst ex
  obtain rfl : u = Value.ref a := rx
  exact d_in hu I2 g ry fun s3 I3 => ⟨.bl ov.isSome, H2, I3, rfl, q2⟩
theorem pc_dnotin (hu : X.A.units + 1 < cLine) (hi : PE X i ty) (ho : PE X o td) : PC X .NotIn i o (tDNotIn ty td) := by
  intro pins s σ H Q I h
  refine thn (hi pins s σ H _ I h) fun iv s1 ⟨y, H1, I1, ry, q1⟩ => thn (ho pins s1 σ H1 _ I1 q1) fun u s2 ⟨x, H2, I2, rx, a, ov, ex, g, q2⟩ => ?_
  subst ex
  obtain rfl : u = Value.ref a := rx
  exact d_notIn hu I2 g ry fun s3 I3 => ⟨.bl (!ov.isSome), H2, I3, rfl, q2⟩
theorem ps_dput (hu : X.A.units + 1 < cLine) (ho : PE X o td) (hi : PE X i ty) (hv : PE X value tv) (hs : swapsWith value (some (.Subscript o i pos')) pos.line X.env = pure false) :
    PS X (.Assign [.Subscript o i pos'] value pos) (sDPut td ty tv) := by
  intro pins s σ H D I h
  refine wpAny_Assign_Subscript (thn (hv pins s σ H _ I h) fun r s1 ⟨v, H1, I1, rv, q1⟩ => thn (ho pins s1 σ H1 _ I1 q1) fun u s2 ⟨x, H2, I2, rx, q2⟩ => thn (hi pins s2 σ H2 _ I2 q2) fun iv s3 ⟨y, H3, I3, ry, a, H4, ex, g, q3⟩ => ?_) hs
  subst ex
  obtain rfl : u = Value.ref a := rx
  exact d_setItem hu I3 g ry rv fun s4 I4 => ⟨σ, H4, I4, q3⟩
end
theorem dk_empty {P : Program} {w : World} {H : Hp} (h : Heap) (hb : sysModules < h.objs.size) : ObjOk P w H (h.push { cls := .type "dict", data := .dict #[] }) h.objs.size (.dK []) :=
  ⟨Nat.zero_le _, beq_eq_false_iff_ne.mpr (Ne.symm (Nat.ne_of_lt hb)), [], .nil, Heap.DictOf.new h⟩
noncomputable def tDNewK : TE := fun _ H Q => ∀ p, H p = none → Q (.ref p) (upd H p (.dK []))
section
variable {X : Cx} {pos : Pos}
theorem pe_dnewK : PE X (.Dict [] [] pos) tDNewK := fun pins s σ H Q I h =>
  wpAny_Dict_empty ⟨.ref s.heap.objs.size, _, I.laid (a := s.heap.objs.size) (o := .dK []) (t' := s.toks) (fun _ _ q => Heap.get?_push_of_some _ q) (Nat.le_refl _) (dk_empty s.heap I.big), rfl, h _ (I.hok.fresh (Nat.le_refl _))⟩
end
structure M1 (X : Cx) (o : Expr) (m : Str) (apos : Pos) (e : Expr) (cpos : Pos) : Prop where
  base : attributeBase o m X.env (eval o X.env) = eval o X.env
  few : ((backTo cpos (starEach [e] X.env)).all (fun x => !x.1) && (backToKw cpos (keywordEach [] X.env)).all (fun x => x.1.isSome)
    && decide (([e] : List Expr).length + ([] : List Keyword).length + (if ([] : List Keyword).isEmpty then 0 else 1) < 30)) = true
  line : (apos.endLine == cpos.line) = true
  trees : backTo cpos (starEach [e] X.env) = [(false, eval e X.env)]
noncomputable def IsD (H : Hp) (a : Addr) : Prop := (∃ kvs, Rd H a (.dK kvs)) ∨ ∃ kvs, Rd H a (.dT kvs)
theorem isD_at {X : Cx} {pins : List (Addr × Obj)} {σ : St} {H : Hp} {s : Shared} {a : Addr} (I : Inv X pins σ H s) (d : IsD H a) :
    s.TypeIs (.ref a) "dict" ∧ (∀ b, Value.ref a = .ref b → ∃ ob, s.heap.get? b = some ob ∧ ob.dict = none) ∧ (a == sysModules) = false := by
  rcases d with ⟨kvs, e⟩ | ⟨kvs, e⟩
  · obtain ⟨_, hd, vs, _, dd⟩ := dk_rd I.hok e
    refine ⟨dd.typeIs, fun b q => ?_, hd⟩
    cases q
    obtain ⟨ob, _, _, h1, h2, _⟩ := dd
    exact ⟨ob, h1, h2.2.1⟩
  · obtain ⟨_, hd, xs, _, dd⟩ := dt_rd I.hok e
    refine ⟨dd.typeIs, fun b q => ?_, hd⟩
    cases q
    obtain ⟨ob, _, _, h1, h2, _⟩ := dd
    exact ⟨ob, h1, h2.2.1⟩
section
variable {X : Cx} {pins : List (Addr × Obj)} {σ : St} {H : Hp} {s : Shared} {a : Addr} {y d : V} {u r : Value} {o : Option V} {A : Around} {E : Value → Shared → Prop}
end
noncomputable def tDPop1 (td ty : TE) : TE := fun σ H Q => td σ H fun x H1 => ∃ a, x = .ref a ∧ IsD H1 a ∧ ty σ H1 fun y H2 => ∃ kvs k v, H2 a = some (.dK kvs) ∧ y = kV k ∧ valV kvs k = some v ∧ Q v (upd H2 a (.dK (dropK kvs k)))
section
variable {X : Cx} {o e f : Expr} {apos cpos : Pos} {td ty tx : TE}
theorem pe_dpop1 (ho : PE X o td) (he : PE X e ty) (m : M1 X o "pop" apos e cpos) : PE X (.Call (.Attribute o "pop" apos) [e] [] cpos) (tDPop1 td ty) := by
  intro pins s σ H Q I h
  refine wpAny_Call_method m.base m.few m.line PySem.F.plainAttrs_dict PySem.F.slot_dict_pop PySem.F.type_dict_pop (thn (ho pins s σ H _ I h) fun u s1 ⟨x, H1, I1, rx, a, ex, d, q1⟩ => ?_)
  subst ex
  obtain rfl : u = Value.ref a := rx
  obtain ⟨t1, t2, _⟩ := isD_at I1 d
  refine ⟨t1, t2, ?_⟩
  rw [m.trees]
  refine Calls.callWith_builtin rfl (Calls.evalArgs_plain (Calls.spliced_cons (thn (he pins s1 σ H1 _ I1 q1) fun iv s2 ⟨y, H2, I2, ry, kvs, k, v, ea, ey, l, q2⟩ => Calls.spliced_nil ?_)))
  subst ey
  exact d_pop I2 ea ry l (.inl rfl) fun w' s3 I3 rw' => ⟨v, _, I3, rw', q2⟩
end
section
variable {X : Cx} {pins : List (Addr × Obj)} {σ : St} {H : Hp} {s : Shared} {a : Addr} {kvs : List (Key × V)} {A : Around} {E : Value → Shared → Prop}
end
section
variable {X : Cx} {pins : List (Addr × Obj)} {σ : St} {H : Hp} {s : Shared} {a : Addr} {y : V} {u : Value} {A : Around} {E : Value → Shared → Prop}
end
end L2
namespace L2
open PySem PySem.Spec PyProof.Rows
section
variable {prog : Program} {w : World} {A : Around} {E : Value → Shared → Prop}
end
section
variable {X : Cx}
theorem refs_at : ∀ {ps : List Addr} {us : List Value}, Vals (ps.map V.ref) us → us = ps.map Value.ref
  | [], us, r => by
    rw [List.map_nil] at r
    cases r
    rfl
  | p :: ps, us, r => by
    rw [List.map_cons] at r
    cases r with
    | cons h t =>
      cases h
      rw [List.map_cons, ← refs_at t]
end
end L2
namespace L2
open PySem PySem.Spec PyProof.Rows
section
variable {X : Cx} {pins : List (Addr × Obj)} {σ : St} {H : Hp} {s : Shared} {h' : Heap}
end
section
variable {X : Cx}
end
section
variable {X : Cx} {tg : Expr}
end
section
variable {X : Cx} {tg : Expr}
end
section
variable {prog : Program} {w : World} {A : Around} {E : Value → Shared → Prop} {s : Shared}
end
theorem relV_key {k : Key} {u : Value} (h : keyIs k u = true) : RelV (kV k) u := by
  rcases keyIs_shape h with ⟨i, t, rfl, rfl⟩ | ⟨x, t, rfl, rfl⟩
  · exact ⟨t, rfl⟩
  · exact ⟨t, rfl⟩
section
variable {X : Cx} {pins : List (Addr × Obj)} {σ : St} {H : Hp} {s : Shared} {d : Addr} {o : Obj}
end
section
variable {P : Program} {w : World} {K : PySem.W.Frag} {tg : Expr} {d : Addr} {o : Obj} {es : Array DictEntry} {ep : Nat}
end
section
variable {X : Cx} {tg e : Expr} {td : TE} {apos cpos : Pos}
end
end L2
section
namespace Bits
open PySem PyProof.Rows
end Bits
end
section
namespace TL
open PySem PySem.Builtin PySem.Builtin.Str PySem.StrLaws
end TL
end
namespace L2
open PySem PySem.Spec PyProof.Rows
section
variable {X : Cx} {pins : List (Addr × Obj)} {σ : St} {H : Hp} {s : Shared} {Q : VK}
end
section
variable {X : Cx}
end
section
variable {X : Cx} {o e : Expr} {to te : TE}
end
end L2
namespace L2
open PySem PySem.Spec PyProof.Rows
section
variable {X : Cx}
end
end L2
namespace Att
open PySem PySem.W PySem.Calls PyProof.Rows
section
variable {prog : Program} {w : World} {A : Around} {E : Value → Shared → Prop} {s : Shared} {K : Frag}
end
end Att
namespace L2
open PySem PySem.Spec PyProof.Rows
end L2
namespace L2
open PySem PySem.Spec PyProof.Rows
noncomputable abbrev KOf {K : PySem.W.Frag} {h : Heap} (_ : K.In h) : PySem.W.Frag := K
end L2
namespace L2
open PySem PySem.Spec PyProof.Rows
noncomputable def inClass (s : Stmt) (j : Nat) : Stmt := match s with
  | .ClassDef _ _ _ body _ _ _ _ _ _ _ => body.getD j (.Pass ⟨0, 0, 0, 0⟩)
  | _ => .Pass ⟨0, 0, 0, 0⟩
noncomputable def defArgs (s : Stmt) : Arguments := match s with
  | .FunctionDef _ a _ _ _ _ _ _ _ _ => a
  | _ => { posonlyargs := [], args := [], vararg := none, kwonlyargs := [], kw_defaults := [], kwarg := none, defaults := [] }
noncomputable def defBody (s : Stmt) : List Stmt := match s with
  | .FunctionDef _ _ b _ _ _ _ _ _ _ => b
  | _ => []
noncomputable def defScope (s : Stmt) : Scope := match s with
  | .FunctionDef _ _ _ _ _ _ sc _ _ _ => sc
  | _ => { kind := .function, names := [], isGenerator := false, isCoroutine := false }
noncomputable abbrev CX0 : CXT := fun _ _ _ _ _ _ => False
noncomputable abbrev E0 : XK := fun _ _ _ => False
theorem pass0 {X : Cx} : Passes CX0 X E0 := fun _ _ _ _ _ _ _ h => h.elim
structure Fun (K : PySem.W.Frag) (x qual : Str) (st : Stmt) (f : Addr) (fd : FuncData) : Prop where
  ex : ∃ (oc : Value) (od : Option Addr) (kV doc pm : Value) (an : Option Addr) (cdv ct : Value) (osl : Array (Option Value)),
    fd = PySem.W.fnOf x qual (defArgs st) (defBody st) (defScope st) .none kV doc pm an cdv ct ∧ K.lookup f = some ⟨oc, od, .func fd, osl⟩ ∧ PySem.W.codeIn K cdv qual = true
  kp : PySem.W.keepIn K (.ref f) = true
section
variable {P : Program} {w : World} {K : PySem.W.Frag} {mg : Str → Option Value} {base : Heap}
theorem Fun.ok {x qual : Str} {st : Stmt} {f : Addr} {fd : FuncData} {N ps : List Str} {k : Nat} {sp : Sp} (F : Fun K x qual st f fd) (S : FnScope N ps (defScope st)) (len : ∀ vs H Q E, sp vs H Q E → vs.length = ps.length)
    (hbody : ∀ (cdv : Value) (A : Around) (outer : List Env) (s : Shared) (H : Hp) (vs : List V) (Q : VK) (E : XK), Room k (A.deeper (envOfC qual (defScope st) s.heap.objs.size f cdv)) → sp vs H Q E →
      ∃ t, PSs (cxOf CX0 P w K mg base N qual (defScope st) f cdv A outer s H E).nox (defBody st) t ∧ t { nx := fun _ H' => Q .non H', rt := Q } (start N vs) H) : FnOk P w K mg base CX0 (k + 1) f fd ps sp := by
  obtain ⟨oc, od, kV, doc, pm, an, cdv, ct, osl, rfl, lk, hcd⟩ := F.ex
  refine fn_of lk hcd S len fun A outer s H vs Q E hr hsp => ?_
  obtain ⟨t, h, q⟩ := hbody cdv A outer s H vs Q E hr hsp
  exact ⟨t, h.nox, q⟩
theorem Fun.binds {x qual : Str} {st : Stmt} {f : Addr} {fd : FuncData} {ps : List Str} (F : Fun K x qual st f fd)
    (h : ∀ (kV doc pm : Value) (an : Option Addr) (cdv ct : Value) (us : List Value), us.length = ps.length → bindArgs (PySem.W.fnOf x qual (defArgs st) (defBody st) (defScope st) .none kV doc pm an cdv ct) ⟨us, []⟩ = pure (ps.zip us)) : Binds K fd ps [] := by
  obtain ⟨oc, od, kV, doc, pm, an, cdv, ct, osl, rfl, lk, hcd⟩ := F.ex
  exact .all (h kV doc pm an cdv ct)
theorem fun_mk {x qual : Str} {st : Stmt} {f : Addr} {oc : Value} {od an : Option Addr} {osl : Array (Option Value)} {kV doc pm cdv ct : Value} (l : K.lookup f = some ⟨oc, od, .func (PySem.W.fnOf x qual (defArgs st) (defBody st) (defScope st) .none kV doc pm an cdv ct), osl⟩)
    (c : PySem.W.codeIn K cdv qual = true) (k : PySem.W.keepIn K (.ref f) = true) : Fun K x qual st f (PySem.W.fnOf x qual (defArgs st) (defBody st) (defScope st) .none kV doc pm an cdv ct) := ⟨⟨oc, od, kV, doc, pm, an, cdv, ct, osl, rfl, l, c⟩, k⟩
end
theorem hu_of {A : Around} {k : Nat} (hr : Room k A) : A.units + 1 < cLine := Nat.lt_of_le_of_lt (Nat.add_le_add_left (by decide : 1 ≤ 64) _) hr.units
theorem small1000 {n : Nat} (h : n ≤ 1000) : n < sizeLine := Nat.lt_of_le_of_lt h (by decide)
section
variable {X : Cx}
theorem pv (i : Nat) {x : Str} {pos : Pos} (hN : X.N[i]? = some x := by rfl) (hv : Vis X.env.scope x := by first | exact Or.inl rfl | exact Or.inr (Or.inl rfl) | exact Or.inr (Or.inr rfl)) (hd : (x == ("__debug__" : Str)) = false := by decide)
    (hcd : (x == ("__classdict__" : Str)) = false := by decide) : PE X (.Name x pos) (tVar i) := pe_var hN hv hd hcd
end
theorem iteT {A B : Prop} (h : A) : if true = true then A else B := by
  rw [if_pos rfl]
  exact h
noncomputable def Same (H H' : Hp) : Prop := ∀ b o, H b = some o → H' b = some o
theorem Same.refl (H : Hp) : Same H H := fun _ _ h => h
theorem Same.trans {H H1 H2 : Hp} (a : Same H H1) (b : Same H1 H2) : Same H H2 := fun c o h => b c o (a c o h)
theorem Same.free {H H' : Hp} (e : Same H H') {l : Addr} (h : H' l = Option.none) : H l = Option.none := by
  cases q : H l with
  | none => rfl
  | some o =>
    rw [e l o q] at h
    cases h
section
variable {κ : Type} [DecidableEq κ]
end
theorem nd_ix {α : Type} {l : List α} (hN : l.Nodup) {i j : Nat} {x : α} (a : l[i]? = some x) (b : l[j]? = some x) : i = j := by
  obtain ⟨h1, e1⟩ := List.getElem?_eq_some_iff.mp a
  obtain ⟨h2, e2⟩ := List.getElem?_eq_some_iff.mp b
  exact (List.getElem_inj hN).mp (e1.trans e2.symm)
theorem Same.made {H H1 : Hp} {x dx C : Addr} (nx : H x = Option.none) (nd : H dx = Option.none) (k : ∀ b o, (upd (upd H dx (.own x)) x (.ins C dx [])) b = some o → b ≠ x → H1 b = some o) : Same H H1 := fun b o e =>
  k b o (by rw [upd_ne (ne_of_none e nx), upd_ne (ne_of_none e nd)]; exact e) (ne_of_none e nx)
end L2
set_option linter.all false
set_option maxRecDepth 100000
namespace L2
open PySem PySem.Spec PyProof.Rows
theorem vals_of_get : ∀ {xs : List V} {us : List Value}, xs.length = us.length → (∀ (j : Nat) x u, xs[j]? = some x → us[j]? = some u → RelV x u) → Vals xs us
  | [], [], _, _ => .nil
  | [], _ :: _, h, _ => by simp at h
  | _ :: _, [], h, _ => by simp at h
  | x :: xs, u :: us, h, g => .cons (g 0 x u rfl rfl) (vals_of_get (by simpa using h) fun j y v e1 e2 => g (j + 1) y v (by simpa using e1) (by simpa using e2))
theorem zip_self {α : Type} : ∀ l : List α, l.zip l = l.map fun x => (x, x)
  | [] => rfl
  | x :: l => by rw [List.zip_cons_cons, List.map_cons, zip_self l]
theorem perm_map_lift {α β : Type} {f : α → β} {l k : List β} (p : l.Perm k) : ∀ m : List α, k = m.map f → ∃ m' : List α, l = m'.map f ∧ m'.Perm m := by
  induction p with
  | nil => intro m h; cases m with
    | nil => exact ⟨[], rfl, .refl _⟩
    | cons a m => simp at h
  | cons x _ ih =>
    intro m h
    cases m with
    | nil => simp at h
    | cons a m =>
      rw [List.map_cons] at h
      obtain ⟨h1, h2⟩ := List.cons.inj h
      obtain ⟨m', e, q⟩ := ih m h2
      exact ⟨a :: m', by rw [List.map_cons, e, h1], q.cons a⟩
  | swap x y l =>
    intro m h
    cases m with
    | nil => simp at h
    | cons a m =>
      cases m with
      | nil => simp at h
      | cons b m =>
        rw [List.map_cons, List.map_cons] at h
        obtain ⟨h1, h2⟩ := List.cons.inj h
        obtain ⟨h3, h4⟩ := List.cons.inj h2
        exact ⟨b :: a :: m, by rw [List.map_cons, List.map_cons, h1, h3, h4], .swap a b m⟩
  | trans _ _ ih1 ih2 =>
    intro m h
    obtain ⟨m1, e1, q1⟩ := ih2 m h
    obtain ⟨m2, e2, q2⟩ := ih1 m1 e1
    exact ⟨m2, e2, q2.trans q1⟩
section
variable {X : Cx}
theorem op_fdivW : OpR X (binaryOp .FloorDiv) (rI (fun _ j => 0 < j ∧ j < 18446744073709551616) fun i j => .int (i / j)) := opI fun i j _ _ _ _ _ hc q => by
  have h1 : (0 : Int) < j := hc.1
  have h2 : j < 18446744073709551616 := hc.2
  refine floordiv_int (by omega) (by rw [Int.fdiv_eq_ediv_of_nonneg i (by omega)]; exact q) (.inl (PyProof.noPylong_of_log2 ?_))
  have h0 : j.natAbs ≠ 0 := by omega
  have : j.natAbs.log2 < 64 := (Nat.log2_lt h0).mpr (by omega)
  omega
noncomputable def rSortedD : List V → Hp → VK → Prop := fun vs H Q => ∃ (d : Addr) (kvs : List (Key × V)) (ns : List Int), vs = [V.ref d] ∧ Rd H d (.dK kvs) ∧ kvs.map (·.1) = ns.map Sum.inl ∧
  ∀ (ns' : List Int) (p : Addr), ns'.Perm ns → ns'.Pairwise (· ≤ ·) → H p = none → Q (.ref p) (upd H p (.lst (ns'.map V.int)))
theorem cr_sortedD (hc : X.calm = true) : CallR X (.builtin "sorted") rSortedD := by
  intro pins s σ H vs us Q I r h
  obtain ⟨d, kvs, ns, rfl, hd, hk, q⟩ := h
  obtain ⟨hz, lo, ws, rel, dd⟩ := dk_rd I.hok hd
  obtain ⟨ep, hat⟩ := dd.dictAt
  rw [Vals.ref1 r]
  have hlen : ws.length = kvs.length := (KV.length rel).symm
  have hkeys : ws.map (·.1) = ns.map Sum.inl := by rw [← KV.keys rel]; exact hk
  have hn : ns.length = ws.length := by
    have e := congrArg List.length hkeys
    rw [List.length_map, List.length_map] at e
    exact e.symm
  refine Calls.call_function_entry kind_sorted plain_sorted entry_sorted (args_sorted1 _) ?_
  unfold Builtin.«sorted»
  refine wpAny_bind (m := checkCount "sorted" 1 1 _) (wpAny_pure ?_)
  refine wpAny_bind (PySem.W.kdu_collect (A := X.A.in1) (PySem.W.kdl_dict (knd := mixKind X.prog X.w) (kvs := ws) (ep := ep) lo) (I.ok.hd hc) hat (by rw [hlen]; exact hz) fun h' tk acc hk' hacc => ?_)
  have hl : acc.toList.length = ws.length := by rw [Array.length_toList]; exact hacc.1
  have hL : acc.toList.length ≤ sizeLine := by rw [hl, hlen]; exact hz
  refine wpAny_bind (wpAny_newList ?_ hL)
  have hI : IntsAre acc.toList ns := by
    refine Vals.ints (vals_of_get (by rw [List.length_map, hn, hl]) fun j x u e1 e2 => ?_)
    obtain ⟨k, y, e3, e4⟩ := hacc.2 j u (by rw [← Array.getElem?_toList]; exact e2)
    have e5 : (ws.map (·.1))[j]? = some k := by rw [List.getElem?_map, e3]; rfl
    rw [hkeys, List.getElem?_map] at e5
    rw [List.getElem?_map] at e1
    cases e6 : ns[j]? with
    | none => rw [e6] at e1; cases e1
    | some n =>
      rw [e6] at e1 e5
      have e7 : V.int n = x := Option.some.inj e1
      have e8 : Sum.inl n = k := Option.some.inj e5
      subst e7; subst e8
      exact relV_key (k := Sum.inl n) e4
  have I' := I.kept (t' := tk) hk'
  have hoL : (h'.push { cls := .type "list", data := .seq acc.toList.toArray }).get? h'.objs.size = some (seqObj "list" acc.toList.toArray 0) := Heap.get?_push_size _ rfl
  refine wpAny_bind (wpAny_holding (wpAny_call_entry slot_list_sort ⟨_, hoL, rfl⟩ entry_list_sort (list_sort_treeAny hoL hI hL fun out ns' a1 a2 a3 => ⟨_, rfl, ?_⟩) (args_list_sort _)))
  refine wpAny_pure ⟨_, rfl, ?_⟩
  obtain ⟨ep', he'⟩ := PyProof.Rows.sortedHeap_at (vs := acc.toList) (out := out) hoL
  have hlen' : (ns'.map V.int).length ≤ sizeLine := by rw [List.length_map, a2.length_eq, hn, hlen]; exact hz
  refine ⟨.ref _, upd H h'.objs.size (.lst (ns'.map V.int)), I'.laid (t' := tk) (fun b u hu => ?_) (Nat.le_refl _) ⟨hlen', out.toList, ep', vals_of_ints a1, he'⟩, rfl, q ns' _ a2 a3 (I'.hok.fresh (Nat.le_refl _))⟩
  have hlt : b < h'.objs.size := Heap.lt_size hu
  rw [PyProof.Rows.sortedHeap_old (Nat.ne_of_lt hlt) (by rw [size_push']; exact Nat.lt_succ_of_lt hlt)]
  exact Heap.get?_push_of_some _ hu
noncomputable def LeT (x y : Addr × Int × Int) : Prop := x.2.1 < y.2.1 ∨ (x.2.1 = y.2.1 ∧ x.2.2 ≤ y.2.2)
noncomputable def rSortedT (K : PySem.W.Frag) : List V → Hp → VK → Prop := fun vs H Q => ∃ (l : Addr) (as : List (Addr × Int × Int)), vs = [V.ref l] ∧ SqL K H l (as.map fun x => V.ref x.1) ∧
  (∀ x, x ∈ as → SqT K H x.1 [.int x.2.1, .int x.2.2]) ∧
  ∀ (as' : List (Addr × Int × Int)) (p : Addr), as'.Perm as → as'.Pairwise LeT → H p = none → Q (.ref p) (upd H p (.lst (as'.map fun x => V.ref x.1)))
noncomputable abbrev noTxt : Nat → Bool := fun _ => false
theorem pairKey {h : Heap} {a : Addr} {i j : Int} {its : List Value} (ht : IsTup h a its.toArray) (r : Vals [V.int i, V.int j] its) : G.tupKeyC h noTxt (.ref a) = some [Sum.inl i, Sum.inl j] ∧ ∃ f, TupOf h noTxt (.ref a) f := by
  obtain ⟨o, ho, hc, n, hd⟩ := ht
  obtain ⟨t, u, rfl⟩ := Vals.int2 r
  refine ⟨?_, .int i t, a, o, _, n, rfl, ho, hc, hd, rfl, fun _ => ⟨i, t, rfl⟩, fun e => absurd e (by decide)⟩
  have e1 : G.isTupObj h (.ref a) = true := by simp [G.isTupObj, ho, hc]
  unfold G.tupKeyC
  rw [if_pos e1]
  simp only [tupKey, ho, hd]
  rfl
theorem tups_all {h : Heap} : ∀ as : List (Addr × Int × Int), (∀ x, x ∈ as → ∃ f, TupOf h noTxt (.ref x.1) f) → ∃ fs, TupsOf h noTxt (as.map fun x => Value.ref x.1) fs
  | [], _ => ⟨[], .nil⟩
  | x :: as, g => by
    obtain ⟨f, hf⟩ := g x List.mem_cons_self
    obtain ⟨fs, hs⟩ := tups_all as fun y hy => g y (List.mem_cons_of_mem _ hy)
    exact ⟨f :: fs, .cons hf hs⟩
theorem lex2 {a b c d : Int} (h : lexLt itemOrd [Sum.inl c, Sum.inl d] [Sum.inl a, Sum.inl b] = false) : a < c ∨ (a = c ∧ b ≤ d) := by
  rw [lex_false] at h
  have h1 : decide (c < a) = false := h.1
  have h2 : c ≥ a := Int.not_lt.mp (of_decide_eq_false h1)
  rcases h.2 with h3 | h3
  · exact .inl (of_decide_eq_true (show decide (a < c) = true from h3))
  · rw [lex_false] at h3
    have h4 : decide (d < b) = false := h3.1
    have h5 : b ≤ d := Int.not_lt.mp (of_decide_eq_false h4)
    omega
theorem cr_sortedT : CallR X (.builtin "sorted") (rSortedT X.K) := by
  intro pins s σ H vs us Q I r h
  obtain ⟨l, as, rfl, hl, ht, q⟩ := h
  obtain ⟨its, rv, hp, hz⟩ := I.list hl
  rw [Vals.ref1 r]
  have ei : its = as.map fun x => Value.ref x.1 := by
    have := refs_at (ps := as.map (·.1)) (us := its) (by rw [List.map_map]; exact rv)
    rw [this, List.map_map]
    rfl
  subst ei
  have key : ∀ x, x ∈ as → G.tupKeyC s.heap noTxt (.ref x.1) = some [Sum.inl x.2.1, Sum.inl x.2.2] ∧ ∃ f, TupOf s.heap noTxt (.ref x.1) f := fun x hx => by
    obtain ⟨its2, rv2, ht2, _⟩ := I.tuple (ht x hx)
    exact pairKey ht2 rv2
  obtain ⟨fs, hfs⟩ := tups_all as fun x hx => (key x hx).2
  rw [List.length_map] at hz
  refine G.sorted_tups (shape := noTxt) (vs := as.map fun x => Value.ref x.1) (fs := fs) hp.isList hfs (fun v hv => ?_) (by rw [List.length_map]; exact hz) fun st' hperm hs _ => ?_
  · obtain ⟨x, hx, rfl⟩ := List.mem_map.mp hv
    exact ⟨_, (key x hx).1⟩
  · have p1 : (arrOf st').toList.Perm (as.map fun x => (Value.ref x.1, Value.ref x.1)) := by
      have e := Array.perm_iff_toList_perm.mp hperm
      rw [pairsOf_toList] at e
      rw [zip_self, List.map_map] at e
      exact e
    obtain ⟨as', e1, p2⟩ := perm_map_lift p1 as rfl
    have hsz : (pairsOf (as.map fun x => Value.ref x.1)).size = as.length := by rw [pairsOf_size, List.length_map]
    have hlen : as'.length = as.length := p2.length_eq
    have eout : ((arrOf st').map (·.2)).toList = as'.map fun x => Value.ref x.1 := by
      rw [Array.toList_map, e1, List.map_map]
      rfl
    have hsort : as'.Pairwise LeT := by
      rw [List.pairwise_iff_getElem]
      intro i j hi hj hij
      have kk : ∀ (k : Nat) (hk : k < as'.length), KK (G.tupKindC s.heap noTxt) (arrOf st') k = [Sum.inl as'[k].2.1, Sum.inl as'[k].2.2] := fun k hk => by
        have e2 : (arrOf st')[k]? = some (Value.ref as'[k].1, Value.ref as'[k].1) := by
          rw [← Array.getElem?_toList, e1, List.getElem?_map, List.getElem?_eq_getElem hk]
          rfl
        unfold KK
        rw [e2]
        show (G.tupKeyC s.heap noTxt (Value.ref as'[k].1)).getD [] = _
        rw [(key as'[k] (p2.mem_iff.mp (List.getElem_mem hk))).1]
        rfl
      have e3 := hs i j (by omega) (by rw [hsz, ← hlen]; exact hj)
      rw [kk i hi, kk j hj] at e3
      exact lex2 e3
    obtain ⟨ep, he'⟩ := PyProof.Rows.sortedAll_at s.heap (as.map fun x => Value.ref x.1) ((arrOf st').map (·.2))
    have hv : Vals (as'.map fun x => V.ref x.1) ((arrOf st').map (·.2)).toList := by
      rw [eout]
      refine vals_of_get (by rw [List.length_map, List.length_map]) fun j x u e4 e5 => ?_
      rw [List.getElem?_map] at e4 e5
      cases e6 : as'[j]? with
      | none => rw [e6] at e4; cases e4
      | some y =>
        rw [e6] at e4 e5
        have e7 := Option.some.inj e4
        have e8 := Option.some.inj e5
        subst e7; subst e8
        rfl
    have hlen' : (as'.map fun x => V.ref x.1).length ≤ sizeLine := by rw [List.length_map, hlen]; exact hz
    exact ⟨.ref _, upd H (s.heap.objs.size + 1) (.lst (as'.map fun x => V.ref x.1)), I.laid (t' := s.toks) (fun _ _ => PyProof.Rows.sortedAll_old) (Nat.le_succ _) ⟨hlen', _, ep, hv, he'⟩, rfl, q as' _ p2 hsort (I.hok.fresh (Nat.le_succ _))⟩
end
end L2
namespace L2
open PySem PySem.Spec PyProof.Rows
noncomputable def Ev (t : TE) (σ : L2.St) (H : Hp) (v : V) : Prop := ∀ Q : VK, Q v H → t σ H Q
noncomputable def Et (t : TT) (σ : L2.St) (H : Hp) (b : Bool) : Prop := ∀ Q : Bool → Hp → Prop, Q b H → t σ H Q
noncomputable def Ea (t : TA) (σ : L2.St) (H : Hp) (vs : List V) : Prop := ∀ Q : List V → Hp → Prop, Q vs H → t σ H Q
section
variable {σ : L2.St} {H : Hp} {K : PySem.W.Frag} {ta tb tc : TE}
theorem ev_to {t : TE} {v w : V} (h : Ev t σ H v) (e : v = w) : Ev t σ H w := e ▸ h
theorem ev_var {i : Nat} {v : V} (h : σ[i]? = some (some v) := by rfl) : Ev (tVar i) σ H v := fun _ q => ⟨v, h, q⟩
theorem ev_c {v : V} : Ev (tC v) σ H v := fun _ q => q
theorem ev_0 {g : Int → Int → V} {i j : Int} (a : Ev ta σ H (.int i)) (b : Ev tb σ H (.int j)) : Ev (tOp (rI0 g) ta tb) σ H (g i j) := fun _ q => a _ (b _ ⟨i, j, rfl, rfl, q⟩)
theorem ev_1 {C : Int → Int → Prop} {g : Int → Int → V} {i j : Int} (a : Ev ta σ H (.int i)) (b : Ev tb σ H (.int j)) (c : C i j) : Ev (tOp (rI C g) ta tb) σ H (g i j) := fun _ q => a _ (b _ ⟨i, j, rfl, rfl, c, q⟩)
theorem ev_fld {a C dx : Addr} {fs : List (Str × V)} {f : Str} {v : V} (o : Ev ta σ H (.ref a)) (h : H a = some (.ins C dx fs)) (c : Cls K C) (n : NoAttr K C f) (l : fs.lookup f = some v) : Ev (tFld K ta f) σ H v :=
  fun _ q => o _ ⟨a, C, dx, fs, v, rfl, h, c, n, l, q⟩
theorem ea_nil : Ea tNil σ H [] := fun _ q => q
theorem ea_cons {t : TA} {x : V} {xs : List V} (a : Ev ta σ H x) (b : Ea t σ H xs) : Ea (tCons ta t) σ H (x :: xs) := fun _ q => a _ (b _ q)
theorem ev_cb {r : List V → Hp → VK → Prop} {t : TA} {vs : List V} {v : V} (a : Ea t σ H vs) (h : ∀ Q : VK, Q v H → r vs H Q) : Ev (tCB r t) σ H v := fun _ q => a _ (h _ q)
theorem ev_max {t : TA} {i j : Int} (a : Ea t σ H [.int i, .int j]) : Ev (tCB (fun xs H Q => ∃ i j, xs = [.int i, .int j] ∧ Q (.int (if j > i then j else i)) H) t) σ H (.int (max i j)) :=
  ev_cb a fun _ q => ⟨i, j, rfl, by
    have e : (if j > i then j else i) = max i j := by by_cases c : j > i <;> simp [c] <;> omega
    rw [e]; exact q⟩
theorem ev_min {t : TA} {i j : Int} (a : Ea t σ H [.int i, .int j]) : Ev (tCB (fun xs H Q => ∃ i j, xs = [.int i, .int j] ∧ Q (.int (if j < i then j else i)) H) t) σ H (.int (min i j)) :=
  ev_cb a fun _ q => ⟨i, j, rfl, by
    have e : (if j < i then j else i) = min i j := by by_cases c : j < i <;> simp [c] <;> omega
    rw [e]; exact q⟩
theorem ev_len {t : TA} {p : Addr} {ys : List V} (a : Ea t σ H [.ref p]) (h : SqL K H p ys) : Ev (tCB (fun xs H Q => ∃ p ys, xs = [.ref p] ∧ (SqL K H p ys ∨ SqT K H p ys) ∧ Q (.int ys.length) H) t) σ H (.int ys.length) :=
  ev_cb a fun _ q => ⟨p, ys, rfl, .inl h, q⟩
theorem ev_call {sp : Sp} {dvs : List V} {E : XK} {t : TA} {vs : List V} {v : V} (a : Ea t σ H vs) (h : ∀ Q : VK, Q v H → sp (vs ++ dvs) H Q E) : Ev (tCall sp dvs E t) σ H v := fun _ q => a _ (h _ q)
theorem ev_chain {p q : Int → Int → Bool} {i j k : Int} (a : Ev ta σ H (.int i)) (b : Ev tb σ H (.int j)) (c : Ev tc σ H (.int k)) : Ev (tChain (rI0 fun i j => .bl (p i j)) (rI0 fun i j => .bl (q i j)) ta tb tc) σ H (.bl (p i j && q j k)) :=
  fun Q h => a _ (b _ ⟨i, j, rfl, rfl, p i j, rfl, by
    cases e : p i j with
    | false => rw [e] at h; rw [if_neg Bool.false_ne_true]; exact h
    | true => rw [e] at h; rw [if_pos rfl]; exact c _ ⟨j, k, rfl, rfl, h⟩⟩)
theorem ev_and {x y : Bool} (a : Ev ta σ H (.bl x)) (b : x = true → Ev tb σ H (.bl y)) : Ev (tAndV ta tb) σ H (.bl (x && y)) := fun Q h => a _ ⟨x, rfl, by
  cases x with
  | false => rw [if_neg Bool.false_ne_true]; exact h
  | true => rw [if_pos rfl]; exact b rfl _ h⟩
theorem ev_dget {d : Addr} {kvs : List (Key × V)} {k : Key} {v : V} (a : Ev ta σ H (.ref d)) (b : Ev tb σ H (kV k)) (h : H d = some (.dK kvs)) (l : valV kvs k = some v) : Ev (tDGet ta tb) σ H v :=
  fun _ q => a _ (b _ ⟨d, v, rfl, l ▸ DGet.k h, q⟩)
theorem ev_din {d : Addr} {kvs : List (Key × V)} {k : Key} (b : Ev tb σ H (kV k)) (a : Ev ta σ H (.ref d)) (h : H d = some (.dK kvs)) : Ev (tDIn tb ta) σ H (.bl (valV kvs k).isSome) :=
  fun _ q => b _ (a _ ⟨d, _, rfl, DGet.k h, q⟩)
theorem ev_dnot {d : Addr} {kvs : List (Key × V)} {k : Key} (b : Ev tb σ H (kV k)) (a : Ev ta σ H (.ref d)) (h : H d = some (.dK kvs)) : Ev (tDNotIn tb ta) σ H (.bl (!(valV kvs k).isSome)) :=
  fun _ q => b _ (a _ ⟨d, _, rfl, DGet.k h, q⟩)
theorem ev_ixL {p : Addr} {xs : List V} {j : Nat} {v : V} (a : Ev ta σ H (.ref p)) (b : Ev tb σ H (.int j)) (h : SqL K H p xs) (l : xs[j]? = some v) : Ev (tOp (rIxL K) ta tb) σ H v :=
  fun _ q => a _ (b _ ⟨p, xs, j, v, rfl, rfl, h, atI_nat l, q⟩)
theorem ev_ixT {p : Addr} {xs : List V} {j : Nat} {v : V} (a : Ev ta σ H (.ref p)) (b : Ev tb σ H (.int j)) (h : SqT K H p xs) (l : xs[j]? = some v) : Ev (tOp (rIxT K) ta tb) σ H v :=
  fun _ q => a _ (b _ ⟨p, xs, j, v, rfl, rfl, h, atI_nat l, q⟩)
theorem et_t {t : TE} {b : Bool} (h : Ev t σ H (.bl b)) : Et (tTest t) σ H b := fun _ q => h _ ⟨b, rfl, q⟩
theorem et_b {t : TE} {b : Bool} (h : Ev t σ H (.bl b)) : Et (tB t) σ H b := fun _ q => h _ ⟨b, rfl, q⟩
theorem et_not {t : TT} {b : Bool} (h : Et t σ H b) : Et (tNot t) σ H (!b) := fun _ q => h _ q
theorem et_or {t u : TT} {x y : Bool} (a : Et t σ H x) (b : x = false → Et u σ H y) : Et (tOr t u) σ H (x || y) := fun Q h => a _ (by
  cases x with
  | false => rw [if_neg Bool.false_ne_true]; exact b rfl _ h
  | true => rw [if_pos rfl]; exact h)
theorem if_of {c : TT} {t u : TS} {D : Ends} {b : Bool} (h : Et c σ H b) (y : b = true → t D σ H) (n : b = false → u D σ H) : tIfS c t u D σ H := h _ (by
  cases b with
  | false => rw [if_neg Bool.false_ne_true]; exact n rfl
  | true => rw [if_pos rfl]; exact y rfl)
end
end L2
namespace L2
open PySem PySem.Spec PyProof.Rows
section
variable {σ : L2.St} {H : Hp} {K : PySem.W.Frag} {ta tb tc te tv : TE} {D : Ends} {Q : VK}
theorem rd_seq {t u : TS} (h : t ⟨u D, D.rt, D.bk, D.ct⟩ σ H) : tSeq t u D σ H := h
theorem rd_nil (h : D.nx σ H) : tNext D σ H := h
theorem rd_set {i : Nat} {v : V} (e : Ev te σ H v) (h : D.nx (σ.set i (some v)) H) : tAsg te (gName i) D σ H := e _ h
theorem rd_set' {i : Nat} (h : te σ H fun x H1 => D.nx (σ.set i (some x)) H1) : tAsg te (gName i) D σ H := h
theorem rd_ret {v : V} (e : Ev te σ H v) (h : D.rt v H) : tRet te D σ H := e _ h
theorem rd_ret' (h : te σ H D.rt) : tRet te D σ H := h
theorem rd_drop (h : te σ H fun _ H1 => D.nx σ H1) : tDrop te D σ H := h
theorem rd_aug {i : Nat} {x y : Int} (hx : σ[i]? = some (some (.int x))) (e : Ev te σ H (.int y)) (h : D.nx (σ.set i (some (.int (x + y)))) H) : tAug i te (ipI fun i j => i + j) D σ H := ⟨_, hx, e _ ⟨x, y, rfl, rfl, h⟩⟩
theorem rd_fld {a C dx : Addr} {fs : List (Str × V)} {f : Str} {y : V} (e : Ev tv σ H y) (o : Ev ta σ H (.ref a)) (h : H a = some (.ins C dx fs)) (c : Cls K C) (n : NoAttr K C f) (l : fs.length < 1000) (k : D.nx σ (upd H a (.ins C dx (putF f y fs)))) : sFld K ta tv f D σ H :=
  e _ (o _ ⟨a, C, dx, fs, rfl, h, c, n, l, k⟩)
theorem rd_fldaug {a C dx : Addr} {fs : List (Str × V)} {f : Str} {x y : Int} (o : Ev ta σ H (.ref a)) (h : H a = some (.ins C dx fs)) (c : Cls K C) (n : NoAttr K C f) (lk : fs.lookup f = some (.int x)) (e : Ev tv σ H (.int y)) (l : fs.length < 1000)
    (k : D.nx σ (upd H a (.ins C dx (putF f (.int (x + y)) fs)))) : sFldAug K ta tv rAdd f D σ H := o _ ⟨a, C, dx, fs, _, rfl, h, c, n, lk, e _ ⟨x, y, rfl, rfl, dx, fs, h, l, k⟩⟩
theorem rd_call {sp : Sp} {dvs : List V} {E : XK} {t : TA} {vs : List V} (a : Ea t σ H vs) (h : sp (vs ++ dvs) H Q E) : tCall sp dvs E t σ H Q := a _ h
theorem rd_meth {C : Addr} {m : Str} {sp : Sp} {dvs : List V} {E : XK} {t : TA} {vs : List V} {a dx : Addr} {fs : List (Str × V)} (o : Ev ta σ H (.ref a)) (ha : H a = some (.ins C dx fs)) (l : fs.lookup m = none) (b : Ea t σ H vs)
    (h : sp (.ref a :: (vs ++ dvs)) H Q E) : tMeth C m sp dvs E ta t σ H Q := o _ ⟨a, dx, fs, rfl, ha, l, b _ h⟩
theorem rd_meth' {C : Addr} {m : Str} {sp : Sp} {dvs : List V} {E : XK} {t : TA} {a dx : Addr} {fs : List (Str × V)} (o : Ev ta σ H (.ref a)) (ha : H a = some (.ins C dx fs)) (l : fs.lookup m = none)
    (h : t σ H fun vs H2 => sp (.ref a :: (vs ++ dvs)) H2 Q E) : tMeth C m sp dvs E ta t σ H Q := o _ ⟨a, dx, fs, rfl, ha, l, h⟩
theorem rd_lst {t : TA} {xs : List V} (a : Ea t σ H xs) (l : xs.length ≤ sizeLine) (h : ∀ p, H p = none → Q (.ref p) (upd H p (.lst xs))) : tLst t σ H Q := a _ ⟨l, h⟩
theorem rd_tup {t : TA} {xs : List V} (a : Ea t σ H xs) (l : xs.length ≤ sizeLine) (h : ∀ p, H p = none → Q (.ref p) (upd H p (.tup xs))) : tTup t σ H Q := a _ ⟨l, h⟩
theorem rd_cons {t : TA} {x : V} {R : List V → Hp → Prop} (a : Ev ta σ H x) (h : t σ H fun xs H2 => R (x :: xs) H2) : tCons ta t σ H R := a _ h
theorem rd_cons' {t : TA} {R : List V → Hp → Prop} (h : ta σ H fun x H1 => t σ H1 fun xs H2 => R (x :: xs) H2) : tCons ta t σ H R := h
theorem rd_app {to : TE} {t : TA} {l : Addr} {xs : List V} {y : V} (o : Ev to σ H (.ref l)) (h : H l = some (.lst xs)) (a : Ea t σ H [y]) (z : xs.length < sizeLine) (q : Q .non (upd H l (.lst (xs ++ [y])))) : tBM K "list" rAppend to t σ H Q :=
  o _ ⟨.inl ⟨rfl, _, SqL.of h⟩, a _ ⟨l, xs, y, rfl, rfl, h, z, q⟩⟩
theorem rd_dput {d : Addr} {kvs : List (Key × V)} {k : Key} {v : V} (e : Ev tv σ H v) (a : Ev ta σ H (.ref d)) (b : Ev tb σ H (kV k)) (h : H d = some (.dK kvs)) (l : kvs.length < sizeLine) (q : D.nx σ (upd H d (.dK (putK kvs k v)))) : sDPut ta tb tv D σ H :=
  e _ (a _ (b _ ⟨d, _, rfl, DPut.k h l, q⟩))
theorem rd_dpop {d : Addr} {kvs : List (Key × V)} {k : Key} {v : V} (a : Ev ta σ H (.ref d)) (b : Ev tb σ H (kV k)) (h : H d = some (.dK kvs)) (l : valV kvs k = some v) (q : Q v (upd H d (.dK (dropK kvs k)))) : tDPop1 ta tb σ H Q :=
  a _ ⟨d, rfl, .inl ⟨kvs, .inl h⟩, b _ ⟨kvs, k, v, h, rfl, l, q⟩⟩
theorem rd_range {t : TA} {g : TG} {tb : TS} {n : Nat} (a : Ea t σ H [.int (n : Int)]) (b : n < 1000000) (Pv : Nat → L2.St → Hp → Prop) (h0 : Pv 0 σ H)
    (hs : ∀ i σ H, i < n → Pv i σ H → g (.int (i : Int)) σ H fun σ2 H2 => tb { D with nx := Pv (i + 1), ct := Pv (i + 1), bk := D.nx } σ2 H2) (hd : ∀ σ H, Pv n σ H → D.nx σ H) : tFor (iRng1 t) g tb D σ H :=
  a _ ⟨(n : Int), rfl, by omega, by omega, for_range (lo := 0) (n := n) Pv h0 (fun i σ H hi h => by rw [Int.zero_add]; exact hs i σ H hi h) hd⟩
theorem rd_each {tl : TE} {g : TG} {tb : TS} {a : Addr} {xs : List V} (e : Ev tl σ H (.ref a)) (hq : SqL K H a xs) (Pv : Nat → L2.St → Hp → Prop) (h0 : Pv 0 σ H) (hl : ∀ i σ H, i ≤ xs.length → Pv i σ H → SqL K H a xs)
    (hs : ∀ i x σ H, xs[i]? = some x → Pv i σ H → g x σ H fun σ2 H2 => tb { D with nx := Pv (i + 1), ct := Pv (i + 1), bk := D.nx } σ2 H2) (hd : ∀ σ H, Pv xs.length σ H → D.nx σ H) : tFor (iList K tl) g tb D σ H :=
  e _ ⟨a, rfl, ⟨xs, hq⟩, for_list Pv h0 hl hs hd⟩
theorem rd_name {i : Nat} {v : V} {R : L2.St → Hp → Prop} (h : R (σ.set i (some v)) H) : gName i v σ H R := h
theorem rd_op {r : R2} {x y : V} (a : Ev ta σ H x) (b : Ev tb σ H y) (h : r x y H Q) : tOp r ta tb σ H Q := a _ (b _ h)
end
end L2
namespace L2
open PySem PySem.Spec PyProof.Rows
theorem zip_lk : ∀ {ns : List Str} {vs : List V} {i : Nat} {f : Str} {v : V}, ns.Nodup → ns[i]? = some f → vs[i]? = some v → (ns.zip vs).lookup f = some v
  | [], _, _, _, _, _, h, _ => by simp at h
  | _ :: _, [], _, _, _, _, _, h => by simp at h
  | n :: ns, x :: vs, 0, f, v, _, h1, h2 => by
    have e1 : n = f := by simpa using h1
    have e2 : x = v := by simpa using h2
    subst e1; subst e2
    rw [List.zip_cons_cons, List.lookup_cons, beq_self_eq_true]
  | n :: ns, x :: vs, i + 1, f, v, nd, h1, h2 => by
    rw [List.nodup_cons] at nd
    have h3 : ns[i]? = some f := by simpa using h1
    have ne : (f == n) = false := beq_eq_false_iff_ne.mpr fun e => nd.1 (e ▸ List.mem_of_getElem? h3)
    rw [List.zip_cons_cons, List.lookup_cons, ne]
    exact zip_lk nd.2 h3 (by simpa using h2)
theorem zip_no : ∀ {ns : List Str} {vs : List V} {f : Str}, f ∉ ns → (ns.zip vs).lookup f = none
  | [], _, _, _ => rfl
  | _ :: _, [], _, _ => rfl
  | n :: ns, x :: vs, f, h => by
    have ne : (f == n) = false := beq_eq_false_iff_ne.mpr fun e => h (e ▸ List.mem_cons_self)
    rw [List.zip_cons_cons, List.lookup_cons, ne]
    exact zip_no fun m => h (List.mem_cons_of_mem _ m)
theorem zip_put : ∀ {ns : List Str} {vs : List V} {i : Nat} {f : Str} {v : V}, ns.Nodup → ns[i]? = some f → i < vs.length → putF f v (ns.zip vs) = ns.zip (vs.set i v)
  | [], _, _, _, _, _, h, _ => by simp at h
  | _ :: _, [], _, _, _, _, _, h => by simp at h
  | n :: ns, x :: vs, 0, f, v, _, h1, h2 => by
    have e1 : n = f := by simpa using h1
    subst e1
    rw [List.zip_cons_cons]
    show (if n = n then (n, v) :: ns.zip vs else _) = (n, v) :: ns.zip vs
    rw [if_pos rfl]
  | n :: ns, x :: vs, i + 1, f, v, nd, h1, h2 => by
    rw [List.nodup_cons] at nd
    have h3 : ns[i]? = some f := by simpa using h1
    have ne : ¬ n = f := fun e => nd.1 (e ▸ List.mem_of_getElem? h3)
    rw [List.zip_cons_cons]
    show (if n = f then (n, v) :: ns.zip vs else (n, x) :: putF f v (ns.zip vs)) = (n, x) :: ns.zip (vs.set i v)
    rw [if_neg ne, zip_put nd.2 h3 (by simpa using h2)]
theorem zip_new : ∀ {ns : List Str} {vs : List V} {f : Str} {v : V}, f ∉ ns → ns.length = vs.length → putF f v (ns.zip vs) = (ns ++ [f]).zip (vs ++ [v])
  | [], [], _, _, _, _ => rfl
  | [], _ :: _, _, _, _, h => by simp at h
  | _ :: _, [], _, _, _, h => by simp at h
  | n :: ns, x :: vs, f, v, h, l => by
    have ne : ¬ n = f := fun e => h (e ▸ List.mem_cons_self)
    rw [List.zip_cons_cons, List.cons_append, List.cons_append, List.zip_cons_cons]
    show (if n = f then (n, v) :: ns.zip vs else (n, x) :: putF f v (ns.zip vs)) = _
    rw [if_neg ne, zip_new (fun m => h (List.mem_cons_of_mem _ m)) (by simpa using l)]
end L2
set_option linter.all false
set_option maxRecDepth 100000
namespace L2
open PySem PySem.Spec PyProof.Rows
theorem op_eqI {X : Cx} : OpR X (compareOp .Eq) (rI0 fun i j => .bl (decide (i = j))) := opB0 fun _ _ _ _ _ _ _ q => eq_int (by rw [Bool.beq_eq_decide_eq]; exact q)
theorem op_neI {X : Cx} : OpR X (compareOp .NotEq) (rI0 fun i j => .bl (!decide (i = j))) := opB0 fun _ _ _ _ _ _ _ q => ne_int (by rw [bne, Bool.beq_eq_decide_eq]; exact q)
noncomputable def GD (K : PySem.W.Frag) (d : Addr) (f : Int → Option Int) : Prop := ∃ (es : Array DictEntry) (n : Nat), K.lookup d = some ⟨.type "dict", none, .dict es n, #[]⟩ ∧
  (∀ e, e ∈ es.toList → ∃ k t, e.key = .int k t ∧ e.hash = hashInt k) ∧ ∀ i v, f i = some v → ∃ t, findBy Value.isInt es i = some (.int v t)
noncomputable def tGD (f : Int → Option Int) (ty : TE) : TE := fun σ H Q => ty σ H fun y H2 => ∃ i v, y = .int i ∧ f i = some v ∧ Q (.int v) H2
theorem pe_gdget {X : Cx} {o i : Expr} {pos : Pos} {ty : TE} {d : Addr} {f : Int → Option Int} (g : GD X.K d f) (ho : PE X o (tC (.ref d))) (hi : PE X i ty) (hs : NoSl i) : PE X (.Subscript o i pos) (tGD f ty) := by
  intro pins s σ H Q I h
  refine subD_of PySem.F.slot_dict_getitem.lookup hs (thn (ho pins s σ H (fun x H1 => x = .ref d ∧ H1 = H) I ⟨rfl, rfl⟩) fun u s1 ⟨x, H1, I1, rx, ex, eH⟩ => ?_)
  subst ex
  subst eH
  obtain rfl : u = Value.ref d := rx
  refine thn (hi pins s1 σ _ _ I1 h) fun iv s2 ⟨y, H2, I2, ry, i, v, ey, ef, q2⟩ => ?_
  subst ey
  obtain ⟨t, rfl⟩ := ry
  obtain ⟨es, n, lk, ks, fs⟩ := g
  obtain ⟨t', ft⟩ := fs i v ef
  have hm : s2.heap.MapOf (PySem.intKind X.prog X.w) d (fun k => findBy Value.isInt es k) := ⟨_, es, n, I2.kIn d _ lk, ⟨rfl, rfl, rfl⟩, rfl, fun e he => by
    obtain ⟨k, t, e1, e2⟩ := ks e (Array.mem_toList_iff.mpr he)
    exact ⟨k, by rw [e1]; simp [PySem.intKind, Value.isInt], e2⟩, fun _ => rfl⟩
  exact ⟨hm.typeIs, wpAny_getItem_of (k := i) (by simp [PySem.intKind, Value.isInt]) hm ft ⟨.int v, H2, I2.tok _, ⟨t', rfl⟩, q2⟩⟩
section
variable {σ : L2.St} {H : Hp} {K : PySem.W.Frag} {ta tb tc te tv tl : TE} {D : Ends} {Q : VK} {g : TG} {tt : TT} {vs : List Nat}
theorem rd_var {i : Nat} {v : V} (h : σ[i]? = some (some v)) (q : Q v H) : tVar i σ H Q := ⟨v, h, q⟩
theorem sq_if1 {c : TT} {t v : TS} {b : Bool} (h : Et c σ H b) (y : b = true → t { D with nx := v D } σ H) (n : b = false → v D σ H) : tSeq (tIfS c t tNext) v D σ H := if_of h y n
theorem nx_mk {a b c : L2.St → Hp → Prop} {r : VK} (h : a σ H) : (Ends.mk a r b c).nx σ H := h
theorem rq {p : Prop} (h : p) : p := h
theorem ev_gd {f : Int → Option Int} {i v : Int} (a : Ev ta σ H (.int i)) (h : f i = some v) : Ev (tGD f ta) σ H (.int v) := fun _ q => a _ ⟨i, v, rfl, h, q⟩
noncomputable def LcW (K : PySem.W.Frag) (a : Addr) (g : TG) (tt : TT) (te : TE) (vs : List Nat) (σ : L2.St) (H1 : Hp) (D : Addr) (Qd : Hp → Prop) : Prop := ∃ W : Nat → Nat → Hp → Prop, (∃ m, W 0 m (upd H1 D (.lst []))) ∧ ∀ i m H, W i m H →
      ((Itl K a).stop i H ∧ Qd H) ∨ ((Itl K a).go i H ∧ ∃ Nx : Hp → Prop, (∀ H', Nx H' → ∃ m', m' < m ∧ W (i + 1) m' H') ∧ ∀ x H', (Itl K a).yld i H x H' → g x (wipe σ vs) H' fun σ2 H2 => wipe σ2 vs = wipe σ vs ∧ tt σ2 H2 fun b H3 =>
        if b = true then te σ2 H3 fun y H4 => ∃ acc, H4 D = some (.lst acc) ∧ acc.length < sizeLine ∧ Nx (upd H4 D (.lst (acc ++ [y]))) else Nx H3)
theorem rd_lc (h : tl σ H fun x H1 => ∃ a, x = .ref a ∧ (∃ xs, SqL K H1 a xs) ∧ ∀ D, H1 D = none → LcW K a g tt te vs σ H1 D (Q (.ref D))) : tLc (iList K tl) g tt te vs σ H Q := h
theorem rd_lcE {a : Addr} {xs : List V} (e : Ev tl σ H (.ref a)) (hq : SqL K H a xs) (h : ∀ D, H D = none → LcW K a g tt te vs σ H D (Q (.ref D))) : tLc (iList K tl) g tt te vs σ H Q := rd_lc (e _ ⟨a, rfl, ⟨xs, hq⟩, h⟩)
noncomputable def LcT (g : TG) (tt : TT) (te : TE) (vs : List Nat) (σ : L2.St) (D : Addr) (x : V) (H : Hp) (Nx : Hp → Prop) : Prop := g x (wipe σ vs) H fun σ2 H2 => wipe σ2 vs = wipe σ vs ∧ tt σ2 H2 fun b H3 =>
      if b = true then te σ2 H3 fun y H4 => ∃ acc, H4 D = some (.lst acc) ∧ acc.length < sizeLine ∧ Nx (upd H4 D (.lst (acc ++ [y]))) else Nx H3
theorem lcw_by {a : Addr} {xs : List V} {H1 : Hp} {D : Addr} {Qd : Hp → Prop} (Pv : Nat → Hp → Prop) (h0 : Pv 0 (upd H1 D (.lst []))) (hl : ∀ i H, i ≤ xs.length → Pv i H → SqL K H a xs)
    (hs : ∀ i x H, xs[i]? = some x → Pv i H → LcT g tt te vs σ D x H (Pv (i + 1))) (hd : ∀ H, Pv xs.length H → Qd H) : LcW K a g tt te vs σ H1 D Qd := lc_list Pv h0 hl hs hd
theorem lct_yes {i : Nat} {D : Addr} {x : V} {Nx : Hp → Prop} (hw : wipe ((wipe σ vs).set i (some x)) vs = wipe σ vs) (h : te ((wipe σ vs).set i (some x)) H fun y H4 => ∃ acc, H4 D = some (.lst acc) ∧ acc.length < sizeLine ∧ Nx (upd H4 D (.lst (acc ++ [y])))) :
    LcT (gName i) tYes te vs σ D x H Nx := by
  refine ⟨hw, ?_⟩
  show if true = true then (te ((wipe σ vs).set i (some x)) H fun y H4 => ∃ acc, H4 D = some (.lst acc) ∧ acc.length < sizeLine ∧ Nx (upd H4 D (.lst (acc ++ [y])))) else Nx H
  exact iteT h
theorem lct_if {i : Nat} {D : Addr} {x : V} {Nx : Hp → Prop} {b : Bool} (hw : wipe ((wipe σ vs).set i (some x)) vs = wipe σ vs) (ht : Et tt ((wipe σ vs).set i (some x)) H b)
    (h1 : b = true → te ((wipe σ vs).set i (some x)) H fun y H4 => ∃ acc, H4 D = some (.lst acc) ∧ acc.length < sizeLine ∧ Nx (upd H4 D (.lst (acc ++ [y])))) (h2 : b = false → Nx H) :
    LcT (gName i) tt te vs σ D x H Nx := ⟨hw, ht _ (by
  cases b with
  | false => rw [if_neg Bool.false_ne_true]; exact h2 rfl
  | true => rw [if_pos rfl]; exact h1 rfl)⟩
theorem rd_lcR {t : TA} {n : Nat} (a : Ea t σ H [.int (n : Int)]) (b : n < 1000000) (h : ∀ D, H D = none → ∃ Pv : Nat → Hp → Prop, Pv 0 (upd H D (.lst [])) ∧ (∀ i H', i < n → Pv i H' → LcT g tt te vs σ D (.int (i : Int)) H' (Pv (i + 1))) ∧ ∀ H', Pv n H' → Q (.ref D) H') :
    tLc (iRng1 t) g tt te vs σ H Q := a _ ⟨(n : Int), rfl, by omega, by omega, fun D nD => by
  obtain ⟨Pv, h0, hs, hd⟩ := h D nD
  refine lc_range (lo := 0) (n := n) Pv h0 (fun i H' hi p => ?_) hd
  have e := hs i H' hi p
  rw [Int.zero_add]
  exact e⟩
noncomputable def ForW (K : PySem.W.Frag) (a : Addr) (g : TG) (tb : TS) (D : Ends) (σ : L2.St) (H1 : Hp) : Prop := ∃ W : Nat → Nat → L2.St → Hp → Prop, (∃ m, W 0 m σ H1) ∧ ∀ i m σ H, W i m σ H →
  ((Itl K a).stop i H ∧ D.nx σ H) ∨ ((Itl K a).go i H ∧ ∃ N : L2.St → Hp → Prop, (∀ σ' H', N σ' H' → ∃ m', m' < m ∧ W (i + 1) m' σ' H') ∧ ∀ x H', (Itl K a).yld i H x H' → g x σ H' fun σ2 H2 => tb { D with nx := N, ct := N, bk := D.nx } σ2 H2)
theorem rd_for {tb : TS} (h : tl σ H fun x H1 => ∃ a, x = .ref a ∧ (∃ xs, SqL K H1 a xs) ∧ ForW K a g tb D σ H1) : tFor (iList K tl) g tb D σ H := h
theorem forw_by {a : Addr} {xs : List V} {tb : TS} {H1 : Hp} (Pv : Nat → L2.St → Hp → Prop) (h0 : Pv 0 σ H1) (hl : ∀ i σ H, i ≤ xs.length → Pv i σ H → SqL K H a xs)
    (hs : ∀ i x σ H, xs[i]? = some x → Pv i σ H → g x σ H fun σ2 H2 => tb { D with nx := Pv (i + 1), ct := Pv (i + 1), bk := D.nx } σ2 H2) (hd : ∀ σ H, Pv xs.length σ H → D.nx σ H) : ForW K a g tb D σ H1 := for_list Pv h0 hl hs hd
theorem rd_sortedD {d : Addr} {kvs : List (Key × V)} {ns : List Int} (a : Ev ta σ H (.ref d)) (hd : H d = some (.dK kvs)) (hk : kvs.map (·.1) = ns.map Sum.inl)
    (h : ∀ (ns' : List Int) (p : Addr), ns'.Perm ns → ns'.Pairwise (· ≤ ·) → H p = none → Q (.ref p) (upd H p (.lst (ns'.map V.int)))) : tCB rSortedD (tCons ta tNil) σ H Q := a _ ⟨d, kvs, ns, rfl, .inl hd, hk, h⟩
theorem rd_sortedT {l : Addr} {as : List (Addr × Int × Int)} (a : Ev ta σ H (.ref l)) (hl : SqL K H l (as.map fun x => V.ref x.1)) (ht : ∀ x, x ∈ as → SqT K H x.1 [.int x.2.1, .int x.2.2])
    (h : ∀ (as' : List (Addr × Int × Int)) (p : Addr), as'.Perm as → as'.Pairwise LeT → H p = none → Q (.ref p) (upd H p (.lst (as'.map fun x => V.ref x.1)))) : tCB (rSortedT K) (tCons ta tNil) σ H Q := a _ ⟨l, as, rfl, hl, ht, h⟩
theorem rd_minL {a : Addr} {ns : List Int} (e : Ev ta σ H (.ref a)) (hl : SqL K H a (ns.map V.int)) (hn : 0 < ns.length) (h : ∀ m, m ∈ ns → (∀ y, y ∈ ns → m ≤ y) → Q (.int m) H) : tCB (rMin K) (tCons ta tNil) σ H Q := e _ ⟨a, ns, rfl, hl, hn, h⟩
theorem rd_cb1 {r : List V → Hp → VK → Prop} (h : ta σ H fun x H1 => r [x] H1 Q) : tCB r (tCons ta tNil) σ H Q := h
theorem rd_fldN {a C dx : Addr} {fs : List (Str × V)} {f : Str} (o : ∀ H, Ev ta σ H (.ref a)) (h : H a = some (.ins C dx fs)) (c : Cls K C) (n : NoAttr K C f) (l : fs.length < 1000)
    (k : ∀ d, H d = none → D.nx σ (upd (upd H d (.dK [])) a (.ins C dx (putF f (.ref d) fs)))) : sFld K ta tDNewK f D σ H :=
  fun d nd => o _ _ ⟨a, C, dx, fs, rfl, by rw [upd_ne (ne_of_none h nd)]; exact h, c, n, l, k d nd⟩
theorem rd_extE {to : TE} {l b : Addr} {xs zs : List V} (o : Ev to σ H (.ref l)) (e : Ev te σ H (.ref b)) (h : H l = some (.lst xs)) (hb : H b = some (.lst zs)) (z : xs.length + zs.length ≤ sizeLine) (q : Q .non (upd H l (.lst (xs ++ zs)))) : tBM K "list" rExtend to (tCons te tNil) σ H Q :=
  o _ ⟨.inl ⟨rfl, _, SqL.of h⟩, e _ ⟨l, b, xs, zs, rfl, rfl, h, hb, z, q⟩⟩
theorem rd_extN {to : TE} {l : Addr} {xs : List V} (o : Ev to σ H (.ref l)) (h : H l = some (.lst xs)) (a : te σ H fun y H2 => rExtend (.ref l) [y] H2 Q) : tBM K "list" rExtend to (tCons te tNil) σ H Q := o _ ⟨.inl ⟨rfl, _, SqL.of h⟩, a⟩
theorem rd_appN {to : TE} {l : Addr} {xs : List V} (o : Ev to σ H (.ref l)) (h : H l = some (.lst xs)) (a : te σ H fun y H2 => rAppend (.ref l) [y] H2 Q) : tBM K "list" rAppend to (tCons te tNil) σ H Q := o _ ⟨.inl ⟨rfl, _, SqL.of h⟩, a⟩
theorem rd_make {C : Addr} {sp : Sp} {dvs : List V} {E : XK} {t : TA} {us : List V} (a : Ea t σ H us) (h : ∀ x dx, H x = none → H dx = none → dx ≠ x → sp (.ref x :: (us ++ dvs)) (upd (upd H dx (.own x)) x (.ins C dx [])) (fun v H2 => v = .non ∧ Q (.ref x) H2) E) : tMake C sp dvs E t σ H Q := a _ h
theorem rd_dput' (h : tv σ H fun v H1 => ta σ H1 fun x H2 => tb σ H2 fun y H3 => ∃ a H4, x = .ref a ∧ DPut H3 a y v H4 ∧ D.nx σ H4) : sDPut ta tb tv D σ H := h
theorem ev_if {t : TT} {b : Bool} {x y : V} (h : Et t σ H b) (a : b = true → Ev ta σ H x) (c : b = false → Ev tb σ H y) : Ev (tIf t ta tb) σ H (if b = true then x else y) := fun Q q => h _ (by
  cases b with
  | false => rw [if_neg Bool.false_ne_true] at q ⊢; exact c rfl _ q
  | true => rw [if_pos rfl] at q ⊢; exact a rfl _ q)
theorem rd_slice {a : Addr} {xs : List V} {i j : Int} {tl th : TE} (e : Ev te σ H (.ref a)) (el : Ev tl σ H (.int i)) (eh : Ev th σ H (.int j)) (h : SqL K H a xs) (q : ∀ p, H p = none → Q (.ref p) (upd H p (.lst (cutV xs (some i) (some j))))) : tSl (rSlL K) te (tPart tl) (tPart th) σ H Q :=
  e _ (el _ ⟨i, rfl, eh _ ⟨j, rfl, a, xs, rfl, h, q⟩⟩)
theorem rd_callN {sp : Sp} {dvs : List V} {E : XK} {t : TA} (h : t σ H fun us H1 => sp (us ++ dvs) H1 Q E) : tCall sp dvs E t σ H Q := h
theorem rd_tupN {t : TA} (h : t σ H fun xs H1 => xs.length ≤ sizeLine ∧ ∀ p, H1 p = none → Q (.ref p) (upd H1 p (.tup xs))) : tTup t σ H Q := h
theorem rd_lstN {t : TA} (h : t σ H fun xs H1 => xs.length ≤ sizeLine ∧ ∀ p, H1 p = none → Q (.ref p) (upd H1 p (.lst xs))) : tLst t σ H Q := h
theorem rd_opN {r : R2} (h : ta σ H fun x H1 => tb σ H1 fun y H2 => r x y H2 Q) : tOp r ta tb σ H Q := h
end
theorem cut_at {xs : List V} {i j : Nat} (h1 : i ≤ j) (h2 : j ≤ xs.length) : cutV xs (some (i : Int)) (some (j : Int)) = (xs.drop i).take (j - i) := by
  have e : ∀ (d k : Nat), k ≤ xs.length → HT.sIx xs.length d (some (k : Int)) = k := fun d k hk => by
    rw [HT.sIx_nat, Nat.min_eq_left hk]
  unfold cutV
  rw [e _ _ h2, e _ _ (by omega)]
end L2
section
set_option Elab.async false
set_option linter.all false
set_option maxRecDepth 100000
set_option maxHeartbeats 2000000
namespace L2
open PySem PySem.Spec PyProof.Rows
open PySem.W (WData Codec OpenSpec Well WellAll ReadsW ReadsAllW)
mutual
/-- x stands for the datum d, lists and tuples all the way -/
inductive Dw (K : PySem.W.Frag) (H : Hp) : V → WData → Prop
  | non : Dw K H .non .none
  | bl (b : Bool) : Dw K H (.bl b) (.bool b)
  | int (i : Int) : Dw K H (.int i) (.int i)
  | str (x : Str) : Dw K H (.str x) (.str x)
  | byt (b : Array UInt8) : Dw K H (.byt b) (.bytes b.toList)
  | lst {a : Addr} {xs : List V} {ds : List WData} : SqL K H a xs → DwAll K H xs ds → Dw K H (.ref a) (.list ds)
  | tup {a : Addr} {xs : List V} {ds : List WData} : SqT K H a xs → DwAll K H xs ds → Dw K H (.ref a) (.tuple ds)
inductive DwAll (K : PySem.W.Frag) (H : Hp) : List V → List WData → Prop
  | nil : DwAll K H [] []
  | cons {v : V} {vs : List V} {d : WData} {ds : List WData} : Dw K H v d → DwAll K H vs ds → DwAll K H (v :: vs) (d :: ds)
end
theorem dw_ints {K : PySem.W.Frag} {H : Hp} : ∀ ns : List Int, DwAll K H (ns.map V.int) (ns.map WData.int)
  | [] => .nil
  | n :: r => .cons (.int n) (dw_ints r)
theorem ints_dw {K : PySem.W.Frag} {H : Hp} : ∀ (ns : List Int) (xs : List V), DwAll K H xs (ns.map WData.int) → xs = ns.map V.int
  | [], xs, h => by
    cases h
    rfl
  | n :: r, xs, h => by
    cases h with
    | cons h1 h2 =>
      cases h1
      rw [ints_dw r _ h2] <;> rfl
section
variable {P : Program} {w : World} {K : PySem.W.Frag} {H : Hp} {h : Heap} {R : PySem.W.WRecords} {cl : Str → Option Addr}
theorem sqL_at {a : Addr} {xs : List V} (hok : HOk P w H h) (KX : K.In h) (q : SqL K H a xs) : ∃ (its : List Value) (o : Obj) (n : Nat), Vals xs its ∧ h.get? a = some o ∧ o.cls = .type "list" ∧ o.data = .seq its.toArray n := by
  rcases q with q | ⟨o, its, n, e, hc, _, hd, _, hv⟩
  · obtain ⟨_, its, n, hv, e⟩ := (show ObjOk P w H h a (.lst xs) from q.ok hok)
    exact ⟨its, _, n, hv, e, rfl, rfl⟩
  · exact ⟨its.toList, o, n, hv, KX _ _ e, hc, by simp [hd]⟩
theorem sqT_at {a : Addr} {xs : List V} (hok : HOk P w H h) (KX : K.In h) (q : SqT K H a xs) : ∃ (its : List Value) (o : Obj) (n : Nat), Vals xs its ∧ h.get? a = some o ∧ o.cls = .type "tuple" ∧ o.data = .seq its.toArray n := by
  rcases q with q | ⟨o, its, n, e, hc, hd, _, hv⟩
  · obtain ⟨_, its, hv, o, e, hc, n, hd⟩ := (show ObjOk P w H h a (.tup xs) from q.ok hok)
    exact ⟨its, o, n, hv, e, hc, hd⟩
  · exact ⟨its.toList, o, n, hv, KX _ _ e, hc, by simp [hd]⟩
mutual
theorem Dw.reads (hok : HOk P w H h) (KX : K.In h) : ∀ (d : WData) (v : V) (u : Value), Dw K H v d → RelV v u → ∃ as, ReadsW R cl h u d as
  | .none, _, _, x, r => by
    cases x
    cases r
    exact ⟨_, ReadsW.none⟩
  | .bool b, _, _, x, r => by
    cases x
    cases r
    exact ⟨_, ReadsW.bool b⟩
  | .int i, _, _, x, r => by
    cases x
    obtain ⟨t, rfl⟩ := r
    exact ⟨_, ReadsW.int i t⟩
  | .str s, _, _, x, r => by
    cases x
    obtain ⟨t, rfl⟩ := r
    exact ⟨_, ReadsW.str s t⟩
  | .bytes b, _, _, x, r => by
    cases x
    obtain ⟨t, rfl⟩ := r
    exact ⟨_, ReadsW.bytes _ t⟩
  | .list ds, _, _, x, r => by
    cases x with
    | lst hs ha =>
      cases r
      obtain ⟨its, o, n, rv, ho, hc, hd⟩ := sqL_at hok KX hs
      obtain ⟨as, hr⟩ := Dw.readsAll hok KX ds _ its ha rv
      exact ⟨_, ReadsW.list ho hc hd hr⟩
  | .tuple ds, _, _, x, r => by
    cases x with
    | tup hs ha =>
      cases r
      obtain ⟨its, o, n, rv, ho, hc, hd⟩ := sqT_at hok KX hs
      obtain ⟨as, hr⟩ := Dw.readsAll hok KX ds _ its ha rv
      exact ⟨_, ReadsW.tuple ho hc hd hr⟩
  | .float _, _, _, x, _ => by cases x
  | .dict _, _, _, x, _ => by cases x
  | .bytearray _, _, _, x, _ => by cases x
  | .set _, _, _, x, _ => by cases x
  | .frozenset _, _, _, x, _ => by cases x
  | .obj _ _, _, _, x, _ => by cases x
theorem Dw.readsAll (hok : HOk P w H h) (KX : K.In h) : ∀ (ds : List WData) (vs : List V) (us : List Value), DwAll K H vs ds → Vals vs us → ∃ as, ReadsAllW R cl h us ds as
  | [], _, _, x, r => by
    cases x
    cases r
    exact ⟨_, ReadsAllW.nil⟩
  | d :: ds, _, _, x, r => by
    cases x with
    | cons h1 h2 =>
      cases r with
      | cons r1 r2 =>
        obtain ⟨as, q1⟩ := Dw.reads hok KX d _ _ h1 r1
        obtain ⟨bs, q2⟩ := Dw.readsAll hok KX ds _ _ h2 r2
        exact ⟨_, ReadsAllW.cons q1 q2⟩
end
end
mutual
/-- data that a codec tells -/
noncomputable def plW : WData → Bool
  | .none => true
  | .bool _ => true
  | .int _ => true
  | .str _ => true
  | .bytes _ => true
  | .list xs => plWs xs
  | .tuple xs => plWs xs
  | _ => false
noncomputable def plWs : List WData → Bool
  | [] => true
  | x :: r => plW x && plWs r
end
theorem plWs_map {α : Type} {f : α → WData} (h : ∀ a, plW (f a) = true) : ∀ l : List α, plWs (l.map f) = true
  | [] => rfl
  | x :: r => by
    show (plW (f x) && plWs (r.map f)) = true
    rw [h x, plWs_map h r] <;> rfl
theorem pl_enc : ∀ (c : Codec) (a : c.denote), plW (c.enc a) = true
  | .unit, _ => rfl
  | .bool, _ => rfl
  | .int _ _, _ => rfl
  | .nat _ _, _ => rfl
  | .u8, _ => rfl
  | .bytes _ _, _ => rfl
  | .text _ _ _ _, _ => rfl
  | .list _ _ c, a => plWs_map (fun x => pl_enc c x) a
  | .pair c d, a => by
    show (plW (c.enc a.1) && (plW (d.enc a.2) && true)) = true
    rw [pl_enc c a.1, pl_enc d a.2] <;> rfl
  | .triple c d e, a => by
    show (plW (c.enc a.1) && (plW (d.enc a.2.1) && (plW (e.enc a.2.2) && true))) = true
    rw [pl_enc c a.1, pl_enc d a.2.1, pl_enc e a.2.2] <;> rfl
  | .option c, none => rfl
  | .option c, some x => pl_enc c x
theorem pl_encAll : ∀ (cs : List Codec) (a : Codec.denoteAll cs), plWs (Codec.encAll cs a) = true
  | [], _ => rfl
  | c :: cs, a => by
    show (plW (c.enc a.1) && plWs (Codec.encAll cs a.2)) = true
    rw [pl_enc c a.1, pl_encAll cs a.2] <;> rfl
theorem weight_mem : ∀ {xs : List WData} {d : WData}, d ∈ xs → d.weight ≤ WData.weightAll xs
  | [], d, h => absurd h (by simp)
  | x :: r, d, h => by
    show d.weight ≤ x.weight + 1 + WData.weightAll r
    rcases List.mem_cons.mp h with e | m
    · rw [e]
      omega
    · have z := weight_mem m
      omega
noncomputable def toV : Value → V
  | .none => .non
  | .bool b => .bl b
  | .int i _ => .int i
  | .str x _ => .str x
  | .bytes b _ => .byt b
  | .ref a => .ref a
  | _ => .non
noncomputable def OkU (A : List Addr) : Value → Prop
  | .none => True
  | .bool _ => True
  | .int _ _ => True
  | .str _ _ => True
  | .bytes _ _ => True
  | .ref a => a ∈ A
  | _ => False
theorem OkU.mono {A B : List Addr} (h : ∀ a ∈ A, a ∈ B) : ∀ {u : Value}, OkU A u → OkU B u := fun {u} x => by
  cases u with
  | ref a => exact h a x
  | none => trivial
  | bool b => trivial
  | int i t => trivial
  | str s t => trivial
  | bytes b t => trivial
  | _ => exact False.elim x
theorem relV_toV {A : List Addr} {u : Value} (x : OkU A u) : RelV (toV u) u := by
  cases u with
  | ref a => rfl
  | none => rfl
  | bool b => rfl
  | int i t => exact ⟨t, rfl⟩
  | str s t => exact ⟨t, rfl⟩
  | bytes b t => exact ⟨t, rfl⟩
  | _ => exact False.elim x
theorem vals_toV {A : List Addr} : ∀ {vs : List Value}, (∀ u ∈ vs, OkU A u) → Vals (vs.map toV) vs
  | [], _ => .nil
  | u :: r, h => .cons (relV_toV (h u (List.mem_cons_self ..))) (vals_toV fun x hx => h x (List.mem_cons_of_mem _ hx))
noncomputable def ArgOb (h : Heap) (A : List Addr) (a : Addr) : Prop := ∃ vs : List Value, vs.length ≤ sizeLine ∧ (∀ u ∈ vs, OkU A u) ∧
  (h.get? a = some { cls := .type "list", data := .seq vs.toArray } ∨ h.get? a = some { cls := .type "tuple", data := .seq vs.toArray })
theorem ArgOb.mono {h : Heap} {A B : List Addr} {a : Addr} (k : ∀ a ∈ A, a ∈ B) (x : ArgOb h A a) : ArgOb h B a := by
  obtain ⟨vs, h1, h2, h3⟩ := x
  exact ⟨vs, h1, fun u hu => (h2 u hu).mono k, h3⟩
theorem wellAll_len {P : Params} {h : Heap} : ∀ {vs : List Value} {ds : List WData}, WellAll P h vs ds → vs.length = ds.length
  | _, _, .nil => rfl
  | _, _, .cons _ b => by
    show _ + 1 = _ + 1
    rw [wellAll_len b]
theorem well_list {P : Params} {h : Heap} {v : Value} {ds : List WData} (x : Well P h v (.list ds)) : ∃ (a : Addr) (vs : List Value), v = .ref a ∧ h.get? a = some { cls := .type "list", data := .seq vs.toArray } ∧ WellAll P h vs ds := by
  cases x with
  | list ho hall => exact ⟨_, _, rfl, ho, hall⟩
theorem well_tuple {P : Params} {h : Heap} {v : Value} {ds : List WData} (x : Well P h v (.tuple ds)) : ∃ (a : Addr) (vs : List Value), v = .ref a ∧ h.get? a = some { cls := .type "tuple", data := .seq vs.toArray } ∧ WellAll P h vs ds := by
  cases x with
  | tuple ho hall => exact ⟨_, _, rfl, ho, hall⟩
theorem well_cons {P : Params} {h : Heap} {us : List Value} {d : WData} {ds : List WData} (x : WellAll P h us (d :: ds)) : ∃ (v : Value) (vs : List Value), us = v :: vs ∧ Well P h v d ∧ WellAll P h vs ds := by
  cases x with
  | cons a b => exact ⟨_, _, rfl, a, b⟩
theorem line_of {n : Nat} (h : n ≤ 1048576) : n ≤ sizeLine := Nat.le_trans h (by decide)
section
variable {P : Params} {h : Heap}
mutual
theorem area_one : ∀ (d : WData) (v : Value), Well P h v d → plW d = true → d.weight ≤ 1048576 → ∃ A : List Addr, OkU A v ∧ ∀ a ∈ A, ArgOb h A a
  | .none, _, x, _, _ => by
    cases x
    exact ⟨[], trivial, fun a m => absurd m (by simp)⟩
  | .bool b, _, x, _, _ => by
    cases x
    exact ⟨[], trivial, fun a m => absurd m (by simp)⟩
  | .int i, _, x, _, _ => by
    cases x
    exact ⟨[], trivial, fun a m => absurd m (by simp)⟩
  | .str s, _, x, _, _ => by
    cases x
    exact ⟨[], trivial, fun a m => absurd m (by simp)⟩
  | .bytes b, _, x, _, _ => by
    cases x
    exact ⟨[], trivial, fun a m => absurd m (by simp)⟩
  | .list ds, _, x, p, z => by
    obtain ⟨a, vs, rfl, ho, hall⟩ := well_list x
    have z2 : WData.weightAll ds ≤ 1048576 := z
    obtain ⟨A, h1, h2⟩ := area_all ds _ hall p fun d hd => Nat.le_trans (weight_mem hd) z2
    have k : ∀ b ∈ A, b ∈ a :: A := fun b hb => List.mem_cons_of_mem _ hb
    refine ⟨a :: A, List.mem_cons_self .., fun b hb => ?_⟩
    rcases List.mem_cons.mp hb with e | m
    · rw [e]
      exact ⟨vs, line_of (by rw [wellAll_len hall]; exact Nat.le_trans (PySem.W.length_le_weightAllW ds) z2), fun u hu => (h1 u hu).mono k, .inl ho⟩
    · exact (h2 b m).mono k
  | .tuple ds, _, x, p, z => by
    obtain ⟨a, vs, rfl, ho, hall⟩ := well_tuple x
    have z2 : WData.weightAll ds ≤ 1048576 := z
    obtain ⟨A, h1, h2⟩ := area_all ds _ hall p fun d hd => Nat.le_trans (weight_mem hd) z2
    have k : ∀ b ∈ A, b ∈ a :: A := fun b hb => List.mem_cons_of_mem _ hb
    refine ⟨a :: A, List.mem_cons_self .., fun b hb => ?_⟩
    rcases List.mem_cons.mp hb with e | m
    · rw [e]
      exact ⟨vs, line_of (by rw [wellAll_len hall]; exact Nat.le_trans (PySem.W.length_le_weightAllW ds) z2), fun u hu => (h1 u hu).mono k, .inr ho⟩
    · exact (h2 b m).mono k
  | .float _, _, _, p, _ => Bool.noConfusion (show false = true from p)
  | .dict _, _, _, p, _ => Bool.noConfusion (show false = true from p)
  | .bytearray _, _, _, p, _ => Bool.noConfusion (show false = true from p)
  | .set _, _, _, p, _ => Bool.noConfusion (show false = true from p)
  | .frozenset _, _, _, p, _ => Bool.noConfusion (show false = true from p)
  | .obj _ _, _, _, p, _ => Bool.noConfusion (show false = true from p)
theorem area_all : ∀ (ds : List WData) (vs : List Value), WellAll P h vs ds → plWs ds = true → (∀ d ∈ ds, d.weight ≤ 1048576) → ∃ A : List Addr, (∀ u ∈ vs, OkU A u) ∧ ∀ a ∈ A, ArgOb h A a
  | [], _, x, _, _ => by
    cases x
    exact ⟨[], fun u m => absurd m (by simp), fun a m => absurd m (by simp)⟩
  | d :: ds, _, x, p, z => by
    obtain ⟨v, vs, rfl, x1, x2⟩ := well_cons x
    have q : plW d = true ∧ plWs ds = true := Bool.and_eq_true_iff.mp p
    obtain ⟨A, a1, a2⟩ := area_one d v x1 q.1 (z d (List.mem_cons_self ..))
    obtain ⟨B, b1, b2⟩ := area_all ds vs x2 q.2 fun e he => z e (List.mem_cons_of_mem _ he)
    have kA : ∀ b ∈ A, b ∈ A ++ B := fun b hb => List.mem_append.mpr (.inl hb)
    have kB : ∀ b ∈ B, b ∈ A ++ B := fun b hb => List.mem_append.mpr (.inr hb)
    refine ⟨A ++ B, fun u hu => ?_, fun b hb => ?_⟩
    · rcases List.mem_cons.mp hu with e | m
      · rw [e]
        exact a1.mono kA
      · exact (b1 u m).mono kB
    · rcases List.mem_append.mp hb with m | m
      · exact (a2 b m).mono kA
      · exact (b2 b m).mono kB
end
end
noncomputable def hoOf (o : Obj) : Option HO := match o.data with
  | .seq vs _ => if (o.cls == Value.type "list") = true then some (.frz o (.lst (vs.toList.map toV))) else some (.frz o (.tup (vs.toList.map toV)))
  | _ => none
noncomputable def argH (K : PySem.W.Frag) (h : Heap) (A : List Addr) : Hp := fun b => if b ∈ A then (if (K.lookup b).isNone = true then (h.get? b).bind hoOf else none) else none
noncomputable def OnlyF (H : Hp) : Prop := ∀ b, H b = none ∨ ∃ o u, H b = some (.frz o u)
theorem hoOf_lst (vs : List Value) : hoOf { cls := .type "list", data := .seq vs.toArray } = some (.frz { cls := .type "list", data := .seq vs.toArray } (.lst (vs.map toV))) := by
  show (if (Value.type "list" == Value.type "list") = true then some (HO.frz { cls := .type "list", data := .seq vs.toArray } (.lst (vs.toArray.toList.map toV))) else some (HO.frz { cls := .type "list", data := .seq vs.toArray } (.tup (vs.toArray.toList.map toV)))) = _
  rw [if_pos (beq_self_eq_true _)]
theorem hoOf_tup (vs : List Value) : hoOf { cls := .type "tuple", data := .seq vs.toArray } = some (.frz { cls := .type "tuple", data := .seq vs.toArray } (.tup (vs.map toV))) := by
  show (if (Value.type "tuple" == Value.type "list") = true then some (HO.frz { cls := .type "tuple", data := .seq vs.toArray } (.lst (vs.toArray.toList.map toV))) else some (HO.frz { cls := .type "tuple", data := .seq vs.toArray } (.tup (vs.toArray.toList.map toV)))) = _
  rw [if_neg (by decide)]
section
variable {P : Program} {w : World} {K : PySem.W.Frag} {h : Heap} {A : List Addr}
theorem argH_at {b : Addr} {o : Obj} (hb : b ∈ A) (hk : K.lookup b = none) (e : h.get? b = some o) : argH K h A b = hoOf o := by
  unfold argH
  rw [if_pos hb, hk, if_pos (show (none : Option Obj).isNone = true from rfl), e] <;> rfl
theorem of_argH {b : Addr} {u : HO} (q : argH K h A b = some u) : b ∈ A ∧ K.lookup b = none := by
  unfold argH at q
  by_cases hb : b ∈ A
  · rw [if_pos hb] at q
    cases hk : K.lookup b with
    | none => exact ⟨hb, rfl⟩
    | some o =>
      rw [hk, if_neg (by simp)] at q
      cases q
  · rw [if_neg hb] at q
    cases q
theorem argH_is (ar : ∀ a ∈ A, ArgOb h A a) {b : Addr} {u : HO} (q : argH K h A b = some u) : K.lookup b = none ∧ ∃ vs : List Value, vs.length ≤ sizeLine ∧ (∀ u ∈ vs, OkU A u) ∧
    ((h.get? b = some { cls := .type "list", data := .seq vs.toArray } ∧ u = .frz { cls := .type "list", data := .seq vs.toArray } (.lst (vs.map toV))) ∨
     (h.get? b = some { cls := .type "tuple", data := .seq vs.toArray } ∧ u = .frz { cls := .type "tuple", data := .seq vs.toArray } (.tup (vs.map toV)))) := by
  obtain ⟨hb, hk⟩ := of_argH q
  obtain ⟨vs, h1, h2, h3⟩ := ar b hb
  refine ⟨hk, vs, h1, h2, ?_⟩
  rcases h3 with e | e
  · rw [argH_at hb hk e, hoOf_lst] at q
    exact .inl ⟨e, (Option.some.inj q).symm⟩
  · rw [argH_at hb hk e, hoOf_tup] at q
    exact .inr ⟨e, (Option.some.inj q).symm⟩
theorem argH_only (ar : ∀ a ∈ A, ArgOb h A a) : OnlyF (argH K h A) := fun b => by
  cases q : argH K h A b with
  | none => exact .inl rfl
  | some u =>
    obtain ⟨_, vs, _, _, ⟨_, e⟩ | ⟨_, e⟩⟩ := argH_is ar q
    · exact .inr ⟨_, _, by rw [e]⟩
    · exact .inr ⟨_, _, by rw [e]⟩
theorem argH_ok (ar : ∀ a ∈ A, ArgOb h A a) : HOk P w (argH K h A) h := fun b u q => by
  obtain ⟨_, vs, h1, h2, ⟨e, rfl⟩ | ⟨e, rfl⟩⟩ := argH_is ar q
  · exact ⟨e, by rw [List.length_map]; exact h1, vs, _, vals_toV h2, e⟩
  · exact ⟨e, by rw [List.length_map]; exact h1, vs, vals_toV h2, _, e, rfl, _, rfl⟩
theorem seq_inj {c c' : Value} {vs us : List Value} (e : (some { cls := c, data := .seq vs.toArray } : Option Obj) = some { cls := c', data := .seq us.toArray }) : c = c' ∧ vs = us := by
  have e1 := Option.some.inj e
  have e2 : c = c' := congrArg Obj.cls e1
  have e3 : Data.seq vs.toArray = Data.seq us.toArray := congrArg Obj.data e1
  injection e3 with e4
  refine ⟨e2, ?_⟩
  have e5 := congrArg Array.toList e4
  simpa using e5
theorem argL (KX : K.In h) (ar : ∀ a ∈ A, ArgOb h A a) {a : Addr} {vs : List Value} (ha : a ∈ A) (e : h.get? a = some { cls := .type "list", data := .seq vs.toArray }) : (∀ u ∈ vs, OkU A u) ∧ SqL K (argH K h A) a (vs.map toV) := by
  obtain ⟨us, h1, h2, h3⟩ := ar a ha
  have hu : us = vs := by
    rcases h3 with q | q
    · rw [e] at q
      exact (seq_inj q).2.symm
    · rw [e] at q
      exact absurd (Value.type.inj (seq_inj q).1) (by decide)
  subst hu
  refine ⟨h2, ?_⟩
  cases hk : K.lookup a with
  | none => exact .inl (.inr ⟨_, by rw [argH_at ha hk e, hoOf_lst]⟩)
  | some o =>
    have e2 := KX a o hk
    rw [e] at e2
    obtain rfl := Option.some.inj e2
    exact .inr ⟨_, us.toArray, _, hk, rfl, rfl, rfl, by rw [List.size_toArray]; exact h1, by simpa using vals_toV h2⟩
theorem argT (KX : K.In h) (ar : ∀ a ∈ A, ArgOb h A a) {a : Addr} {vs : List Value} (ha : a ∈ A) (e : h.get? a = some { cls := .type "tuple", data := .seq vs.toArray }) : (∀ u ∈ vs, OkU A u) ∧ SqT K (argH K h A) a (vs.map toV) := by
  obtain ⟨us, h1, h2, h3⟩ := ar a ha
  have hu : us = vs := by
    rcases h3 with q | q
    · rw [e] at q
      exact absurd (Value.type.inj (seq_inj q).1) (by decide)
    · rw [e] at q
      exact (seq_inj q).2.symm
  subst hu
  refine ⟨h2, ?_⟩
  cases hk : K.lookup a with
  | none => exact .inl (.inr ⟨_, by rw [argH_at ha hk e, hoOf_tup]⟩)
  | some o =>
    have e2 := KX a o hk
    rw [e] at e2
    obtain rfl := Option.some.inj e2
    exact .inr ⟨_, us.toArray, _, hk, rfl, rfl, by rw [List.size_toArray]; exact h1, by simpa using vals_toV h2⟩
mutual
theorem dw_one {Pm : Params} (KX : K.In h) (ar : ∀ a ∈ A, ArgOb h A a) : ∀ (d : WData) (v : Value), Well Pm h v d → plW d = true → OkU A v → Dw K (argH K h A) (toV v) d
  | .none, _, x, _, _ => by
    cases x
    exact .non
  | .bool b, _, x, _, _ => by
    cases x
    exact .bl b
  | .int i, _, x, _, _ => by
    cases x
    exact .int i
  | .str s, _, x, _, _ => by
    cases x
    exact .str s
  | .bytes b, _, x, _, _ => by
    cases x
    have z := Dw.byt (K := K) (H := argH K h A) b.toArray
    exact z
  | .list ds, _, x, p, hu => by
    obtain ⟨a, vs, rfl, ho, hall⟩ := well_list x
    obtain ⟨h2, hs⟩ := argL KX ar hu ho
    exact .lst hs (dw_all KX ar ds _ hall p h2)
  | .tuple ds, _, x, p, hu => by
    obtain ⟨a, vs, rfl, ho, hall⟩ := well_tuple x
    obtain ⟨h2, hs⟩ := argT KX ar hu ho
    exact .tup hs (dw_all KX ar ds _ hall p h2)
  | .float _, _, _, p, _ => Bool.noConfusion (show false = true from p)
  | .dict _, _, _, p, _ => Bool.noConfusion (show false = true from p)
  | .bytearray _, _, _, p, _ => Bool.noConfusion (show false = true from p)
  | .set _, _, _, p, _ => Bool.noConfusion (show false = true from p)
  | .frozenset _, _, _, p, _ => Bool.noConfusion (show false = true from p)
  | .obj _ _, _, _, p, _ => Bool.noConfusion (show false = true from p)
theorem dw_all {Pm : Params} (KX : K.In h) (ar : ∀ a ∈ A, ArgOb h A a) : ∀ (ds : List WData) (vs : List Value), WellAll Pm h vs ds → plWs ds = true → (∀ u ∈ vs, OkU A u) → DwAll K (argH K h A) (vs.map toV) ds
  | [], _, x, _, _ => by
    cases x
    exact .nil
  | d :: ds, _, x, p, hu => by
    obtain ⟨v, vs, rfl, x1, x2⟩ := well_cons x
    have q : plW d = true ∧ plWs ds = true := Bool.and_eq_true_iff.mp p
    exact .cons (dw_one KX ar d v x1 q.1 (hu _ (List.mem_cons_self ..))) (dw_all KX ar ds vs x2 q.2 fun u m => hu u (List.mem_cons_of_mem _ m))
end
end
theorem spec_call {P : Program} {w : World} {K : PySem.W.Frag} {mg mb : Str → Option Value} {CX : CXT} {k : Nat} {fa : Addr} {fd : FuncData} {ps : List Str} {sp : Sp} {s₁ : Shared} {vals : List Value} {ds : List WData} {R : PySem.W.WRecords} {cl : Str → Option Addr} {d0 : WData}
    (KX : K.In s₁.heap) (hns : s₁.heap.Ns mainGlobals mg) (hb : s₁.heap.Ns builtinsNs mb) (hbb : ∀ x : Str, x ≠ "__name__" → mb x = bootBuiltins x) (hlim : s₁.heap.NoLimit) (hg : s₁.gens = #[])
    (hwl : WellAll w.params s₁.heap vals ds) (hpl : plWs ds = true) (hwt : ∀ d ∈ ds, d.weight ≤ 1048576) (hr : Room k callerA)
    (F : ∀ base : Heap, K.In base → base.Ns mainGlobals mg → FnOk P w K mg base CX k fa fd ps sp) (hbind : ∀ (s : Shared) (us : List Value), us.length = ps.length → BindsTo s fd ⟨us, []⟩ (ps.zip us)) (hlen : ds.length = ps.length)
    (hsp : ∀ (H : Hp) (xs : List V), OnlyF H → DwAll K H xs ds → sp xs H (fun v H' => Dw K H' v d0) fun _ _ _ => False)
    (hCX : ∀ H e s', CX [] H s₁ (fun _ _ _ => False) e s' → False) :
    codeAny (model P w) callerA (.call (.ref fa) ⟨vals, []⟩) (fun r s' => ∃ u as, r = .ok (.ret u) ∧ ReadsW R cl s'.heap u d0 as ∧ OldK s₁.heap s'.heap ∧ s'.os = s₁.os ∧ AllBare s'.gens) s₁ := by
  obtain ⟨A, ho, ar⟩ := area_all ds vals hwl hpl hwt
  have hO : OnlyF (argH K s₁.heap A) := argH_only ar
  have hok : HOk P w (argH K s₁.heap A) s₁.heap := argH_ok ar
  have hS := dw_all KX ar ds vals hwl hpl ho
  have hV := vals_toV ho
  have hK : ∀ b u, argH K s₁.heap A b = some u → K.lookup b = none := fun b u q => (argH_is ar q).1
  have noA : ∀ {b : Addr} {o : Obj} {es : Array DictEntry} {ep : Nat}, s₁.heap.get? b = some o → o.data = .dict es ep → argH K s₁.heap A b = none := fun {b o es ep} e d => by
    cases q : argH K s₁.heap A b with
    | none => rfl
    | some u =>
      obtain ⟨_, vs, _, _, ⟨e2, _⟩ | ⟨e2, _⟩⟩ := argH_is ar q
      · rw [e2] at e
        cases e
        have d' : Data.seq vs.toArray _ = Data.dict es ep := d
        cases d'
      · rw [e2] at e
        cases e
        have d' : Data.seq vs.toArray _ = Data.dict es ep := d
        cases d'
  generalize argH K s₁.heap A = H at hO hok hS hK noA
  have base_of : ∀ {b : Addr} {o : Obj}, s₁.heap.get? b = some o → H b = none → (hidT s₁.heap H).get? b = some o := fun e n => hidT_get e n
  have nsK : ∀ {b : Addr} {m : Str → Option Value}, s₁.heap.Ns b m → (hidT s₁.heap H).Ns b m := fun {b m} ⟨o, es, ep, e, d, r⟩ => ⟨o, es, ep, base_of e (noA e d), d, r⟩
  have nK : ∀ b o, K.lookup b = some o → H b = none := fun b o e => by
    cases q : H b with
    | none => rfl
    | some u =>
      rw [hK b u q] at e
      cases e
  have hKb : K.In (hidT s₁.heap H) := fun b o e => base_of (KX b o e) (nK b o e)
  have hM : Mod K mg (hidT s₁.heap H) := ⟨hKb, nsK hns, ⟨mb, nsK hb, hbb⟩, let ⟨mc, h1, h2⟩ := hlim; ⟨mc, nsK h1, h2⟩⟩
  have e0 : Env0 P w K mg (hidT s₁.heap H) callerA [] s₁ H := ⟨rfl, hM, fun b o e => of_hidT e, Nat.le_of_eq (hidT_size _ _), trivial, fun b hb => absurd (show b ∈ ([] : List Addr) from hb) (by simp), hok, .of_eq hg⟩
  have hl : vals.length = ps.length := by rw [wellAll_len hwl]; exact hlen
  refine codeAny_mono ((F _ hKb (nsK hns)).run callerA [] s₁ H ⟨vals, []⟩ vals (vals.map toV) _ _ hr e0 (hbind s₁ vals hl) hV (hsp H _ hO hS)) fun r s' x => ?_
  cases r with
  | error e => exact (hCX H e s' x).elim
  | ok fl =>
    cases fl with
    | next => exact False.elim x
    | brk => exact False.elim x
    | cont => exact False.elim x
    | ret u =>
      obtain ⟨v, H', os, bare, un, hok', r', q⟩ := x
      have kept : ∀ b o, s₁.heap.get? b = some o → s'.heap.get? b = some o := fun b o e => by
        cases q2 : H b with
        | none => exact un.keep b o e q2 (by intro z; exact absurd (show b ∈ ([] : List Addr) from z) (by simp)) (by simp)
        | some u2 =>
          rcases hO b with z | ⟨ob, u3, z⟩
          · rw [q2] at z
            cases z
          · have z2 := un.frzs b ob _ z
            obtain ⟨e1, _⟩ := hok b _ z
            obtain ⟨e2, _⟩ := hok' b _ z2
            rw [e] at e1
            cases e1
            exact e2
      have KX' : K.In s'.heap := fun b o e => kept b o (KX b o e)
      obtain ⟨as, hrd⟩ := Dw.reads (R := R) (cl := cl) hok' KX' d0 v u q r'
      exact ⟨u, as, rfl, hrd, OldK.of_keep kept, os, bare⟩
theorem layable_weight {ds : List WData} (h : WData.layableAll ds = true) : ∀ d ∈ ds, d.weight ≤ 1048576 := fun d hd =>
  (PySem.W.layableW_iff.mp (List.all_eq_true.mp h d hd)).2.2
theorem encAll_len : ∀ (cs : List Codec) (a : Codec.denoteAll cs), (Codec.encAll cs a).length = cs.length
  | [], _ => rfl
  | c :: cs, a => by
    show (Codec.encAll cs a.2).length + 1 = cs.length + 1
    rw [encAll_len cs a.2]
theorem walk_spec {r : OpenSpec} {k : Nat} {q : Program} {loose : List Str} {XP : (Str → Option Value) → Heap → Prop} {YP : World → Heap → Prop} {d : DefRec} {K : Params → PySem.W.Frag} {CX : World → CXT} {ps : List Str} {sp : World → Sp}
    (hwell : r.wellSaid = true) (hdf : d.params.defaults = []) (hlen : r.args.length = ps.length) (hr : Room k callerA)
    (hY : ∀ (w : World) (h : Heap), YP w h → (K w.params).In h)
    (F : ∀ (w : World) (mg : Str → Option Value) (fa : Addr) (h : Heap), YP w h → (K w.params).In h → h.Ns mainGlobals mg → mg d.name = some (.ref fa) →
      ∃ fd : FuncData, (∀ (s : Shared) (us : List Value), us.length = ps.length → BindsTo s fd ⟨us, []⟩ (ps.zip us)) ∧
        ∀ base : Heap, (K w.params).In base → base.Ns mainGlobals mg → FnOk r.prog w (K w.params) mg base (CX w) k fa fd ps (sp w))
    (hsp : ∀ (w : World) (H : Hp) (xs : List V) (a : Codec.denoteAll r.args), OnlyF H → Codec.withinAll r.args a = true → Codec.app r.args r.asked a = true → DwAll (K w.params) H xs (Codec.encAll r.args a) →
      sp w xs H (fun v H' => Dw (K w.params) H' v (r.ret.enc (Codec.app r.args r.f a))) fun _ _ _ => False)
    (hCX : ∀ (w : World) (H : Hp) (s : Shared) (e : Value) (s' : Shared), CX w [] H s (fun _ _ _ => False) e s' → False) :
    PySem.W.WalkOS q loose XP YP r d [] (fun f vs => PySem.call f vs) := by
  intro w s_0 s₁ mg mb G Y fa o pm cd doc dV kV ho hd hcd hD hmg hg args vals as hpre hlay hrd hwl hlo
  obtain ⟨a, e1, e2⟩ := PySem.W.os_pre_some hpre
  obtain ⟨e3, hwi⟩ := Codec.encAll_of_decAll r.args args a e1
  subst e3
  have KX := hY w _ Y
  obtain ⟨fd, hb, hF⟩ := F w mg fa _ Y KX G.T.g hmg
  refine PySem.W.enter_call (codeAny_mono (spec_call (R := []) (cl := classAt s_0.heap) (d0 := r.ret.enc (Codec.app r.args r.f a)) KX G.T.g G.T.b G.T.builtins G.T.nolimit hg hwl (pl_encAll _ _) (layable_weight hlay) hr hF hb (by rw [encAll_len]; exact hlen)
    (fun H xs hO hS => hsp w H xs a hO hwi e2 hS) fun H e s' => hCX w H s₁ e s') fun r' s' hq => ?_)
  obtain ⟨u, as', rfl, h1, h2, h3, h4⟩ := hq
  exact ⟨.inl ⟨u, _, as', rfl, fun _ => rfl, h1, (OpenSpec.post_iff hwell hwi _ _).mpr rfl, fun z => Bool.noConfusion (show false = true from z)⟩, h2, h3, h4⟩
theorem walk_specK {r : OpenSpec} {k : Nat} {q : Program} {loose : List Str} {XP : (Str → Option Value) → Heap → Prop} {YP : World → Heap → Prop} {d : DefRec} {K : Params → PySem.W.Frag} {CX : CXT} {ps : List Str} {sp : PySem.W.Frag → Sp}
    (hwell : r.wellSaid = true) (hdf : d.params.defaults = []) (hlen : r.args.length = ps.length) (hr : Room k callerA)
    (hY : ∀ (w : World) (h : Heap), YP w h → (K w.params).In h)
    (F : ∀ (w : World) (mg : Str → Option Value) (fa : Addr) (h : Heap), YP w h → (K w.params).In h → h.Ns mainGlobals mg → mg d.name = some (.ref fa) →
      ∃ fd : FuncData, (∀ (s : Shared) (us : List Value), us.length = ps.length → BindsTo s fd ⟨us, []⟩ (ps.zip us)) ∧
        ∀ base : Heap, (K w.params).In base → base.Ns mainGlobals mg → FnOk r.prog w (K w.params) mg base CX k fa fd ps (sp (K w.params)))
    (hsp : ∀ (K : PySem.W.Frag) (H : Hp) (xs : List V) (a : Codec.denoteAll r.args), OnlyF H → Codec.withinAll r.args a = true → Codec.app r.args r.asked a = true → DwAll K H xs (Codec.encAll r.args a) →
      sp K xs H (fun v H' => Dw K H' v (r.ret.enc (Codec.app r.args r.f a))) fun _ _ _ => False)
    (hCX : ∀ (H : Hp) (s : Shared) (e : Value) (s' : Shared), CX [] H s (fun _ _ _ => False) e s' → False) :
    PySem.W.WalkOS q loose XP YP r d [] (fun f vs => PySem.call f vs) :=
  walk_spec (K := K) (CX := fun _ => CX) (sp := fun w => sp (K w.params)) hwell hdf hlen hr hY F (fun w H xs a h1 h2 h3 h4 => hsp (K w.params) H xs a h1 h2 h3 h4) fun _ H s e s' => hCX H s e s'
end L2
end
set_option linter.all false
namespace RT
open Sq04
structure Fit (s : Sq04.Set) (p : Nat) : Prop where
  hb : 1 ≤ s.burst
  hg : 1 ≤ s.gap
  hp : (s.burst - 1) * s.gap < p
theorem Fit.pos {s : Sq04.Set} {p : Nat} (f : Fit s p) : 0 < p := Nat.lt_of_le_of_lt (Nat.zero_le _) f.hp
theorem Fit.gap_lt {s : Sq04.Set} {p j : Nat} (f : Fit s p) (h : j < s.burst) : j * s.gap < p :=
  Nat.lt_of_le_of_lt (Nat.mul_le_mul_right _ (by omega)) f.hp
theorem lex_le {q r Q R p : Nat} (hr : r < p) (hR : R < p) : q * p + r ≤ Q * p + R ↔ q < Q ∨ (q = Q ∧ r ≤ R) := by
  constructor
  · intro h
    by_cases h1 : q < Q
    · exact .inl h1
    · by_cases h2 : q = Q
      · subst h2; exact .inr ⟨rfl, by omega⟩
      · have h3 : Q + 1 ≤ q := by omega
        have h4 := Nat.mul_le_mul_right p h3
        rw [Nat.add_mul] at h4
        omega
  · rintro (h | ⟨rfl, h⟩)
    · have h4 := Nat.mul_le_mul_right p (show q + 1 ≤ Q from h)
      rw [Nat.add_mul] at h4
      omega
    · omega
theorem mul_le_iff {r g R : Nat} (hg : 1 ≤ g) : r * g ≤ R ↔ r < R / g + 1 := by
  rw [Nat.lt_succ_iff, Nat.le_div_iff_mul_le hg]
theorem time_lt_iff {s : Sq04.Set} {p : Nat} (f : Fit s p) (n t : Nat) : s.time p n < t ↔ n < s.before p t := by
  unfold Sq04.Set.time Sq04.Set.before
  by_cases ht : t ≤ s.phase
  · rw [if_pos ht]; omega
  · rw [if_neg ht]
    have hb : 0 < s.burst := f.hb
    have hr : n % s.burst < s.burst := Nat.mod_lt _ hb
    have e1 : s.phase + n / s.burst * p + n % s.burst * s.gap < t ↔ n / s.burst * p + n % s.burst * s.gap ≤ (t - 1 - s.phase) / p * p + (t - 1 - s.phase) % p := by
      have := Nat.div_add_mod' (t - 1 - s.phase) p
      omega
    rw [e1, lex_le (f.gap_lt hr) (Nat.mod_lt _ f.pos), mul_le_iff f.hg]
    show _ ↔ n < (t - 1 - s.phase) / p * s.burst + min s.burst ((t - 1 - s.phase) % p / s.gap + 1)
    generalize (t - 1 - s.phase) / p = Q
    generalize (t - 1 - s.phase) % p / s.gap + 1 = R
    have e2 : n < Q * s.burst + min s.burst R ↔ n / s.burst * s.burst + n % s.burst < Q * s.burst + min s.burst R := by
      rw [Nat.div_add_mod']
    rw [e2]
    generalize n / s.burst = q
    generalize n % s.burst = r at *
    generalize s.burst = b at *
    constructor
    · rintro (h | ⟨rfl, h⟩)
      · have h4 := Nat.mul_le_mul_right b (show q + 1 ≤ Q from h)
        rw [Nat.add_mul] at h4
        omega
      · omega
    · intro h
      by_cases h1 : q < Q
      · exact .inl h1
      · by_cases h2 : q = Q
        · subst h2; exact .inr ⟨rfl, by omega⟩
        · have h4 := Nat.mul_le_mul_right b (show Q + 1 ≤ q by omega)
          rw [Nat.add_mul] at h4
          omega
theorem le_time_iff {s : Sq04.Set} {p : Nat} (f : Fit s p) (n t : Nat) : t ≤ s.time p n ↔ s.before p t ≤ n := by
  have := time_lt_iff f n t
  omega
theorem before_mono {s : Sq04.Set} {p a b : Nat} (f : Fit s p) (h : a ≤ b) : s.before p a ≤ s.before p b := by
  by_cases h1 : s.before p a = 0
  · omega
  · have e := (time_lt_iff f (s.before p a - 1) a).mpr (by omega)
    have := (time_lt_iff f (s.before p a - 1) b).mp (by omega)
    omega
theorem time_strict {s : Sq04.Set} {p n m : Nat} (f : Fit s p) (h : n < m) : s.time p n < s.time p m := by
  rw [time_lt_iff f]
  have : s.before p (s.time p m) ≤ m := (le_time_iff f m _).mp (Nat.le_refl _)
  by_cases e : n < s.before p (s.time p m)
  · exact e
  · have h2 : s.time p m ≤ s.time p n := (le_time_iff f n _).mpr (by omega)
    -- n < m with time m ≤ time n: both in one order
    exfalso
    unfold Sq04.Set.time at h2
    have hb : 0 < s.burst := f.hb
    have h3 : m / s.burst * p + m % s.burst * s.gap ≤ n / s.burst * p + n % s.burst * s.gap := by omega
    rw [lex_le (f.gap_lt (Nat.mod_lt _ hb)) (f.gap_lt (Nat.mod_lt _ hb))] at h3
    have en := Nat.div_add_mod' n s.burst
    have em := Nat.div_add_mod' m s.burst
    have rn := Nat.mod_lt n hb
    have rm := Nat.mod_lt m hb
    rcases h3 with h3 | ⟨h3, h4⟩
    · have h4 := Nat.mul_le_mul_right s.burst (show m / s.burst + 1 ≤ n / s.burst from h3)
      rw [Nat.add_mul] at h4
      omega
    · have h5 : m % s.burst ≤ n % s.burst := Nat.le_of_mul_le_mul_right h4 f.hg
      rw [h3] at em
      omega
theorem time_place {s : Sq04.Set} {p k j : Nat} (h : j < s.burst) : s.time p (k * s.burst + j) = s.phase + j * s.gap + k * p := by
  unfold Sq04.Set.time
  have hb : 0 < s.burst := by omega
  have e1 : (k * s.burst + j) / s.burst = k := by
    rw [Nat.add_comm, Nat.add_mul_div_right _ _ hb, Nat.div_eq_of_lt h, Nat.zero_add]
  have e2 : (k * s.burst + j) % s.burst = j := by
    rw [Nat.add_comm, Nat.add_mul_mod_self_right, Nat.mod_eq_of_lt h]
  rw [e1, e2]; omega
noncomputable def cntUp (s : Sq04.Set) (p last : Nat) : Nat → Nat
  | 0 => 0
  | j + 1 => cntUp s p last j + (if s.phase + j * s.gap ≤ last then (last - (s.phase + j * s.gap)) / p + 1 else 0)
theorem term_eq {p n x : Nat} (hx : x < p) : (if x ≤ n then (n - x) / p + 1 else 0) = n / p + (if x ≤ n % p then 1 else 0) := by
  have hp : 0 < p := by omega
  have e := Nat.div_add_mod' n p
  have hr := Nat.mod_lt n hp
  by_cases h : x ≤ n % p
  · rw [if_pos h, if_pos (by omega)]
    have : (n - x) / p = n / p := by
      have e2 : n - x = (n % p - x) + n / p * p := by omega
      rw [e2, Nat.add_mul_div_right _ _ hp, Nat.div_eq_of_lt (by omega), Nat.zero_add]
    rw [this]
  · rw [if_neg h]
    by_cases h0 : n / p = 0
    · have : n % p = n := by rw [h0] at e; omega
      rw [if_neg (by omega), h0]
    · obtain ⟨q, hq⟩ : ∃ q, n / p = q + 1 := Nat.exists_eq_succ_of_ne_zero h0
      have e3 : n / p * p = q * p + p := by rw [hq, Nat.add_mul, Nat.one_mul]
      rw [if_pos (by omega), hq]
      have : (n - x) / p = q := by
        have e2 : n - x = (p + n % p - x) + q * p := by omega
        rw [e2, Nat.add_mul_div_right _ _ hp, Nat.div_eq_of_lt (by omega), Nat.zero_add]
      rw [this]
theorem cntUp_eq {s : Sq04.Set} {p last : Nat} (f : Fit s p) (h : s.phase ≤ last) : ∀ i, i ≤ s.burst →
    cntUp s p last i = (last - s.phase) / p * i + min i ((last - s.phase) % p / s.gap + 1)
  | 0, _ => by simp [cntUp]
  | i + 1, hi => by
    have ih := cntUp_eq f h i (by omega)
    have t := term_eq (n := last - s.phase) (f.gap_lt (show i < s.burst by omega))
    have e1 : (if s.phase + i * s.gap ≤ last then (last - (s.phase + i * s.gap)) / p + 1 else 0) = if i * s.gap ≤ last - s.phase then (last - s.phase - i * s.gap) / p + 1 else 0 := by
      by_cases c : i * s.gap ≤ last - s.phase
      · rw [if_pos c, if_pos (by omega), Nat.sub_sub]
      · rw [if_neg c, if_neg (by omega)]
    unfold cntUp
    rw [ih, e1, t, Nat.mul_add, Nat.mul_one]
    have c := mul_le_iff (r := i) (R := (last - s.phase) % p) f.hg
    by_cases d : i * s.gap ≤ (last - s.phase) % p
    · rw [if_pos d]; have := c.mp d; omega
    · rw [if_neg d]; have : ¬ i < (last - s.phase) % p / s.gap + 1 := fun x => d (c.mpr x)
      omega
theorem cntUp_low {s : Sq04.Set} {p last : Nat} (h : last < s.phase) : ∀ i, cntUp s p last i = 0
  | 0 => rfl
  | i + 1 => by
    unfold cntUp
    rw [cntUp_low h i, if_neg (by omega)]
theorem cntUp_before {s : Sq04.Set} {p last : Nat} (f : Fit s p) : cntUp s p last s.burst = s.before p (last + 1) := by
  unfold Sq04.Set.before
  by_cases h : last + 1 ≤ s.phase
  · rw [if_pos h, cntUp_low (by omega)]
  · rw [if_neg h, cntUp_eq f (by omega) _ (Nat.le_refl _)]
    show _ = (last + 1 - 1 - s.phase) / p * s.burst + min s.burst ((last + 1 - 1 - s.phase) % p / s.gap + 1)
    rw [show last + 1 - 1 = last by omega]
noncomputable def ap (at_ p last : Nat) : List Nat := (List.range (if at_ ≤ last then (last - at_) / p + 1 else 0)).map fun i => at_ + i * p
theorem mem_ap {at_ p last x : Nat} (hp : 0 < p) : x ∈ ap at_ p last ↔ ∃ i, x = at_ + i * p ∧ x ≤ last := by
  unfold ap
  rw [List.mem_map]
  constructor
  · rintro ⟨i, hi, rfl⟩
    rw [List.mem_range] at hi
    by_cases c : at_ ≤ last
    · rw [if_pos c] at hi
      have := Nat.mul_le_of_le_div p i (last - at_) (by omega)
      exact ⟨i, rfl, by omega⟩
    · rw [if_neg c] at hi; omega
  · rintro ⟨i, rfl, h⟩
    refine ⟨i, ?_, rfl⟩
    rw [List.mem_range, if_pos (by omega)]
    have := (Nat.le_div_iff_mul_le hp (x := i) (y := last - at_)).mpr (by omega)
    omega
theorem nodup_map_range {f : Nat → Nat} {n : Nat} (h : ∀ i j, i < j → f i < f j) : ((List.range n).map f).Pairwise (· < ·) := by
  rw [List.pairwise_map]
  exact List.pairwise_lt_range.imp fun {a b} c => h a b c
theorem ap_sorted {at_ p last : Nat} (hp : 0 < p) : (ap at_ p last).Pairwise (· < ·) := by
  unfold ap
  exact nodup_map_range fun i j h => by
    have := Nat.mul_lt_mul_of_lt_of_le h (Nat.le_refl p) hp
    omega
noncomputable def startAt (st p first : Nat) : Nat := st + (first - st + p - 1) / p * p
theorem startAt_spec {st p first k : Nat} (hp : 0 < p) : first ≤ st + k * p ↔ startAt st p first ≤ st + k * p := by
  unfold startAt
  have e : first ≤ st + k * p ↔ (first - st + p - 1) / p ≤ k := by
    have e2 : (first - st + p - 1) / p ≤ k ↔ first - st + p - 1 < k * p + p := by
      rw [← Nat.lt_succ_iff (m := (first - st + p - 1) / p), Nat.div_lt_iff_lt_mul hp, Nat.succ_mul]
    rw [e2]
    omega
  rw [e]
  constructor
  · intro h; have := Nat.mul_le_mul_right p h; omega
  · intro h; exact Nat.le_of_mul_le_mul_right (by omega : (first - st + p - 1) / p * p ≤ k * p) hp
theorem mem_place {st p first last x : Nat} (hp : 0 < p) : x ∈ ap (startAt st p first) p last ↔ ∃ k, x = st + k * p ∧ first ≤ x ∧ x ≤ last := by
  rw [mem_ap hp]
  constructor
  · rintro ⟨i, rfl, h⟩
    refine ⟨(first - st + p - 1) / p + i, ?_, ?_, h⟩
    · unfold startAt; rw [Nat.add_mul]; omega
    · have e : startAt st p first + i * p = st + ((first - st + p - 1) / p + i) * p := by unfold startAt; rw [Nat.add_mul]; omega
      rw [e, startAt_spec hp, ← e]; omega
  · rintro ⟨k, rfl, h1, h2⟩
    have h3 := (startAt_spec hp).mp h1
    refine ⟨k - (first - st + p - 1) / p, ?_, h2⟩
    unfold startAt at h3 ⊢
    have : (first - st + p - 1) / p ≤ k := Nat.le_of_mul_le_mul_right (by omega : (first - st + p - 1) / p * p ≤ k * p) hp
    rw [Nat.sub_mul]
    have := Nat.mul_le_mul_right p this
    omega
noncomputable def twp (s : Sq04.Set) (p first last : Nat) : Nat → List Nat
  | 0 => []
  | j + 1 => twp s p first last j ++ ap (startAt (s.phase + j * s.gap) p first) p last
theorem mem_twp {s : Sq04.Set} {p first last x : Nat} (hp : 0 < p) : ∀ i, x ∈ twp s p first last i ↔ ∃ j k, j < i ∧ x = s.phase + j * s.gap + k * p ∧ first ≤ x ∧ x ≤ last
  | 0 => by simp [twp]
  | i + 1 => by
    unfold twp
    rw [List.mem_append, mem_twp hp i, mem_place hp]
    constructor
    · rintro (⟨j, k, h, r⟩ | ⟨k, r⟩)
      · exact ⟨j, k, by omega, r⟩
      · exact ⟨i, k, by omega, r⟩
    · rintro ⟨j, k, h, r⟩
      by_cases c : j = i
      · subst c; exact .inr ⟨k, r⟩
      · exact .inl ⟨j, k, by omega, r⟩
theorem place_inj {s : Sq04.Set} {p j k j' k' : Nat} (f : Fit s p) (hj : j < s.burst) (hj' : j' < s.burst) (e : s.phase + j * s.gap + k * p = s.phase + j' * s.gap + k' * p) : j = j' := by
  have e1 := time_place (p := p) (k := k) hj
  have e2 := time_place (p := p) (k := k') hj'
  rw [e, ← e2] at e1
  have e3 : k * s.burst + j = k' * s.burst + j' := by
    rcases Nat.lt_trichotomy (k * s.burst + j) (k' * s.burst + j') with h | h | h
    · have := time_strict f h; omega
    · exact h
    · have := time_strict f h; omega
  have a : (k * s.burst + j) % s.burst = j := by rw [Nat.add_comm, Nat.add_mul_mod_self_right, Nat.mod_eq_of_lt hj]
  have b : (k' * s.burst + j') % s.burst = j' := by rw [Nat.add_comm, Nat.add_mul_mod_self_right, Nat.mod_eq_of_lt hj']
  rw [← a, ← b, e3]
theorem twp_nodup {s : Sq04.Set} {p first last : Nat} (f : Fit s p) : ∀ i, i ≤ s.burst → (twp s p first last i).Nodup
  | 0, _ => by simp [twp]
  | i + 1, h => by
    unfold twp
    rw [List.nodup_append]
    refine ⟨twp_nodup f i (by omega), (ap_sorted f.pos).imp fun c => Nat.ne_of_lt c, ?_⟩
    intro x hx y hy e
    subst e
    obtain ⟨j, k, hj, e1, _⟩ := (mem_twp f.pos i).mp hx
    obtain ⟨k', e2, _⟩ := (mem_place f.pos).mp hy
    have := place_inj f (j := j) (j' := i) (by omega) (by omega) (e1.symm.trans e2)
    omega
theorem mem_times {s : Sq04.Set} {p a b x : Nat} (f : Fit s p) : x ∈ s.times p a b ↔ ∃ n, x = s.time p n ∧ a ≤ x ∧ x < b := by
  unfold Sq04.Set.times
  rw [List.mem_map]
  constructor
  · rintro ⟨i, hi, rfl⟩
    rw [List.mem_range] at hi
    exact ⟨_, rfl, (le_time_iff f _ _).mpr (by omega), (time_lt_iff f _ _).mpr (by omega)⟩
  · rintro ⟨n, rfl, h1, h2⟩
    have h1 := (le_time_iff f _ _).mp h1
    have h2 := (time_lt_iff f _ _).mp h2
    refine ⟨n - s.before p a, List.mem_range.mpr (by omega), ?_⟩
    rw [show s.before p a + (n - s.before p a) = n by omega]
theorem times_sorted {s : Sq04.Set} {p a b : Nat} (f : Fit s p) : (s.times p a b).Pairwise (· < ·) :=
  nodup_map_range fun i j h => time_strict f (by omega)
theorem perm_of_mem {l m : List Nat} (hl : l.Nodup) (hm : m.Nodup) (h : ∀ x, x ∈ l ↔ x ∈ m) : l.Perm m := by
  rw [List.perm_iff_count]
  intro x
  by_cases c : x ∈ l
  · rw [hl.count, hm.count, if_pos c, if_pos ((h x).mp c)]
  · rw [hl.count, hm.count, if_neg c, if_neg (fun d => c ((h x).mpr d))]
theorem twp_perm {s : Sq04.Set} {p first last : Nat} (f : Fit s p) : (twp s p first last s.burst).Perm (s.times p first (last + 1)) := by
  refine perm_of_mem (twp_nodup f _ (Nat.le_refl _)) ((times_sorted f).imp fun c => Nat.ne_of_lt c) fun x => ?_
  rw [mem_twp f.pos, mem_times f]
  constructor
  · rintro ⟨j, k, hj, rfl, h1, h2⟩
    exact ⟨k * s.burst + j, (time_place hj).symm, h1, by omega⟩
  · rintro ⟨n, rfl, h1, h2⟩
    refine ⟨n % s.burst, n / s.burst, Nat.mod_lt _ f.hb, ?_, h1, by omega⟩
    unfold Sq04.Set.time; omega
theorem times_empty {s : Sq04.Set} {p a b : Nat} (f : Fit s p) (h : b ≤ a) : s.times p a b = [] := by
  unfold Sq04.Set.times
  have := before_mono f h
  rw [show s.before p b - s.before p a = 0 by omega]
  rfl
end RT
set_option linter.all false
namespace RT
open Sq04
structure GOk (g : Sq04.Group) : Prop where
  fq : Fit g.set g.set.quick
  fp : Fit g.set g.set.period
  from1 : 1 ≤ g.from_
  till1 : 1 ≤ g.till
noncomputable def cwp (s : Sq04.Set) (p : Nat) (first last : Int) : Int :=
  if first > last then 0 else (cntUp s p last.toNat s.burst : Int) - cntUp s p (first - 1).toNat s.burst
theorem cwp_eq {s : Sq04.Set} {p : Nat} (f : Fit s p) {first : Nat} (h1 : 1 ≤ first) (last : Int) :
    cwp s p first last = ((s.before p (max first (last + 1).toNat) - s.before p first : Nat) : Int) := by
  unfold cwp
  by_cases c : (first : Int) > last
  · rw [if_pos c, show max first (last + 1).toNat = first by omega]; simp
  · rw [if_neg c, cntUp_before f, cntUp_before f, show max first (last + 1).toNat = (last + 1).toNat by omega, show last.toNat + 1 = (last + 1).toNat by omega,
      show ((first : Int) - 1).toNat + 1 = first by omega]
    have := before_mono f (show first ≤ (last + 1).toNat by omega)
    omega
theorem ar2 {n s : Nat} : ((n : Int) - s - 1 + 1).toNat = n - s := by rw [Int.sub_add_cancel, Int.toNat_sub]
theorem ar1 {n s t : Nat} : (min ((n : Int) - s - 1) ((t : Int) - 1) + 1).toNat = min (n - s) t := by
  by_cases c : (n : Int) - s ≤ t
  · rw [Int.min_eq_left (Int.sub_le_sub_right c 1), ar2, Nat.min_eq_left (by omega)]
  · rw [Int.min_eq_right (Int.sub_le_sub_right (Int.le_of_lt (Int.not_le.mp c)) 1), Int.sub_add_cancel, Int.toNat_natCast, Nat.min_eq_right (by omega)]
theorem ar3 {f t n d : Nat} (h : d ≤ n) : max f (min (min (max f t) (n + 1)) d) = max f (min d t) := by
  rw [Nat.min_assoc, Nat.min_eq_right (Nat.le_succ_of_le h)]
  by_cases c : t ≤ f
  · rw [Nat.max_eq_left c, Nat.max_eq_left (Nat.min_le_left f d), Nat.max_eq_left (Nat.le_trans (Nat.min_le_right d t) c)]
  · rw [Nat.max_eq_right (Nat.le_of_not_le c), Nat.min_comm]
theorem due_missed {g : Sq04.Group} {now : Nat} (ok : GOk g) (h : g.from_ ≤ now + 1) :
    (((g.due now).1 : Nat) : Int) = cwp g.set g.set.quick g.from_ (min ((now : Int) - g.set.slack - 1) ((g.till : Int) - 1)) + cwp g.set g.set.period ((max g.from_ g.till : Nat) : Int) ((now : Int) - g.set.slack - 1) := by
  rw [cwp_eq ok.fq ok.from1, cwp_eq ok.fp (Nat.le_trans ok.from1 (Nat.le_max_left _ _)), ar1, ar2]
  have hd : now - g.set.slack ≤ now := Nat.sub_le _ _
  show (((g.set.before g.set.quick (max g.from_ (min (min (max g.from_ g.till) (now + 1)) (now - g.set.slack))) - g.set.before g.set.quick g.from_) +
    (g.set.before g.set.period (max (min (max g.from_ g.till) (now + 1)) (min (now + 1) (now - g.set.slack))) - g.set.before g.set.period (min (max g.from_ g.till) (now + 1))) : Nat) : Int) = _
  rw [ar3 hd, Int.natCast_add, Nat.min_eq_right (Nat.le_succ_of_le hd)]
  by_cases c : max g.from_ g.till ≤ now + 1
  · rw [Nat.min_eq_left c]
  · have c1 := Nat.le_of_not_le c
    rw [Nat.min_eq_right c1, Nat.max_eq_left (Nat.le_succ_of_le hd), Nat.max_eq_left (Nat.le_trans (Nat.le_succ_of_le hd) c1), Nat.sub_self, Nat.sub_self]
noncomputable def wantedOf (g : Sq04.Group) (now : Nat) : List Nat :=
  twp g.set g.set.quick (max g.from_ (now - g.set.slack)) (min now (g.till - 1)) g.set.burst ++ twp g.set g.set.period (max (max g.from_ (now - g.set.slack)) g.till) now g.set.burst
theorem ar4 {n t : Nat} (h : 1 ≤ t) : min n (t - 1) + 1 = min t (n + 1) := by
  rw [← Nat.add_min_add_right, Nat.sub_add_cancel h, Nat.min_comm]
theorem due_wanted {g : Sq04.Group} {now : Nat} (ok : GOk g) (h : g.from_ ≤ now + 1) : (wantedOf g now).Perm (g.due now).2 := by
  have ht := ok.till1
  have hd : now - g.set.slack ≤ now := Nat.sub_le _ _
  show (twp _ _ _ _ _ ++ twp _ _ _ _ _).Perm (g.set.times g.set.quick (max g.from_ (min (min (max g.from_ g.till) (now + 1)) (now - g.set.slack))) (min (max g.from_ g.till) (now + 1)) ++
    g.set.times g.set.period (max (min (max g.from_ g.till) (now + 1)) (min (now + 1) (now - g.set.slack))) (now + 1))
  rw [Nat.min_eq_right (Nat.le_succ_of_le hd), ar3 hd]
  generalize now - g.set.slack = d at hd ⊢
  refine List.Perm.append ?_ ?_
  · refine (twp_perm ok.fq).trans (List.Perm.of_eq ?_)
    rw [ar4 ht]
    by_cases c1 : g.till ≤ g.from_
    · rw [Nat.max_eq_left c1, times_empty ok.fq (Nat.le_trans (Nat.min_le_left _ _) (Nat.le_trans c1 (Nat.le_max_left _ _))), times_empty ok.fq (Nat.le_trans (Nat.min_le_left _ _) (Nat.le_max_left _ _))]
    · rw [Nat.max_eq_right (Nat.le_of_not_le c1)]
      by_cases c2 : d ≤ g.till
      · rw [Nat.min_eq_left c2]
      · have c3 := Nat.le_of_not_le c2
        rw [Nat.min_eq_right c3, times_empty ok.fq (Nat.le_trans (Nat.min_le_left _ _) (Nat.le_trans c3 (Nat.le_max_right _ _))), times_empty ok.fq (Nat.le_trans (Nat.min_le_left _ _) (Nat.le_max_right _ _))]
  · refine (twp_perm ok.fp).trans (List.Perm.of_eq ?_)
    by_cases c : max g.from_ g.till ≤ now + 1
    · rw [Nat.min_eq_left c, Nat.max_assoc, Nat.max_assoc, Nat.max_comm d]
    · have c1 := Nat.le_of_not_le c
      rw [Nat.min_eq_right c1, times_empty ok.fp (Nat.le_trans c1 (by rw [Nat.max_assoc, Nat.max_comm d, ← Nat.max_assoc]; exact Nat.le_max_left _ _)), times_empty ok.fp (Nat.le_max_left _ _)]
noncomputable def LeP (a b : Nat × Nat) : Prop := a.1 < b.1 ∨ (a.1 = b.1 ∧ a.2 ≤ b.2)
theorem LeP.trans {a b c : Nat × Nat} (h : LeP a b) (k : LeP b c) : LeP a c := by unfold LeP at *; omega
theorem LeP.anti {a b : Nat × Nat} (h : LeP a b) (k : LeP b a) : a = b := by
  obtain ⟨a1, a2⟩ := a
  obtain ⟨b1, b2⟩ := b
  unfold LeP at *
  simp at *
  omega
theorem place_perm (x : Nat × Nat) : ∀ l, (Sq04.place x l).Perm (x :: l)
  | [] => List.Perm.refl _
  | y :: l => by
    unfold Sq04.place
    by_cases c : x.1 < y.1 ∨ (x.1 = y.1 ∧ x.2 < y.2)
    · rw [if_pos c]
    · rw [if_neg c]
      exact ((place_perm x l).cons y).trans (List.Perm.swap x y l)
theorem place_sorted (x : Nat × Nat) : ∀ l, l.Pairwise LeP → (Sq04.place x l).Pairwise LeP
  | [], _ => by simp [Sq04.place]
  | y :: l, h => by
    unfold Sq04.place
    rw [List.pairwise_cons] at h
    by_cases c : x.1 < y.1 ∨ (x.1 = y.1 ∧ x.2 < y.2)
    · rw [if_pos c, List.pairwise_cons]
      have hxy : LeP x y := by unfold LeP; omega
      refine ⟨fun z hz => ?_, List.pairwise_cons.mpr h⟩
      rcases List.mem_cons.mp hz with rfl | hz
      · exact hxy
      · exact hxy.trans (h.1 z hz)
    · rw [if_neg c, List.pairwise_cons]
      refine ⟨fun z hz => ?_, place_sorted x l h.2⟩
      rcases List.mem_cons.mp ((place_perm x l).mem_iff.mp hz) with rfl | hz
      · unfold LeP; omega
      · exact h.1 z hz
theorem foldl_place : ∀ (l m : List (Nat × Nat)), m.Pairwise LeP → (l.foldl (fun m x => Sq04.place x m) m).Perm (l ++ m) ∧ (l.foldl (fun m x => Sq04.place x m) m).Pairwise LeP
  | [], m, h => ⟨List.Perm.refl _, h⟩
  | x :: l, m, h => by
    have ih := foldl_place l (Sq04.place x m) (place_sorted x m h)
    refine ⟨?_, ih.2⟩
    rw [List.foldl_cons]
    refine ih.1.trans ?_
    exact ((place_perm x m).append_left l).trans List.perm_middle
theorem sorted_unique {l m : List (Nat × Nat)} (hl : l.Pairwise LeP) (hm : m.Pairwise LeP) (p : l.Perm m) : l = m :=
  List.Perm.eq_of_pairwise (fun _ _ _ _ h k => LeP.anti h k) hl hm p
theorem reads_eq {l m : List (Nat × Nat)} (hl : l.Pairwise LeP) (p : l.Perm m) : l = m.foldl (fun m x => Sq04.place x m) [] := by
  have h := foldl_place m [] List.Pairwise.nil
  rw [List.append_nil] at h
  exact sorted_unique hl h.2 (p.trans h.1.symm)
end RT
set_option linter.all false
namespace RT
open Sq04
structure SetOk (s : Sq04.Set) : Prop where
  p1 : 1000 ≤ s.period
  p2 : s.period ≤ 86400000000
  q1 : 1000 ≤ s.quick
  q2 : s.quick ≤ s.period
  ph : s.phase < 86400000000
  b1 : 1 ≤ s.burst
  b2 : s.burst ≤ 16
  g1 : 1 ≤ s.gap
  g2 : (s.burst - 1) * s.gap < s.quick
  sl : s.slack < s.quick
theorem setOk_iff (s : Sq04.Set) : s.ok = true ↔ SetOk s := by
  unfold Sq04.Set.ok Sq04.LEAST Sq04.HOUR
  simp only [List.all_cons, List.all_nil, Bool.and_true, Bool.and_eq_true, decide_eq_true_eq]
  constructor
  · rintro ⟨a, b, c, d, e, f, g, h, i, j⟩
    exact ⟨a, by omega, c, d, by omega, f, g, h, i, j⟩
  · rintro ⟨a, b, c, d, e, f, g, h, i, j⟩
    exact ⟨a, by omega, c, d, by omega, f, g, h, i, j⟩
theorem SetOk.fq {s : Sq04.Set} (h : SetOk s) : Fit s s.quick := ⟨h.b1, h.g1, h.g2⟩
theorem SetOk.fp {s : Sq04.Set} (h : SetOk s) : Fit s s.period := ⟨h.b1, h.g1, by have := h.g2; have := h.q2; omega⟩
structure GSt (g : Sq04.Group) (now : Nat) : Prop where
  ok : SetOk g.set
  f1 : 1 ≤ g.from_
  f2 : g.from_ ≤ now + 1
  t1 : 1 ≤ g.till
theorem GSt.gok {g : Sq04.Group} {now : Nat} (h : GSt g now) : GOk g := ⟨h.ok.fq, h.ok.fp, h.f1, h.t1⟩
theorem GSt.later {g : Sq04.Group} {now now' : Nat} (h : GSt g now) (l : now ≤ now') : GSt g now' := ⟨h.ok, h.f1, by have := h.f2; omega, h.t1⟩
structure SOk (s : Sq04.State) : Prop where
  gl : s.groups.length = 16
  ml : s.member.length = 64
  gs : ∀ (n : Nat) (g : Sq04.Group), s.groups[n]? = some (some g) → GSt g s.now
theorem fresh_ok : SOk Sq04.fresh := by
  refine ⟨rfl, rfl, fun n g h => ?_⟩
  unfold Sq04.fresh at h
  simp only [List.getElem?_replicate] at h
  split at h <;> simp at h
theorem group_some {s : Sq04.State} {n : Nat} {g : Sq04.Group} (h : s.group n = some g) : s.groups[n]? = some (some g) := by
  unfold Sq04.State.group at h
  rw [List.getD_eq_getElem?_getD] at h
  cases e : s.groups[n]? with
  | none => rw [e] at h; simp at h
  | some x => rw [e] at h; simp at h; rw [h]
theorem group_far {s : Sq04.State} (ok : SOk s) {n : Nat} (h : 16 ≤ n) : s.group n = none := by
  unfold Sq04.State.group
  rw [List.getD_eq_getElem?_getD, List.getElem?_eq_none (by rw [ok.gl]; exact h)]; rfl
theorem pass_groups (s : Sq04.State) (now n : Nat) : (s.pass now).1.groups[n]? = (s.groups[n]?).map fun x => x.map fun g => if g.on = true then g.passed now else g := by
  show (s.groups.map _)[n]? = _
  rw [List.getElem?_map]
theorem pass_now (s : Sq04.State) (now : Nat) : (s.pass now).1.now = now := rfl
theorem pass_ok {s : Sq04.State} {now : Nat} (ok : SOk s) (h : s.now ≤ now) : SOk (s.pass now).1 := by
  refine ⟨?_, ok.ml, fun n g e => ?_⟩
  · show (s.groups.map _).length = 16
    rw [List.length_map, ok.gl]
  · rw [pass_groups] at e
    rw [pass_now]
    cases e1 : s.groups[n]? with
    | none => rw [e1] at e; simp at e
    | some x =>
      rw [e1] at e
      cases x with
      | none => simp at e
      | some y =>
        simp at e
        have q := (ok.gs n y e1).later h
        by_cases c : y.on = true
        · rw [if_pos c] at e
          subst e
          have := q.f2
          exact ⟨q.ok, by show 1 ≤ max y.from_ (now + 1); omega, by show max y.from_ (now + 1) ≤ now + 1; omega, q.t1⟩
        · rw [if_neg c] at e
          subst e
          exact q
theorem set_groups (s : Sq04.State) (g : Nat) (x : Option Sq04.Group) (n : Nat) : (s.set g x).groups[n]? = if g = n then (if n < s.groups.length then some x else none) else s.groups[n]? := by
  show (s.groups.set g x)[n]? = _
  rw [List.getElem?_set]
  by_cases c : g = n
  · subst c; rfl
  · rw [if_neg c, if_neg c]
theorem set_ok {s : Sq04.State} {n : Nat} {x : Option Sq04.Group} (ok : SOk s) (h : ∀ g, x = some g → GSt g s.now) : SOk (s.set n x) := by
  refine ⟨?_, ok.ml, fun m g e => ?_⟩
  · show (s.groups.set n x).length = 16
    rw [List.length_set, ok.gl]
  · rw [set_groups] at e
    show GSt g s.now
    by_cases c : n = m
    · rw [if_pos c] at e
      split at e
      · exact h g (Option.some.inj e)
      · cases e
    · rw [if_neg c] at e
      exact ok.gs m g e
theorem at_ok {s : Sq04.State} {now : Nat} {f : Sq04.State → Sq04.State} (ok : SOk s) (h : ∀ t, SOk t → t.now = now → SOk (f t)) : SOk (s.at_ now f).1 := by
  unfold Sq04.State.at_
  by_cases c : now < s.now
  · rw [if_pos c]; exact ok
  · rw [if_neg c]
    exact h _ (pass_ok ok (by omega)) (pass_now s now)
theorem of_ok {s : Sq04.State} {g now : Nat} {f : Sq04.Group → Sq04.Group} (ok : SOk s) (h : ∀ x, GSt x now → GSt (f x) now) : SOk (s.of g now f).1 := by
  unfold Sq04.State.of
  by_cases c : (s.group g).isNone = true
  · rw [if_pos c]; exact ok
  · rw [if_neg c]
    refine at_ok ok fun t ht e => ?_
    cases q : t.group g with
    | none => exact ht
    | some x =>
      exact set_ok ht fun y hy => by
        cases hy
        rw [e]
        exact h x (by rw [← e]; exact ht.gs g x (group_some q))
theorem step_ok {s : Sq04.State} (ok : SOk s) (c : Sq04.Call) : SOk (Sq04.step s c).1 := by
  cases c with
  | begin_ => exact fresh_ok
  | group g x now =>
    unfold Sq04.step
    dsimp only
    by_cases c : Sq04.GROUPS ≤ g ∨ x.ok = false ∨ St.timeOk now = false
    · rw [if_pos c]; exact ok
    · rw [if_neg c]
      have hx : SetOk x := (setOk_iff x).mp (by cases e : x.ok with | true => rfl | false => exact absurd (.inr (.inl e)) c)
      exact at_ok ok fun t ht e => set_ok ht fun y hy => by
        cases hy
        rw [e]
        exact ⟨hx, by show 1 ≤ now + 1; omega, Nat.le_refl _, by show 1 ≤ now + 1; omega⟩
  | away g now =>
    unfold Sq04.step
    dsimp only
    split
    · exact ok
    · split
      · exact ok
      · refine at_ok ok fun t ht e => ?_
        have q := set_ok (n := g) (x := none) ht (fun _ z => by cases z)
        exact ⟨q.gl, by show (t.member.map _).length = 64; rw [List.length_map, ht.ml], q.gs⟩
  | member ch g now =>
    unfold Sq04.step
    dsimp only
    split
    · exact ok
    · split
      · exact ok
      · exact at_ok ok fun t ht e => ⟨ht.gl, by show (t.member.set ch _).length = 64; rw [List.length_set, ht.ml], ht.gs⟩
  | alone ch now =>
    unfold Sq04.step
    dsimp only
    split
    · exact ok
    · exact at_ok ok fun t ht e => ⟨ht.gl, by show (t.member.set ch _).length = 64; rw [List.length_set, ht.ml], ht.gs⟩
  | on g now =>
    unfold Sq04.step
    dsimp only
    split
    · exact ok
    · refine of_ok ok fun x hx => ?_
      split
      · exact hx
      · exact ⟨hx.ok, by show 1 ≤ now + 1; omega, Nat.le_refl _, by show 1 ≤ now + 1; omega⟩
  | off g now =>
    unfold Sq04.step
    dsimp only
    split
    · exact ok
    · exact of_ok ok fun x hx => ⟨hx.ok, hx.f1, hx.f2, hx.t1⟩
  | quick g now till =>
    unfold Sq04.step
    dsimp only
    split
    · exact ok
    · rename_i c
      exact of_ok ok fun x hx => ⟨hx.ok, hx.f1, hx.f2, by show 1 ≤ till; omega⟩
  | time now =>
    unfold Sq04.step
    dsimp only
    split
    · exact ok
    · exact at_ok ok fun t ht _ => ht
  | next => exact ok
  | look g => exact ok
  | of_ g => exact ok
theorem ap_short {at_ p last first : Nat} (h0 : first ≤ at_) (h : last < first + p) : (ap at_ p last).length ≤ 1 := by
  unfold ap
  rw [List.length_map, List.length_range]
  by_cases c : at_ ≤ last
  · rw [if_pos c, Nat.div_eq_of_lt (by omega)]
    exact Nat.le_refl _
  · rw [if_neg c]; omega
theorem startAt_ge {st p first : Nat} (hp : 0 < p) : first ≤ startAt st p first := by
  have := (startAt_spec (st := st) (first := first) (k := (first - st + p - 1) / p) hp).mpr (Nat.le_refl _)
  exact this
theorem twp_short {s : Sq04.Set} {p first last : Nat} (hp : 0 < p) (h : last < first + p) : ∀ i, (twp s p first last i).length ≤ i
  | 0 => Nat.le_refl _
  | i + 1 => by
    unfold twp
    rw [List.length_append]
    have h1 := twp_short (s := s) hp h i
    have h2 := ap_short (startAt_ge (st := s.phase + i * s.gap) (first := first) hp) h
    omega
theorem in_reach {now s q a : Nat} (h : s < q) : now < max a (now - s) + q := Nat.lt_of_lt_of_le (show now < now - s + q by omega) (Nat.add_le_add_right (Nat.le_max_right _ _) _)
theorem wanted_short {g : Sq04.Group} {now : Nat} (h : SetOk g.set) : (wantedOf g now).length ≤ 32 := by
  unfold wantedOf
  rw [List.length_append]
  have h1 := twp_short (s := g.set) (p := g.set.quick) (first := max g.from_ (now - g.set.slack)) (last := min now (g.till - 1)) h.fq.pos (Nat.lt_of_le_of_lt (Nat.min_le_left _ _) (in_reach h.sl)) g.set.burst
  have h2 := twp_short (s := g.set) (p := g.set.period) (first := max (max g.from_ (now - g.set.slack)) g.till) (last := now) h.fp.pos (Nat.lt_of_lt_of_le (in_reach (Nat.lt_of_lt_of_le h.sl h.q2)) (Nat.add_le_add_right (Nat.le_max_left _ _) _)) g.set.burst
  exact Nat.add_le_add (Nat.le_trans h1 h.b2) (Nat.le_trans h2 h.b2)
end RT
set_option linter.all false
namespace RT
open Sq04
theorem flatMap_perm {α β : Type} {f g : α → List β} : ∀ l : List α, (∀ x, x ∈ l → (f x).Perm (g x)) → (l.flatMap f).Perm (l.flatMap g)
  | [], _ => List.Perm.refl _
  | x :: l, h => by
    rw [List.flatMap_cons, List.flatMap_cons]
    exact (h x List.mem_cons_self).append (flatMap_perm l fun y hy => h y (List.mem_cons_of_mem _ hy))
theorem mem_live {s : Sq04.State} {n : Nat} {g : Sq04.Group} : (n, g) ∈ s.live ↔ n < 16 ∧ s.group n = some g ∧ g.on = true := by
  unfold Sq04.State.live
  rw [List.mem_filterMap]
  constructor
  · rintro ⟨m, hm, e⟩
    rw [List.mem_range] at hm
    cases q : s.group m with
    | none => rw [q] at e; simp at e
    | some x =>
      rw [q] at e
      simp at e
      obtain ⟨c, rfl, rfl⟩ := e
      exact ⟨hm, q, c⟩
  · rintro ⟨h1, h2, h3⟩
    exact ⟨n, List.mem_range.mpr h1, by rw [h2]; simp [h3]⟩
noncomputable def lateOf (s : Sq04.State) (now : Nat) : List (Nat × Nat) := (s.live.map fun x => (x.1, (x.2.due now).1)).filter fun x => decide (0 < x.2)
noncomputable def pairsOf (s : Sq04.State) (now : Nat) : List (Nat × Nat) := s.live.flatMap fun x => (wantedOf x.2 now).map fun t => (t, x.1)
noncomputable def readsOf (s : Sq04.State) (now : Nat) : List (Nat × Nat) := ((s.live.map fun x => (x.1, x.2.due now)).flatMap fun x => x.2.2.map fun t => (t, x.1)).foldl (fun (m : List (Nat × Nat)) x => place x m) []
theorem live_gst {s : Sq04.State} (ok : SOk s) {x : Nat × Sq04.Group} (h : x ∈ s.live) : GSt x.2 s.now := by
  obtain ⟨n, g⟩ := x
  exact ok.gs n g (group_some (mem_live.mp h).2.1)
theorem readsOf_eq {s : Sq04.State} {now : Nat} (ok : SOk s) (h : s.now ≤ now) {l : List (Nat × Nat)} (hl : l.Pairwise LeP) (p : l.Perm (pairsOf s now)) : l = readsOf s now := by
  refine reads_eq hl (p.trans ?_)
  unfold pairsOf
  rw [List.flatMap_map]
  refine flatMap_perm _ fun x hx => List.Perm.map _ ?_
  have q := live_gst ok hx
  exact due_wanted q.gok (by have := q.f2; omega)
noncomputable def told1 (x : Nat × Nat) : List Int := [1, (x.1 : Int), (x.2 : Int)]
noncomputable def told2 (s : Sq04.State) (x : Nat × Nat) : List Int := 2 :: (x.2 : Int) :: (x.1 : Int) :: ((s.channels x.2).length : Int) :: (s.channels x.2).map fun (c : Nat) => (c : Int)
noncomputable def tellOf (s : Sq04.State) (late reads : List (Nat × Nat)) : List Int := ((late.length + reads.length : Nat) : Int) :: (late.flatMap told1 ++ reads.flatMap (told2 s))
noncomputable def ansOf (s : Sq04.State) (now : Nat) : List Int := tellOf s (lateOf s now) (readsOf s now)
theorem pass_wants (s : Sq04.State) (now : Nat) : (s.pass now).2 = ((lateOf s now).map fun x => Want.missed x.1 x.2) ++ (readsOf s now).map fun x => Want.read x.2 x.1 (s.channels x.2) := by
  unfold lateOf readsOf Sq04.State.pass
  dsimp only
  congr 1
  rw [List.filter_map, List.filter_map, List.map_map, List.map_map]
  have e : ((fun x : Nat × Nat => decide (0 < x.2)) ∘ fun x : Nat × Sq04.Group => (x.1, (x.2.due now).1)) = ((fun x : Nat × Nat × List Nat => x.2.1 != 0) ∘ fun x : Nat × Sq04.Group => (x.1, x.2.due now)) := by
    funext x
    have key : ∀ n : Nat, decide (0 < n) = (n != 0) := by
      intro n
      cases n with
      | zero => rfl
      | succ n => simp
    exact key _
  rw [e]
  rfl
theorem wanted_ans (s : Sq04.State) (now : Nat) : ((Sq04.wanted (s.pass now).2).value :: ((Sq04.wanted (s.pass now).2).wants.flatMap Sq04Neutral.told ++ (Sq04.wanted (s.pass now).2).out.map fun (x : Nat) => (x : Int))) = ansOf s now := by
  unfold Sq04.wanted ansOf tellOf
  dsimp only
  rw [List.map_nil, List.append_nil, pass_wants, List.length_append, List.length_map, List.length_map, List.flatMap_append, List.flatMap_map, List.flatMap_map]
  rfl
end RT
set_option linter.all false
namespace RT
open Sq04
noncomputable abbrev NCall := List (List Int)
noncomputable def after (s : Sq04.State) : List NCall → Sq04.State
  | [] => s
  | c :: r => after (Sq04Neutral.step s c).1 r
theorem after_snoc : ∀ (l : List NCall) (s : Sq04.State) (c : NCall), after s (l ++ [c]) = (Sq04Neutral.step (after s l) c).1
  | [], _, _ => rfl
  | d :: l, s, c => after_snoc l (Sq04Neutral.step s d).1 c
theorem played_append : ∀ (l m : List NCall) (s : Sq04.State), PyFlat.played Sq04Neutral.step s (l ++ m) = PyFlat.played Sq04Neutral.step s l ++ PyFlat.played Sq04Neutral.step (after s l) m
  | [], _, _ => rfl
  | d :: l, m, s => by
    show (Sq04Neutral.step s d).2 :: PyFlat.played _ _ (l ++ m) = (Sq04Neutral.step s d).2 :: (PyFlat.played _ _ l ++ _)
    rw [played_append l m (Sq04Neutral.step s d).1]
    rfl
theorem told_append (a b : List (List Int)) : PyFlat.told (a ++ b) = PyFlat.told a ++ PyFlat.told b := by
  unfold PyFlat.told
  rw [List.flatMap_append]
noncomputable def toldOf (l : List NCall) : List Int := PyFlat.told (PyFlat.played Sq04Neutral.step Sq04Neutral.start l)
theorem toldOf_snoc (l : List NCall) (c : NCall) : toldOf (l ++ [c]) = toldOf l ++ (((Sq04Neutral.step (after Sq04Neutral.start l) c).2.length : Int) :: (Sq04Neutral.step (after Sq04Neutral.start l) c).2) := by
  unfold toldOf
  rw [played_append, told_append]
  show _ ++ PyFlat.told [(Sq04Neutral.step (after Sq04Neutral.start l) c).2] = _
  unfold PyFlat.told
  rw [List.flatMap_cons, List.flatMap_nil, List.append_nil]
theorem told_length : ∀ (l : List NCall) (s : Sq04.State), (PyFlat.told (PyFlat.played Sq04Neutral.step s l)).length = Sq04Neutral.outs s l + l.length
  | [], _ => rfl
  | c :: l, s => by
    have ih := told_length l (Sq04Neutral.step s c).1
    show (PyFlat.told ((Sq04Neutral.step s c).2 :: PyFlat.played _ _ l)).length = (Sq04Neutral.step s c).2.length + Sq04Neutral.outs _ l + (l.length + 1)
    unfold PyFlat.told at ih ⊢
    rw [List.flatMap_cons, List.length_append, ih, List.length_cons]
    omega
theorem outs_append : ∀ (l m : List NCall) (s : Sq04.State), Sq04Neutral.outs s l ≤ Sq04Neutral.outs s (l ++ m)
  | [], _, _ => Nat.zero_le _
  | c :: l, m, s => by
    have ih := outs_append l m (Sq04Neutral.step s c).1
    show (Sq04Neutral.step s c).2.length + _ ≤ (Sq04Neutral.step s c).2.length + Sq04Neutral.outs _ (l ++ m)
    omega
inductive Shp : Int → Nat → Prop
  | c1 : Shp 1 0
  | c2 : Shp 2 8
  | c3 : Shp 3 2
  | c4 : Shp 4 3
  | c5 : Shp 5 2
  | c6 : Shp 6 2
  | c7 : Shp 7 2
  | c8 : Shp 8 3
  | c9 : Shp 9 1
  | c10 : Shp 10 0
  | c11 : Shp 11 1
  | c12 : Shp 12 1
theorem shape_cases {p : Int} {n k : Nat} (e : PySq04.shape p = some (n, k)) : k = 0 ∧ Shp p n := by
  unfold PySq04.shape at e
  by_cases h1 : p = 1
  · rw [if_pos h1] at e; cases e; subst h1; exact ⟨rfl, .c1⟩
  rw [if_neg h1] at e
  by_cases h2 : p = 2
  · rw [if_pos h2] at e; cases e; subst h2; exact ⟨rfl, .c2⟩
  rw [if_neg h2] at e
  by_cases h3 : p = 3
  · rw [if_pos h3] at e; cases e; subst h3; exact ⟨rfl, .c3⟩
  rw [if_neg h3] at e
  by_cases h4 : p = 4
  · rw [if_pos h4] at e; cases e; subst h4; exact ⟨rfl, .c4⟩
  rw [if_neg h4] at e
  by_cases h5 : p = 5
  · rw [if_pos h5] at e; cases e; subst h5; exact ⟨rfl, .c5⟩
  rw [if_neg h5] at e
  by_cases h6 : p = 6
  · rw [if_pos h6] at e; cases e; subst h6; exact ⟨rfl, .c6⟩
  rw [if_neg h6] at e
  by_cases h7 : p = 7
  · rw [if_pos h7] at e; cases e; subst h7; exact ⟨rfl, .c7⟩
  rw [if_neg h7] at e
  by_cases h8 : p = 8
  · rw [if_pos h8] at e; cases e; subst h8; exact ⟨rfl, .c8⟩
  rw [if_neg h8] at e
  by_cases h9 : p = 9
  · rw [if_pos h9] at e; cases e; subst h9; exact ⟨rfl, .c9⟩
  rw [if_neg h9] at e
  by_cases h10 : p = 10
  · rw [if_pos h10] at e; cases e; subst h10; exact ⟨rfl, .c10⟩
  rw [if_neg h10] at e
  by_cases h11 : p = 11
  · rw [if_pos h11] at e; cases e; subst h11; exact ⟨rfl, .c11⟩
  rw [if_neg h11] at e
  by_cases h12 : p = 12
  · rw [if_pos h12] at e; cases e; subst h12; exact ⟨rfl, .c12⟩
  rw [if_neg h12] at e
  cases e
theorem shape_zero {p : Int} {n k : Nat} (e : PySq04.shape p = some (n, k)) : k = 0 := (shape_cases e).1
theorem calls_cons {f : Nat} {p : Int} {r : List Int} {cs : List NCall} (h : PyFlat.calls PySq04.shape f (p :: r) = some cs) :
    ∃ n f' cs', PySq04.shape p = some (n, 0) ∧ n ≤ r.length ∧ cs = [p :: r.take n] :: cs' ∧ PyFlat.calls PySq04.shape f' (r.drop n) = some cs' := by
  cases f with
  | zero => simp [PyFlat.calls] at h
  | succ f =>
    unfold PyFlat.calls PyFlat.call at h
    dsimp only at h
    cases e : PySq04.shape p with
    | none => rw [e] at h; simp at h
    | some nk =>
      obtain ⟨n, k⟩ := nk
      have hk := shape_zero e
      subst hk
      rw [e] at h
      dsimp only at h
      by_cases c : r.length < n
      · rw [if_pos c] at h; simp at h
      · rw [if_neg c] at h
        simp only [PyFlat.rows] at h
        cases q : PyFlat.calls PySq04.shape f (r.drop n) with
        | none => rw [q] at h; simp at h
        | some cs' =>
          rw [q] at h
          exact ⟨n, f, cs', rfl, by omega, (Option.some.inj h).symm, q⟩
end RT
set_option linter.all false
namespace RT
open Sq04
noncomputable def intsOf (l : List Nat) : List Int := l.map fun (x : Nat) => (x : Int)
theorem keys_sorted {l : List Nat} {N : Nat} (nd : l.Nodup) (lt : ∀ x, x ∈ l → x < N) {ns : List Int} (p : ns.Perm (intsOf l)) (s : ns.Pairwise (· ≤ ·)) :
    ns = intsOf ((List.range N).filter fun x => decide (x ∈ l)) := by
  have h2 : (intsOf ((List.range N).filter fun x => decide (x ∈ l))).Pairwise (· ≤ ·) := by
    unfold intsOf
    rw [List.pairwise_map]
    exact (List.Pairwise.filter _ List.pairwise_lt_range).imp fun {a b} c => by omega
  have h3 : (intsOf l).Perm (intsOf ((List.range N).filter fun x => decide (x ∈ l))) := by
    unfold intsOf
    refine List.Perm.map _ (perm_of_mem nd (List.Pairwise.filter _ List.nodup_range) fun x => ?_)
    rw [List.mem_filter, List.mem_range, decide_eq_true_eq]
    exact ⟨fun h => ⟨lt x h, h⟩, fun h => h.2⟩
  exact List.Perm.eq_of_pairwise (fun a b _ _ x y => Int.le_antisymm x y) s h2 (p.trans h3)
noncomputable def livePick (f : Nat → Option Sq04.Group) (n : Nat) : Option (Nat × Sq04.Group) := match f n with
  | some x => if x.on = true then some (n, x) else none
  | none => none
theorem live_eq (s : Sq04.State) : s.live = (List.range 16).filterMap (livePick s.group) := rfl
theorem filterMap_congr' {α β : Type} {f g : α → Option β} : ∀ {l : List α}, (∀ x, x ∈ l → f x = g x) → l.filterMap f = l.filterMap g
  | [], _ => rfl
  | x :: l, h => by
    rw [List.filterMap_cons, List.filterMap_cons, h x List.mem_cons_self, filterMap_congr' fun y hy => h y (List.mem_cons_of_mem _ hy)]
theorem live_keys {s : Sq04.State} {l : List Nat} (h : ∀ n, n < 16 → s.group n ≠ none → n ∈ l) : ((List.range 16).filter fun x => decide (x ∈ l)).filterMap (livePick s.group) = s.live := by
  rw [live_eq, List.filterMap_filter]
  refine filterMap_congr' fun n hn => ?_
  by_cases c : n ∈ l
  · rw [decide_eq_true c]; rfl
  · rw [decide_eq_false c]
    have : s.group n = none := by
      cases e : s.group n with
      | none => rfl
      | some x => exact absurd (h n (List.mem_range.mp hn) (by rw [e]; exact fun z => by cases z)) c
    show none = livePick s.group n
    unfold livePick
    rw [this]
noncomputable def memb (s : Sq04.State) (c : Nat) : Option Nat := s.member.getD c none
theorem memb_far {s : Sq04.State} (ok : SOk s) {c : Nat} (h : 64 ≤ c) : memb s c = none := by
  unfold memb
  rw [List.getD_eq_getElem?_getD, List.getElem?_eq_none (by rw [ok.ml]; exact h)]; rfl
theorem channels_keys {s : Sq04.State} {l : List Nat} (h : ∀ c, c < 64 → memb s c ≠ none → c ∈ l) (g : Nat) :
    ((List.range 64).filter fun x => decide (x ∈ l)).filter (fun c => decide (memb s c = some g)) = s.channels g := by
  unfold Sq04.State.channels
  rw [List.filter_filter]
  refine List.filter_congr fun c hc => ?_
  have hc' : c < 64 := List.mem_range.mp hc
  show (decide (memb s c = some g) && decide (c ∈ l)) = (memb s c == some g)
  by_cases e : memb s c = some g
  · rw [decide_eq_true e, decide_eq_true (h c hc' (by rw [e]; exact fun z => by cases z)), e]
    simp
  · rw [decide_eq_false e]
    simp [e]
theorem channels_lt {s : Sq04.State} {g c : Nat} (h : c ∈ s.channels g) : c < 64 ∧ memb s c = some g := by
  unfold Sq04.State.channels at h
  rw [List.mem_filter] at h
  exact ⟨List.mem_range.mp h.1, by simpa [memb] using h.2⟩
theorem channels_len (s : Sq04.State) (g : Nat) : (s.channels g).length ≤ 64 := by
  unfold Sq04.State.channels
  exact Nat.le_trans (List.length_filter_le _ _) (by rw [List.length_range]; exact Nat.le_refl _)
theorem pass_group (s : Sq04.State) (now n : Nat) : (s.pass now).1.group n = (s.group n).map fun g => if g.on = true then g.passed now else g := by
  unfold Sq04.State.group
  rw [List.getD_eq_getElem?_getD, List.getD_eq_getElem?_getD, pass_groups]
  cases s.groups[n]? with
  | none => rfl
  | some x => rfl
theorem set_group {s : Sq04.State} (ok : SOk s) {n : Nat} (h : n < 16) (x : Option Sq04.Group) (m : Nat) : (s.set n x).group m = if m = n then x else s.group m := by
  unfold Sq04.State.group
  rw [List.getD_eq_getElem?_getD, set_groups, List.getD_eq_getElem?_getD]
  by_cases c : n = m
  · subst c
    rw [if_pos rfl, if_pos rfl, if_pos (by rw [ok.gl]; exact h)]; rfl
  · rw [if_neg c, if_neg (fun e => c e.symm)]
end RT
set_option linter.all false
namespace RT
open Sq04
noncomputable def firstOf (s : Sq04.Set) (p first : Nat) : Nat := s.time p (s.before p first)
noncomputable def starts (s : Sq04.Set) (p first n : Nat) : List Nat := (List.range n).map fun j => startAt (s.phase + j * s.gap) p first
theorem starts_succ (s : Sq04.Set) (p first n : Nat) : starts s p first (n + 1) = starts s p first n ++ [startAt (s.phase + n * s.gap) p first] := by
  unfold starts
  rw [List.range_succ, List.map_append]
  rfl
theorem starts_len (s : Sq04.Set) (p first n : Nat) : (starts s p first n).length = n := by
  unfold starts
  rw [List.length_map, List.length_range]
theorem time_le {s : Sq04.Set} {p n m : Nat} (f : Fit s p) (h : n ≤ m) : s.time p n ≤ s.time p m := by
  by_cases c : n = m
  · rw [c]; exact Nat.le_refl _
  · exact Nat.le_of_lt (time_strict f (by omega))
theorem firstOf_ge {s : Sq04.Set} {p first : Nat} (f : Fit s p) : first ≤ firstOf s p first := (le_time_iff f _ _).mpr (Nat.le_refl _)
theorem firstOf_min {s : Sq04.Set} {p first m : Nat} (f : Fit s p) (h1 : m ∈ starts s p first s.burst) (h2 : ∀ y, y ∈ starts s p first s.burst → m ≤ y) : m = firstOf s p first := by
  obtain ⟨j, hj, rfl⟩ := List.mem_map.mp h1
  rw [List.mem_range] at hj
  refine Nat.le_antisymm ?_ ?_
  · have h3 := h2 _ (List.mem_map.mpr ⟨s.before p first % s.burst, List.mem_range.mpr (Nat.mod_lt _ f.hb), rfl⟩)
    refine Nat.le_trans h3 ?_
    have e : firstOf s p first = s.phase + s.before p first % s.burst * s.gap + s.before p first / s.burst * p := by
      unfold firstOf Sq04.Set.time; omega
    rw [e]
    refine (startAt_spec f.pos).mp ?_
    rw [← e]
    exact firstOf_ge f
  · have hge := startAt_ge (st := s.phase + j * s.gap) (first := first) f.pos
    have e : startAt (s.phase + j * s.gap) p first = s.time p ((first - (s.phase + j * s.gap) + p - 1) / p * s.burst + j) := by
      rw [time_place hj]; rfl
    rw [e] at hge ⊢
    exact time_le f ((le_time_iff f _ _).mp hge)
noncomputable def nextOf (g : Sq04.Group) : Nat := if firstOf g.set g.set.quick g.from_ < g.till then firstOf g.set g.set.quick g.from_ else firstOf g.set g.set.period (max g.from_ g.till)
theorem next_eq {g : Sq04.Group} (f : Fit g.set g.set.quick) (h : g.on = true) : g.next = some (nextOf g) := by
  unfold Sq04.Group.next nextOf
  rw [if_neg (by rw [h]; exact Bool.noConfusion)]
  show some (if g.from_ < g.till ∧ firstOf g.set g.set.quick g.from_ < g.till then firstOf g.set g.set.quick g.from_ else firstOf g.set g.set.period (max g.from_ g.till)) = _
  have := firstOf_ge (first := g.from_) f
  by_cases c : firstOf g.set g.set.quick g.from_ < g.till
  · rw [if_pos c, if_pos ⟨by omega, c⟩]
  · rw [if_neg c, if_neg fun z => c z.2]
theorem filterMap_some {α β : Type} {f : α → Option β} {g : α → β} : ∀ l : List α, (∀ x, x ∈ l → f x = some (g x)) → l.filterMap f = l.map g
  | [], _ => rfl
  | x :: l, h => by
    rw [List.filterMap_cons, h x List.mem_cons_self, List.map_cons, filterMap_some l fun y hy => h y (List.mem_cons_of_mem _ hy)]
noncomputable def nexts (s : Sq04.State) : List Nat := s.live.map fun x => nextOf x.2
theorem live_next {s : Sq04.State} (ok : SOk s) : (s.live.filterMap fun x => x.2.next) = nexts s :=
  filterMap_some _ fun x hx => next_eq (live_gst ok hx).ok.fq (mem_live.mp hx).2.2
noncomputable def minF (m : Option Nat) (t : Nat) : Option Nat := some (match m with
  | some u => min u t
  | none => t)
theorem fold_some : ∀ (l : List Nat) (m : Nat), ∃ r, l.foldl minF (some m) = some r ∧ r ∈ m :: l ∧ ∀ y, y ∈ m :: l → r ≤ y
  | [], m => ⟨m, rfl, List.mem_cons_self, fun y hy => by
      rcases List.mem_cons.mp hy with rfl | h
      · exact Nat.le_refl _
      · cases h⟩
  | t :: l, m => by
    obtain ⟨r, e, h1, h2⟩ := fold_some l (min m t)
    refine ⟨r, e, ?_, fun y hy => ?_⟩
    · rcases List.mem_cons.mp h1 with h | h
      · by_cases c : m ≤ t
        · rw [Nat.min_eq_left c] at h; rw [h]; exact List.mem_cons_self
        · rw [Nat.min_eq_right (by omega)] at h; rw [h]; exact List.mem_cons_of_mem _ List.mem_cons_self
      · exact List.mem_cons_of_mem _ (List.mem_cons_of_mem _ h)
    · have h0 := h2 _ List.mem_cons_self
      rcases List.mem_cons.mp hy with rfl | hy
      · omega
      · rcases List.mem_cons.mp hy with rfl | hy
        · omega
        · exact h2 y (List.mem_cons_of_mem _ hy)
theorem step_next_def (s : Sq04.State) (ok : SOk s) : Sq04.step s .next = (s, match (nexts s).foldl minF none with
    | some t => ⟨0, [], [t]⟩
    | none => says (-2)) := by
  rw [← live_next ok]
  rfl
theorem step_next_nil {s : Sq04.State} (ok : SOk s) (h : nexts s = []) : Sq04.step s .next = (s, says (-2)) := by
  rw [step_next_def s ok, h]; rfl
theorem step_next_min {s : Sq04.State} (ok : SOk s) {m : Nat} (h1 : m ∈ nexts s) (h2 : ∀ y, y ∈ nexts s → m ≤ y) : Sq04.step s .next = (s, ⟨0, [], [m]⟩) := by
  rw [step_next_def s ok]
  cases e : nexts s with
  | nil => rw [e] at h1; cases h1
  | cons t l =>
    rw [e] at h1 h2
    obtain ⟨r, e2, h3, h4⟩ := fold_some l t
    have e3 : (t :: l).foldl minF none = some r := e2
    have e4 : r = m := Nat.le_antisymm (h4 m h1) (h2 r h3)
    rw [e3, e4]
noncomputable def ansL (a : Sq04.Ans) : List Int := a.value :: (a.wants.flatMap Sq04Neutral.told ++ a.out.map fun (x : Nat) => (x : Int))
theorem ansL_wanted (s : Sq04.State) (now : Nat) : ansL (Sq04.wanted (s.pass now).2) = ansOf s now := wanted_ans s now
noncomputable def TIME : Nat := 4611686018427387904
theorem timeOk_iff (t : Nat) : St.timeOk t = decide (t ≤ TIME) := rfl
noncomputable def refT (s : Sq04.State) (now : Nat) : Int := if now ≤ TIME then if now < s.now then -4 else 0 else -1
noncomputable def refG (s : Sq04.State) (g now : Nat) : Int := if g < 16 ∧ now ≤ TIME then if (s.group g).isSome = true then refT s now else -2 else -1
theorem refT_zero {s : Sq04.State} {now : Nat} (h : refT s now = 0) : now ≤ TIME ∧ s.now ≤ now := by
  unfold refT at h
  by_cases c : now ≤ TIME
  · rw [if_pos c] at h
    by_cases d : now < s.now
    · rw [if_pos d] at h; omega
    · exact ⟨c, by omega⟩
  · rw [if_neg c] at h; omega
theorem refG_zero {s : Sq04.State} {g now : Nat} (h : refG s g now = 0) : g < 16 ∧ now ≤ TIME ∧ s.now ≤ now ∧ ∃ x, s.group g = some x := by
  unfold refG at h
  by_cases c : g < 16 ∧ now ≤ TIME
  · rw [if_pos c] at h
    by_cases d : (s.group g).isSome = true
    · rw [if_pos d] at h
      exact ⟨c.1, c.2, (refT_zero h).2, Option.isSome_iff_exists.mp d⟩
    · rw [if_neg d] at h; omega
  · rw [if_neg c] at h; omega
theorem at_ref {s : Sq04.State} {now : Nat} {f : Sq04.State → Sq04.State} (h : refT s now ≠ 0) : (if St.timeOk now = false then (s, says (-1)) else s.at_ now f) = (s, says (refT s now)) := by
  unfold refT at h ⊢
  rw [timeOk_iff]
  by_cases c : now ≤ TIME
  · rw [if_pos c] at h ⊢
    rw [decide_eq_true c, if_neg (by decide)]
    by_cases d : now < s.now
    · unfold Sq04.State.at_
      rw [if_pos d, if_pos d]
    · rw [if_neg d] at h; exact absurd rfl h
  · rw [if_neg c, decide_eq_false c, if_pos rfl]
theorem at_go {s : Sq04.State} {now : Nat} {f : Sq04.State → Sq04.State} (h : s.now ≤ now) : s.at_ now f = (f (s.pass now).1, Sq04.wanted (s.pass now).2) := by
  unfold Sq04.State.at_
  rw [if_neg (by omega)]
theorem or_neg {g now : Nat} (h : g < 16 ∧ now ≤ TIME) : ¬ (Sq04.GROUPS ≤ g ∨ St.timeOk now = false) := by
  rw [timeOk_iff, decide_eq_true h.2]
  rintro (c | c)
  · have : (16 : Nat) ≤ g := c
    omega
  · cases c
theorem or_pos {g now : Nat} (h : ¬ (g < 16 ∧ now ≤ TIME)) : Sq04.GROUPS ≤ g ∨ St.timeOk now = false := by
  rw [timeOk_iff]
  by_cases c : g < 16
  · exact .inr (decide_eq_false fun d => h ⟨c, d⟩)
  · exact .inl (by show 16 ≤ g; omega)
theorem grp_ref {s : Sq04.State} {g now : Nat} {f : Sq04.State → Sq04.State} (h : refG s g now ≠ 0) :
    (if Sq04.GROUPS ≤ g ∨ St.timeOk now = false then (s, says (-1)) else if (s.group g).isNone = true then (s, says (-2)) else s.at_ now f) = (s, says (refG s g now)) := by
  unfold refG at h ⊢
  by_cases c : g < 16 ∧ now ≤ TIME
  · rw [if_pos c] at h ⊢
    rw [if_neg (or_neg c)]
    cases e : s.group g with
    | none =>
      rw [if_pos (show (none : Option Sq04.Group).isNone = true from rfl), if_neg (show ¬ (none : Option Sq04.Group).isSome = true from Bool.false_ne_true)]
    | some x =>
      rw [e] at h
      rw [if_pos (show (some x).isSome = true from rfl)] at h ⊢
      rw [if_neg (show ¬ (some x).isNone = true from Bool.false_ne_true)]
      have q := at_ref (f := f) h
      rw [timeOk_iff, decide_eq_true c.2, if_neg (by decide)] at q
      exact q
  · rw [if_neg c, if_pos (or_pos c)]
theorem grp_go {s : Sq04.State} {g now : Nat} {f : Sq04.State → Sq04.State} (h : refG s g now = 0) :
    (if Sq04.GROUPS ≤ g ∨ St.timeOk now = false then (s, says (-1)) else if (s.group g).isNone = true then (s, says (-2)) else s.at_ now f) = (f (s.pass now).1, Sq04.wanted (s.pass now).2) := by
  obtain ⟨h1, h2, h3, x, hx⟩ := refG_zero h
  rw [if_neg (or_neg ⟨h1, h2⟩), hx, if_neg (show ¬ (some x).isNone = true from Bool.false_ne_true), at_go h3]
noncomputable def gone (now : Nat) (g : Sq04.Group) : Sq04.Group := if g.on = true then g.passed now else g
theorem pass_gone (s : Sq04.State) (now n : Nat) : (s.pass now).1.group n = (s.group n).map (gone now) := pass_group s now n
theorem of_ref {s : Sq04.State} {g now : Nat} {f : Sq04.Group → Sq04.Group} (h : refG s g now ≠ 0) :
    (if Sq04.GROUPS ≤ g ∨ St.timeOk now = false then (s, says (-1)) else s.of g now f) = (s, says (refG s g now)) := grp_ref h
theorem of_go {s : Sq04.State} {g now : Nat} {f : Sq04.Group → Sq04.Group} {x : Sq04.Group} (h : refG s g now = 0) (hx : s.group g = some x) :
    (if Sq04.GROUPS ≤ g ∨ St.timeOk now = false then (s, says (-1)) else s.of g now f) = ((s.pass now).1.set g (some (f (gone now x))), Sq04.wanted (s.pass now).2) := by
  have q := grp_go (f := fun t => match t.group g with
    | some x => t.set g (some (f x))
    | none => t) h
  refine Eq.trans q ?_
  rw [pass_gone, hx]
  rfl
theorem on_ref {s : Sq04.State} {g now : Nat} (h : refG s g now ≠ 0) : Sq04.step s (.on g now) = (s, says (refG s g now)) := of_ref h
theorem off_ref {s : Sq04.State} {g now : Nat} (h : refG s g now ≠ 0) : Sq04.step s (.off g now) = (s, says (refG s g now)) := of_ref h
theorem away_ref {s : Sq04.State} {g now : Nat} (h : refG s g now ≠ 0) : Sq04.step s (.away g now) = (s, says (refG s g now)) := grp_ref h
theorem time_ref {s : Sq04.State} {now : Nat} (h : refT s now ≠ 0) : Sq04.step s (.time now) = (s, says (refT s now)) := at_ref h
theorem on_go {s : Sq04.State} {g now : Nat} {x : Sq04.Group} (h : refG s g now = 0) (hx : s.group g = some x) :
    Sq04.step s (.on g now) = ((s.pass now).1.set g (some (if (gone now x).on = true then gone now x else { gone now x with on := true, from_ := now + 1, till := now + 1 })), Sq04.wanted (s.pass now).2) :=
  of_go (f := fun x => if x.on = true then x else { x with on := true, from_ := now + 1, till := now + 1 }) h hx
theorem off_go {s : Sq04.State} {g now : Nat} {x : Sq04.Group} (h : refG s g now = 0) (hx : s.group g = some x) :
    Sq04.step s (.off g now) = ((s.pass now).1.set g (some { gone now x with on := false }), Sq04.wanted (s.pass now).2) := of_go (f := fun x => { x with on := false }) h hx
theorem away_go {s : Sq04.State} {g now : Nat} (h : refG s g now = 0) :
    Sq04.step s (.away g now) = ({ ((s.pass now).1.set g none) with member := (s.pass now).1.member.map fun m => if m = some g then none else m }, Sq04.wanted (s.pass now).2) := grp_go (f := fun t => { (t.set g none) with member := t.member.map fun m => if m = some g then none else m }) h
theorem time_go {s : Sq04.State} {now : Nat} (h : refT s now = 0) : Sq04.step s (.time now) = ((s.pass now).1, Sq04.wanted (s.pass now).2) := by
  obtain ⟨h1, h2⟩ := refT_zero h
  show (if St.timeOk now = false then (s, says (-1)) else s.at_ now id) = _
  rw [timeOk_iff, decide_eq_true h1, if_neg (by decide), at_go h2]
  rfl
theorem quick_bad {s : Sq04.State} {g now till : Nat} (h : ¬ till ≤ TIME ∨ till ≤ now) : Sq04.step s (.quick g now till) = (s, says (-1)) := by
  show (if Sq04.GROUPS ≤ g ∨ St.timeOk now = false ∨ St.timeOk till = false ∨ till ≤ now then (s, says (-1)) else _) = _
  rw [if_pos]
  rcases h with h | h
  · exact .inr (.inr (.inl (by rw [timeOk_iff]; exact decide_eq_false h)))
  · exact .inr (.inr (.inr h))
theorem quick_eq {s : Sq04.State} {g now till : Nat} (h1 : till ≤ TIME) (h2 : now < till) : Sq04.step s (.quick g now till) = if Sq04.GROUPS ≤ g ∨ St.timeOk now = false then (s, says (-1)) else s.of g now fun x => { x with till := till } := by
  show (if Sq04.GROUPS ≤ g ∨ St.timeOk now = false ∨ St.timeOk till = false ∨ till ≤ now then (s, says (-1)) else s.of g now fun x => { x with till := till }) = _
  by_cases c : Sq04.GROUPS ≤ g ∨ St.timeOk now = false
  · rw [if_pos c, if_pos (by rcases c with c | c; exact .inl c; exact .inr (.inl c))]
  · rw [if_neg c, if_neg]
    rintro (d | d | d | d)
    · exact c (.inl d)
    · exact c (.inr d)
    · rw [timeOk_iff, decide_eq_true h1] at d; cases d
    · omega
theorem quick_ref {s : Sq04.State} {g now till : Nat} (h1 : till ≤ TIME) (h2 : now < till) (h : refG s g now ≠ 0) : Sq04.step s (.quick g now till) = (s, says (refG s g now)) := by
  rw [quick_eq h1 h2]; exact of_ref h
theorem quick_go {s : Sq04.State} {g now till : Nat} {x : Sq04.Group} (h1 : till ≤ TIME) (h2 : now < till) (h : refG s g now = 0) (hx : s.group g = some x) :
    Sq04.step s (.quick g now till) = ((s.pass now).1.set g (some { gone now x with till := till }), Sq04.wanted (s.pass now).2) := by
  rw [quick_eq h1 h2]; exact of_go h hx
theorem member_bad {s : Sq04.State} {ch g now : Nat} (h : ¬ ch < 64) : Sq04.step s (.member ch g now) = (s, says (-1)) := by
  show (if St.CHANNELS ≤ ch ∨ Sq04.GROUPS ≤ g ∨ St.timeOk now = false then (s, says (-1)) else _) = _
  rw [if_pos (.inl (by show 64 ≤ ch; omega))]
theorem member_eq {s : Sq04.State} {ch g now : Nat} (h : ch < 64) : Sq04.step s (.member ch g now) = if Sq04.GROUPS ≤ g ∨ St.timeOk now = false then (s, says (-1)) else if (s.group g).isNone = true then (s, says (-2)) else s.at_ now fun t => { t with member := t.member.set ch (some g) } := by
  show (if St.CHANNELS ≤ ch ∨ Sq04.GROUPS ≤ g ∨ St.timeOk now = false then (s, says (-1)) else if (s.group g).isNone = true then (s, says (-2)) else s.at_ now fun t => { t with member := t.member.set ch (some g) }) = _
  by_cases c : Sq04.GROUPS ≤ g ∨ St.timeOk now = false
  · rw [if_pos c, if_pos (.inr c)]
  · rw [if_neg c, if_neg]
    rintro (d | d)
    · have : (64 : Nat) ≤ ch := d
      omega
    · exact c d
theorem member_ref {s : Sq04.State} {ch g now : Nat} (h0 : ch < 64) (h : refG s g now ≠ 0) : Sq04.step s (.member ch g now) = (s, says (refG s g now)) := by
  rw [member_eq h0]; exact grp_ref h
theorem member_go {s : Sq04.State} {ch g now : Nat} (h0 : ch < 64) (h : refG s g now = 0) : Sq04.step s (.member ch g now) = ({ (s.pass now).1 with member := (s.pass now).1.member.set ch (some g) }, Sq04.wanted (s.pass now).2) := by
  rw [member_eq h0]; exact grp_go (f := fun t => { t with member := t.member.set ch (some g) }) h
theorem alone_bad {s : Sq04.State} {ch now : Nat} (h : ¬ ch < 64) : Sq04.step s (.alone ch now) = (s, says (-1)) := by
  show (if St.CHANNELS ≤ ch ∨ St.timeOk now = false then (s, says (-1)) else _) = _
  rw [if_pos (.inl (by show 64 ≤ ch; omega))]
theorem alone_eq {s : Sq04.State} {ch now : Nat} (h : ch < 64) : Sq04.step s (.alone ch now) = if St.timeOk now = false then (s, says (-1)) else s.at_ now fun t => { t with member := t.member.set ch none } := by
  show (if St.CHANNELS ≤ ch ∨ St.timeOk now = false then (s, says (-1)) else s.at_ now fun t => { t with member := t.member.set ch none }) = _
  by_cases c : St.timeOk now = false
  · rw [if_pos c, if_pos (.inr c)]
  · rw [if_neg c, if_neg]
    rintro (d | d)
    · have : (64 : Nat) ≤ ch := d
      omega
    · exact c d
theorem alone_ref {s : Sq04.State} {ch now : Nat} (h0 : ch < 64) (h : refT s now ≠ 0) : Sq04.step s (.alone ch now) = (s, says (refT s now)) := by
  rw [alone_eq h0]; exact at_ref h
theorem alone_go {s : Sq04.State} {ch now : Nat} (h0 : ch < 64) (h : refT s now = 0) : Sq04.step s (.alone ch now) = ({ (s.pass now).1 with member := (s.pass now).1.member.set ch none }, Sq04.wanted (s.pass now).2) := by
  obtain ⟨h1, h2⟩ := refT_zero h
  rw [alone_eq h0, timeOk_iff, decide_eq_true h1, if_neg (by decide), at_go h2]
theorem group_bad {s : Sq04.State} {g now : Nat} {x : Sq04.Set} (h : ¬ g < 16 ∨ x.ok = false) : Sq04.step s (.group g x now) = (s, says (-1)) := by
  show (if Sq04.GROUPS ≤ g ∨ x.ok = false ∨ St.timeOk now = false then (s, says (-1)) else _) = _
  rw [if_pos]
  rcases h with h | h
  · exact .inl (by show 16 ≤ g; omega)
  · exact .inr (.inl h)
theorem group_eq {s : Sq04.State} {g now : Nat} {x : Sq04.Set} (h1 : g < 16) (h2 : x.ok = true) : Sq04.step s (.group g x now) = if St.timeOk now = false then (s, says (-1)) else s.at_ now fun t => t.set g (some ⟨x, false, now + 1, now + 1, 0, 0⟩) := by
  show (if Sq04.GROUPS ≤ g ∨ x.ok = false ∨ St.timeOk now = false then (s, says (-1)) else s.at_ now fun t => t.set g (some ⟨x, false, now + 1, now + 1, 0, 0⟩)) = _
  by_cases c : St.timeOk now = false
  · rw [if_pos c, if_pos (.inr (.inr c))]
  · rw [if_neg c, if_neg]
    rintro (d | d | d)
    · have : (16 : Nat) ≤ g := d
      omega
    · rw [h2] at d; cases d
    · exact c d
theorem group_ref {s : Sq04.State} {g now : Nat} {x : Sq04.Set} (h1 : g < 16) (h2 : x.ok = true) (h : refT s now ≠ 0) : Sq04.step s (.group g x now) = (s, says (refT s now)) := by
  rw [group_eq h1 h2]; exact at_ref h
theorem group_go {s : Sq04.State} {g now : Nat} {x : Sq04.Set} (h1 : g < 16) (h2 : x.ok = true) (h : refT s now = 0) : Sq04.step s (.group g x now) = ((s.pass now).1.set g (some ⟨x, false, now + 1, now + 1, 0, 0⟩), Sq04.wanted (s.pass now).2) := by
  obtain ⟨h3, h4⟩ := refT_zero h
  rw [group_eq h1 h2, timeOk_iff, decide_eq_true h3, if_neg (by decide), at_go h4]
theorem memb_set {s : Sq04.State} (ok : SOk s) {ch : Nat} (h : ch < 64) (x : Option Nat) (c : Nat) : memb { s with member := s.member.set ch x } c = if c = ch then x else memb s c := by
  unfold memb
  show (s.member.set ch x).getD c none = _
  rw [List.getD_eq_getElem?_getD, List.getD_eq_getElem?_getD, List.getElem?_set]
  by_cases e : ch = c
  · subst e
    rw [if_pos rfl, if_pos rfl, if_pos (by rw [ok.ml]; exact h)]; rfl
  · rw [if_neg e, if_neg fun z => e z.symm]
theorem memb_away (s : Sq04.State) (g : Nat) (x : Option Sq04.Group) (c : Nat) : memb { (s.set g x) with member := s.member.map fun m => if m = some g then none else m } c = if memb s c = some g then none else memb s c := by
  unfold memb
  show (s.member.map fun m => if m = some g then none else m).getD c none = _
  rw [List.getD_eq_getElem?_getD, List.getD_eq_getElem?_getD, List.getElem?_map]
  cases e : s.member[c]? with
  | none => simp
  | some m => rfl
theorem gone_eq {g : Sq04.Group} {now : Nat} (h : GSt g now) (on : g.on = true) : gone now g = { g with from_ := now + 1, wanted := g.wanted + (wantedOf g now).length, missed := g.missed + (g.due now).1 } := by
  unfold gone
  rw [if_pos on]
  unfold Sq04.Group.passed
  dsimp only
  have e1 : max g.from_ (now + 1) = now + 1 := by have := h.f2; omega
  rw [e1, (due_wanted h.gok h.f2).length_eq]
end RT
set_option linter.all false
namespace RT
open Sq04
inductive IsCall : Int → List Int → Sq04.Call → Prop
  | begin_ : IsCall 1 [] .begin_
  | group (g p q ph b ga sl now : Nat) : IsCall 2 [(g : Int), (p : Int), (q : Int), (ph : Int), (b : Int), (ga : Int), (sl : Int), (now : Int)] (.group g ⟨p, q, ph, b, ga, sl⟩ now)
  | away (g t : Nat) : IsCall 3 [(g : Int), (t : Int)] (.away g t)
  | member (c g t : Nat) : IsCall 4 [(c : Int), (g : Int), (t : Int)] (.member c g t)
  | alone (c t : Nat) : IsCall 5 [(c : Int), (t : Int)] (.alone c t)
  | on (g t : Nat) : IsCall 6 [(g : Int), (t : Int)] (.on g t)
  | off (g t : Nat) : IsCall 7 [(g : Int), (t : Int)] (.off g t)
  | quick (g t u : Nat) : IsCall 8 [(g : Int), (t : Int), (u : Int)] (.quick g t u)
  | time (t : Nat) : IsCall 9 [(t : Int)] (.time t)
  | next : IsCall 10 [] .next
  | look (g : Nat) : IsCall 11 [(g : Int)] (.look g)
  | of_ (g : Nat) : IsCall 12 [(g : Int)] (.of_ g)
theorem nat_of {z : Int} (h : Sq04Neutral.natural z 64 = true) : ∃ n : Nat, z = (n : Int) := by
  unfold Sq04Neutral.natural at h
  rw [Bool.and_eq_true, decide_eq_true_eq] at h
  exact ⟨z.toNat, by omega⟩
theorem uns_all : ∀ {l : List Int}, (∀ z, z ∈ l → 0 ≤ z) → Sq04Neutral.unsigned l = true := fun {l} h => by
  unfold Sq04Neutral.unsigned
  rw [List.all_eq_true]
  intro z hz
  exact decide_eq_true (h z hz)
theorem step_of {ns : List Int} {c : Sq04.Call} (e : Sq04Neutral.callOf [ns] = some c) (s : Sq04.State) : Sq04Neutral.step s [ns] = ((Sq04.step s c).1, ansL (Sq04.step s c).2) := by
  unfold Sq04Neutral.step
  rw [e]
  rfl
theorem callIn_of {ns : List Int} (h : Sq04Neutral.unsigned ns = true) {c : Sq04.Call} (e : ∀ b, b = Sq04Neutral.unsigned ns → (if b = false then none else some c) = Sq04Neutral.callOf [ns]) : Sq04Neutral.callOf [ns] = some c := by
  rw [← e _ rfl, h, if_neg (by decide)]
theorem len_cons {α : Type} {l : List α} {n : Nat} (h : l.length = n + 1) : ∃ a r, l = a :: r ∧ r.length = n := by
  cases l with
  | nil => cases h
  | cons a r => exact ⟨a, r, rfl, by simpa using h⟩
theorem call_of {k : Int} {n : Nat} {args : List Int} (hs : PySq04.shape k = some (n, 0)) (hl : args.length = n) (ha : Sq04Neutral.asked1 [k :: args] = true) :
    ∃ c, IsCall k args c ∧ ∀ s, Sq04Neutral.step s [k :: args] = ((Sq04.step s c).1, ansL (Sq04.step s c).2) := by
  cases (shape_cases hs).2
  · skip
    rw [List.eq_nil_of_length_eq_zero hl]
    exact ⟨_, .begin_, fun s => rfl⟩
  · skip
    obtain ⟨a, r1, rfl, hm1⟩ := len_cons hl
    obtain ⟨b, r2, rfl, hm2⟩ := len_cons hm1
    obtain ⟨c, r3, rfl, hm3⟩ := len_cons hm2
    obtain ⟨d, r4, rfl, hm4⟩ := len_cons hm3
    obtain ⟨e, r5, rfl, hm5⟩ := len_cons hm4
    obtain ⟨f, r6, rfl, hm6⟩ := len_cons hm5
    obtain ⟨g, r7, rfl, hm7⟩ := len_cons hm6
    obtain ⟨h, r8, rfl, hm8⟩ := len_cons hm7
    have hz := List.eq_nil_of_length_eq_zero hm8
    subst hz
    have ha : (Sq04Neutral.natural a 64 && (Sq04Neutral.natural b 64 && (Sq04Neutral.natural c 64 && (Sq04Neutral.natural d 64 && (Sq04Neutral.natural e 64 && (Sq04Neutral.natural f 64 && (Sq04Neutral.natural g 64 && (Sq04Neutral.natural h 64)))))))) = true := ha
    simp only [Bool.and_eq_true] at ha
    obtain ⟨q1, q2, q3, q4, q5, q6, q7, q8⟩ := ha
    obtain ⟨a, rfl⟩ := nat_of q1
    obtain ⟨b, rfl⟩ := nat_of q2
    obtain ⟨c, rfl⟩ := nat_of q3
    obtain ⟨d, rfl⟩ := nat_of q4
    obtain ⟨e, rfl⟩ := nat_of q5
    obtain ⟨f, rfl⟩ := nat_of q6
    obtain ⟨g, rfl⟩ := nat_of q7
    obtain ⟨h, rfl⟩ := nat_of q8
    refine ⟨_, .group a b c d e f g h, step_of (callIn_of (uns_all ?_) fun b hb => by rw [hb]; rfl)⟩
    intro z hz
    simp only [List.mem_cons, List.not_mem_nil, or_false] at hz
    omega
  · skip
    obtain ⟨a, r1, rfl, hm1⟩ := len_cons hl
    obtain ⟨b, r2, rfl, hm2⟩ := len_cons hm1
    have hz := List.eq_nil_of_length_eq_zero hm2
    subst hz
    have ha : (Sq04Neutral.natural a 64 && Sq04Neutral.natural b 64) = true := ha
    simp only [Bool.and_eq_true] at ha
    obtain ⟨a, rfl⟩ := nat_of ha.1
    obtain ⟨b, rfl⟩ := nat_of ha.2
    refine ⟨_, .away a b, step_of (callIn_of (uns_all ?_) fun b hb => by rw [hb]; rfl)⟩
    intro z hz
    simp only [List.mem_cons, List.not_mem_nil, or_false] at hz
    omega
  · skip
    obtain ⟨a, r1, rfl, hm1⟩ := len_cons hl
    obtain ⟨b, r2, rfl, hm2⟩ := len_cons hm1
    obtain ⟨c, r3, rfl, hm3⟩ := len_cons hm2
    have hz := List.eq_nil_of_length_eq_zero hm3
    subst hz
    have ha : (Sq04Neutral.natural a 64 && (Sq04Neutral.natural b 64 && Sq04Neutral.natural c 64)) = true := ha
    simp only [Bool.and_eq_true] at ha
    obtain ⟨a, rfl⟩ := nat_of ha.1
    obtain ⟨b, rfl⟩ := nat_of ha.2.1
    obtain ⟨c, rfl⟩ := nat_of ha.2.2
    refine ⟨_, .member a b c, step_of (callIn_of (uns_all ?_) fun b hb => by rw [hb]; rfl)⟩
    intro z hz
    simp only [List.mem_cons, List.not_mem_nil, or_false] at hz
    omega
  · skip
    obtain ⟨a, r1, rfl, hm1⟩ := len_cons hl
    obtain ⟨b, r2, rfl, hm2⟩ := len_cons hm1
    have hz := List.eq_nil_of_length_eq_zero hm2
    subst hz
    have ha : (Sq04Neutral.natural a 64 && Sq04Neutral.natural b 64) = true := ha
    simp only [Bool.and_eq_true] at ha
    obtain ⟨a, rfl⟩ := nat_of ha.1
    obtain ⟨b, rfl⟩ := nat_of ha.2
    refine ⟨_, .alone a b, step_of (callIn_of (uns_all ?_) fun b hb => by rw [hb]; rfl)⟩
    intro z hz
    simp only [List.mem_cons, List.not_mem_nil, or_false] at hz
    omega
  · skip
    obtain ⟨a, r1, rfl, hm1⟩ := len_cons hl
    obtain ⟨b, r2, rfl, hm2⟩ := len_cons hm1
    have hz := List.eq_nil_of_length_eq_zero hm2
    subst hz
    have ha : (Sq04Neutral.natural a 64 && Sq04Neutral.natural b 64) = true := ha
    simp only [Bool.and_eq_true] at ha
    obtain ⟨a, rfl⟩ := nat_of ha.1
    obtain ⟨b, rfl⟩ := nat_of ha.2
    refine ⟨_, .on a b, step_of (callIn_of (uns_all ?_) fun b hb => by rw [hb]; rfl)⟩
    intro z hz
    simp only [List.mem_cons, List.not_mem_nil, or_false] at hz
    omega
  · skip
    obtain ⟨a, r1, rfl, hm1⟩ := len_cons hl
    obtain ⟨b, r2, rfl, hm2⟩ := len_cons hm1
    have hz := List.eq_nil_of_length_eq_zero hm2
    subst hz
    have ha : (Sq04Neutral.natural a 64 && Sq04Neutral.natural b 64) = true := ha
    simp only [Bool.and_eq_true] at ha
    obtain ⟨a, rfl⟩ := nat_of ha.1
    obtain ⟨b, rfl⟩ := nat_of ha.2
    refine ⟨_, .off a b, step_of (callIn_of (uns_all ?_) fun b hb => by rw [hb]; rfl)⟩
    intro z hz
    simp only [List.mem_cons, List.not_mem_nil, or_false] at hz
    omega
  · skip
    obtain ⟨a, r1, rfl, hm1⟩ := len_cons hl
    obtain ⟨b, r2, rfl, hm2⟩ := len_cons hm1
    obtain ⟨c, r3, rfl, hm3⟩ := len_cons hm2
    have hz := List.eq_nil_of_length_eq_zero hm3
    subst hz
    have ha : (Sq04Neutral.natural a 64 && (Sq04Neutral.natural b 64 && Sq04Neutral.natural c 64)) = true := ha
    simp only [Bool.and_eq_true] at ha
    obtain ⟨a, rfl⟩ := nat_of ha.1
    obtain ⟨b, rfl⟩ := nat_of ha.2.1
    obtain ⟨c, rfl⟩ := nat_of ha.2.2
    refine ⟨_, .quick a b c, step_of (callIn_of (uns_all ?_) fun b hb => by rw [hb]; rfl)⟩
    intro z hz
    simp only [List.mem_cons, List.not_mem_nil, or_false] at hz
    omega
  · skip
    obtain ⟨a, r1, rfl, hm1⟩ := len_cons hl
    have hz := List.eq_nil_of_length_eq_zero hm1
    subst hz
    obtain ⟨a, rfl⟩ := nat_of (show Sq04Neutral.natural a 64 = true from ha)
    refine ⟨_, .time a, step_of (callIn_of (uns_all ?_) fun b hb => by rw [hb]; rfl)⟩
    intro z hz
    simp only [List.mem_cons, List.not_mem_nil, or_false] at hz
    omega
  · skip
    rw [List.eq_nil_of_length_eq_zero hl]
    exact ⟨_, .next, fun s => rfl⟩
  · skip
    obtain ⟨a, r1, rfl, hm1⟩ := len_cons hl
    have hz := List.eq_nil_of_length_eq_zero hm1
    subst hz
    obtain ⟨a, rfl⟩ := nat_of (show Sq04Neutral.natural a 64 = true from ha)
    refine ⟨_, .look a, step_of (callIn_of (uns_all ?_) fun b hb => by rw [hb]; rfl)⟩
    intro z hz
    simp only [List.mem_cons, List.not_mem_nil, or_false] at hz
    omega
  · skip
    obtain ⟨a, r1, rfl, hm1⟩ := len_cons hl
    have hz := List.eq_nil_of_length_eq_zero hm1
    subst hz
    obtain ⟨a, rfl⟩ := nat_of (show Sq04Neutral.natural a 64 = true from ha)
    refine ⟨_, .of_ a, step_of (callIn_of (uns_all ?_) fun b hb => by rw [hb]; rfl)⟩
    intro z hz
    simp only [List.mem_cons, List.not_mem_nil, or_false] at hz
    omega
theorem whole_of {k : Int} {n : Nat} {args : List Int} (hs : PySq04.shape k = some (n, 0)) (hl : args.length = n) : PySq04.whole [k :: args] = [k :: args] := by
  cases (shape_cases hs).2
  · have hz := List.eq_nil_of_length_eq_zero hl
    subst hz
    rfl
  · obtain ⟨a0, r0, rfl, hm0⟩ := len_cons hl
    obtain ⟨a1, r1, rfl, hm1⟩ := len_cons hm0
    obtain ⟨a2, r2, rfl, hm2⟩ := len_cons hm1
    obtain ⟨a3, r3, rfl, hm3⟩ := len_cons hm2
    obtain ⟨a4, r4, rfl, hm4⟩ := len_cons hm3
    obtain ⟨a5, r5, rfl, hm5⟩ := len_cons hm4
    obtain ⟨a6, r6, rfl, hm6⟩ := len_cons hm5
    obtain ⟨a7, r7, rfl, hm7⟩ := len_cons hm6
    have hz := List.eq_nil_of_length_eq_zero hm7
    subst hz
    rfl
  · obtain ⟨a0, r0, rfl, hm0⟩ := len_cons hl
    obtain ⟨a1, r1, rfl, hm1⟩ := len_cons hm0
    have hz := List.eq_nil_of_length_eq_zero hm1
    subst hz
    rfl
  · obtain ⟨a0, r0, rfl, hm0⟩ := len_cons hl
    obtain ⟨a1, r1, rfl, hm1⟩ := len_cons hm0
    obtain ⟨a2, r2, rfl, hm2⟩ := len_cons hm1
    have hz := List.eq_nil_of_length_eq_zero hm2
    subst hz
    rfl
  · obtain ⟨a0, r0, rfl, hm0⟩ := len_cons hl
    obtain ⟨a1, r1, rfl, hm1⟩ := len_cons hm0
    have hz := List.eq_nil_of_length_eq_zero hm1
    subst hz
    rfl
  · obtain ⟨a0, r0, rfl, hm0⟩ := len_cons hl
    obtain ⟨a1, r1, rfl, hm1⟩ := len_cons hm0
    have hz := List.eq_nil_of_length_eq_zero hm1
    subst hz
    rfl
  · obtain ⟨a0, r0, rfl, hm0⟩ := len_cons hl
    obtain ⟨a1, r1, rfl, hm1⟩ := len_cons hm0
    have hz := List.eq_nil_of_length_eq_zero hm1
    subst hz
    rfl
  · obtain ⟨a0, r0, rfl, hm0⟩ := len_cons hl
    obtain ⟨a1, r1, rfl, hm1⟩ := len_cons hm0
    obtain ⟨a2, r2, rfl, hm2⟩ := len_cons hm1
    have hz := List.eq_nil_of_length_eq_zero hm2
    subst hz
    rfl
  · obtain ⟨a0, r0, rfl, hm0⟩ := len_cons hl
    have hz := List.eq_nil_of_length_eq_zero hm0
    subst hz
    rfl
  · have hz := List.eq_nil_of_length_eq_zero hl
    subst hz
    rfl
  · obtain ⟨a0, r0, rfl, hm0⟩ := len_cons hl
    have hz := List.eq_nil_of_length_eq_zero hm0
    subst hz
    rfl
  · obtain ⟨a0, r0, rfl, hm0⟩ := len_cons hl
    have hz := List.eq_nil_of_length_eq_zero hm0
    subst hz
    rfl
theorem calls_whole : ∀ (cs : List NCall) (f : Nat) (l : List Int), PyFlat.calls PySq04.shape f l = some cs → cs.map PySq04.whole = cs
  | [], _, _, _ => rfl
  | c :: cs, f, l, h => by
    cases l with
    | nil => cases f <;> cases h
    | cons p r =>
      obtain ⟨n, f', cs', h1, h2, h3, h4⟩ := calls_cons h
      obtain ⟨e1, e2⟩ := List.cons.inj h3
      subst e1
      subst e2
      rw [List.map_cons, whole_of h1 (by rw [List.length_take]; exact Nat.min_eq_left h2), calls_whole _ f' _ h4]
theorem asked_of {ns : List Int} (h : PySq04.answers_asked ns = true) : ∃ cs, PyFlat.calls PySq04.shape ns.length ns = some cs ∧ cs.length ≤ 300 ∧ (∀ c, c ∈ cs → Sq04Neutral.asked1 c = true) ∧ Sq04Neutral.outs Sq04Neutral.start cs < 1000000 ∧ PySq04.answers ns = toldOf cs := by
  unfold PySq04.answers_asked PySq04.calls at h
  cases e : PyFlat.calls PySq04.shape ns.length ns with
  | none => rw [e] at h; cases h
  | some cs =>
    rw [e] at h
    dsimp only at h
    rw [calls_whole _ _ _ e] at h
    unfold PyFlat.atMost Sq04Neutral.asked at h
    simp only [Bool.and_eq_true, decide_eq_true_eq, List.all_eq_true] at h
    refine ⟨cs, rfl, h.1, h.2.2.1, h.2.2.2, ?_⟩
    unfold PySq04.answers PySq04.calls toldOf
    rw [e]
    dsimp only
    rw [calls_whole _ _ _ e]
theorem calls_nil {f : Nat} {cs : List NCall} (h : PyFlat.calls PySq04.shape f [] = some cs) : cs = [] := by
  cases f with
  | zero => exact (Option.some.inj h).symm
  | succ f => exact (Option.some.inj h).symm
end RT
set_option Elab.async false
set_option linter.all false
set_option maxRecDepth 100000
set_option maxHeartbeats 2000000
namespace RP
open PySem PySem.Spec PyProof.Rows L2 RT
noncomputable def top (i : Nat) : Stmt := PySem.Challenge.pw_readtimes_s01_answers.main.body.getD i (.Pass ⟨0, 0, 0, 0⟩)
noncomputable abbrev s_Group_init : Stmt := inClass (top 1) 0
noncomputable abbrev s_Group_start_behind : Stmt := inClass (top 1) 1
noncomputable abbrev s_Group_turn_on : Stmt := inClass (top 1) 2
noncomputable abbrev s_Group_turn_off : Stmt := inClass (top 1) 3
noncomputable abbrev s_Group_take_missed : Stmt := inClass (top 1) 4
noncomputable abbrev s_Group_take_wanted : Stmt := inClass (top 1) 5
noncomputable abbrev s_count_readings : Stmt := top 2
noncomputable abbrev s_count_with_period : Stmt := top 3
noncomputable abbrev s_count_up_to : Stmt := top 4
noncomputable abbrev s_reading_times : Stmt := top 5
noncomputable abbrev s_times_with_period : Stmt := top 6
noncomputable abbrev s_next_reading : Stmt := top 7
noncomputable abbrev s_first_with_period : Stmt := top 8
noncomputable abbrev s_first_of_place : Stmt := top 9
noncomputable abbrev s_burst_place : Stmt := top 10
noncomputable abbrev s_is_group : Stmt := top 18
noncomputable abbrev s_is_channel : Stmt := top 19
noncomputable abbrev s_is_time : Stmt := top 20
noncomputable abbrev s_is_gap : Stmt := top 21
noncomputable abbrev s_are_settings : Stmt := top 22
noncomputable abbrev s_refuse_time : Stmt := top 28
noncomputable abbrev s_refuse_group : Stmt := top 29
noncomputable abbrev s_begin : Stmt := top 30
noncomputable abbrev s_set_group : Stmt := top 31
noncomputable abbrev s_send_away : Stmt := top 32
noncomputable abbrev s_make_member : Stmt := top 33
noncomputable abbrev s_make_alone : Stmt := top 34
noncomputable abbrev s_switch_on : Stmt := top 35
noncomputable abbrev s_switch_off : Stmt := top 36
noncomputable abbrev s_make_quick : Stmt := top 37
noncomputable abbrev s_pass_time : Stmt := top 38
noncomputable abbrev s_tell_next : Stmt := top 39
noncomputable abbrev s_look_at : Stmt := top 40
noncomputable abbrev s_tell_channels : Stmt := top 41
noncomputable abbrev s_Plan_init : Stmt := inClass (top 45) 0
noncomputable abbrev s_Plan_reset : Stmt := inClass (top 45) 1
noncomputable abbrev s_Plan_channels_of : Stmt := inClass (top 45) 2
noncomputable abbrev s_Plan_free_channel : Stmt := inClass (top 45) 3
noncomputable abbrev s_Plan_groups_on : Stmt := inClass (top 45) 4
noncomputable abbrev s_Plan_go_on : Stmt := inClass (top 45) 5
noncomputable abbrev s_Plan_tell : Stmt := inClass (top 45) 6
noncomputable abbrev s_answers : Stmt := top 59
noncomputable abbrev s_answer_call : Stmt := top 60
noncomputable abbrev s_answer_group : Stmt := top 61
noncomputable def tab_NUMBERS_BEHIND (i : Int) : Option Int := ([(1, 0), (2, 8), (3, 2), (4, 3), (5, 2), (6, 2), (7, 2), (8, 3), (9, 1), (10, 0), (11, 1), (12, 1)] : List (Int × Int)).lookup i
set_option genInjectivity false
set_option genSizeOf false
structure Adr where
  C_Group : Addr
  C_Plan : Addr
  f_Group_init : Addr
  d_Group_init : FuncData
  f_Group_start_behind : Addr
  d_Group_start_behind : FuncData
  f_Group_turn_on : Addr
  d_Group_turn_on : FuncData
  f_Group_turn_off : Addr
  d_Group_turn_off : FuncData
  f_Group_take_missed : Addr
  d_Group_take_missed : FuncData
  f_Group_take_wanted : Addr
  d_Group_take_wanted : FuncData
  f_count_readings : Addr
  d_count_readings : FuncData
  f_count_with_period : Addr
  d_count_with_period : FuncData
  f_count_up_to : Addr
  d_count_up_to : FuncData
  f_reading_times : Addr
  d_reading_times : FuncData
  f_times_with_period : Addr
  d_times_with_period : FuncData
  f_next_reading : Addr
  d_next_reading : FuncData
  f_first_with_period : Addr
  d_first_with_period : FuncData
  f_first_of_place : Addr
  d_first_of_place : FuncData
  f_burst_place : Addr
  d_burst_place : FuncData
  f_is_group : Addr
  d_is_group : FuncData
  f_is_channel : Addr
  d_is_channel : FuncData
  f_is_time : Addr
  d_is_time : FuncData
  f_is_gap : Addr
  d_is_gap : FuncData
  f_are_settings : Addr
  d_are_settings : FuncData
  f_refuse_time : Addr
  d_refuse_time : FuncData
  f_refuse_group : Addr
  d_refuse_group : FuncData
  f_begin : Addr
  d_begin : FuncData
  f_set_group : Addr
  d_set_group : FuncData
  f_send_away : Addr
  d_send_away : FuncData
  f_make_member : Addr
  d_make_member : FuncData
  f_make_alone : Addr
  d_make_alone : FuncData
  f_switch_on : Addr
  d_switch_on : FuncData
  f_switch_off : Addr
  d_switch_off : FuncData
  f_make_quick : Addr
  d_make_quick : FuncData
  f_pass_time : Addr
  d_pass_time : FuncData
  f_tell_next : Addr
  d_tell_next : FuncData
  f_look_at : Addr
  d_look_at : FuncData
  f_tell_channels : Addr
  d_tell_channels : FuncData
  f_Plan_init : Addr
  d_Plan_init : FuncData
  f_Plan_reset : Addr
  d_Plan_reset : FuncData
  f_Plan_channels_of : Addr
  d_Plan_channels_of : FuncData
  f_Plan_free_channel : Addr
  d_Plan_free_channel : FuncData
  f_Plan_groups_on : Addr
  d_Plan_groups_on : FuncData
  f_Plan_go_on : Addr
  d_Plan_go_on : FuncData
  f_Plan_tell : Addr
  d_Plan_tell : FuncData
  f_answers : Addr
  d_answers : FuncData
  f_answer_call : Addr
  d_answer_call : FuncData
  f_answer_group : Addr
  d_answer_group : FuncData
  k_LAST_GROUP : Tok
  k_LAST_CHANNEL : Tok
  k_LAST_TIME : Tok
  k_LEAST_PERIOD : Tok
  k_DAY : Tok
  k_MOST_READINGS : Tok
  k_NOT_REFUSED : Tok
  k_NOT_IN_RANGE : Tok
  k_NO_SUCH_GROUP : Tok
  k_TIME_BEFORE : Tok
  k_TOO_LATE : Tok
  k_TO_READ : Tok
  k_BEGIN : Tok
  k_GROUP : Tok
  k_AWAY : Tok
  k_MEMBER : Tok
  k_ALONE : Tok
  k_ON : Tok
  k_OFF : Tok
  k_QUICK : Tok
  k_TIME : Tok
  k_NEXT : Tok
  k_LOOK : Tok
  a_NUMBERS_BEHIND : Addr
structure FnT (K : PySem.W.Frag) (mg : Str → Option Value) (x : Str) (st : Stmt) (ps : List Str) (f : Addr) (fd : FuncData) : Prop where
  F : Fun K x x st f fd
  b : Binds K fd ps []
  m : mg x = some (.ref f)
structure MtT (K : PySem.W.Frag) (C : Addr) (x qual : Str) (st : Stmt) (ps : List Str) (f : Addr) (fd : FuncData) : Prop where
  F : Fun K x qual st f fd
  b : Binds K fd ps []
  m : Meth K C x f
structure InT (K : PySem.W.Frag) (qual : Str) (st : Stmt) (ps : List Str) (f : Addr) (fd : FuncData) : Prop where
  F : Fun K "__init__" qual st f fd
  b : Binds K fd ps []
structure Txt (K : PySem.W.Frag) (mg : Str → Option Value) (A : Adr) : Prop where
  c_Group : Cls K A.C_Group
  g_Group : mg "Group" = some (.ref A.C_Group)
  mk_Group : Mk K A.C_Group A.f_Group_init
  n_Group_period : NoAttr K A.C_Group "period"
  n_Group_quick : NoAttr K A.C_Group "quick"
  n_Group_phase : NoAttr K A.C_Group "phase"
  n_Group_burst : NoAttr K A.C_Group "burst"
  n_Group_gap : NoAttr K A.C_Group "gap"
  n_Group_slack : NoAttr K A.C_Group "slack"
  n_Group_wanted_in_all : NoAttr K A.C_Group "wanted_in_all"
  n_Group_missed_in_all : NoAttr K A.C_Group "missed_in_all"
  n_Group_active : NoAttr K A.C_Group "active"
  n_Group_since : NoAttr K A.C_Group "since"
  n_Group_till : NoAttr K A.C_Group "till"
  c_Plan : Cls K A.C_Plan
  g_Plan : mg "Plan" = some (.ref A.C_Plan)
  mk_Plan : Mk K A.C_Plan A.f_Plan_init
  n_Plan_now : NoAttr K A.C_Plan "now"
  n_Plan_groups : NoAttr K A.C_Plan "groups"
  n_Plan_owners : NoAttr K A.C_Plan "owners"
  n_Plan_since : NoAttr K A.C_Plan "since"
  Group_init : InT K "Group.__init__" s_Group_init ["self", "period", "quick", "phase", "burst", "gap", "slack", "now"] A.f_Group_init A.d_Group_init
  Group_start_behind : MtT K A.C_Group "start_behind" "Group.start_behind" s_Group_start_behind ["self", "now"] A.f_Group_start_behind A.d_Group_start_behind
  Group_turn_on : MtT K A.C_Group "turn_on" "Group.turn_on" s_Group_turn_on ["self", "now"] A.f_Group_turn_on A.d_Group_turn_on
  Group_turn_off : MtT K A.C_Group "turn_off" "Group.turn_off" s_Group_turn_off ["self"] A.f_Group_turn_off A.d_Group_turn_off
  Group_take_missed : MtT K A.C_Group "take_missed" "Group.take_missed" s_Group_take_missed ["self", "now"] A.f_Group_take_missed A.d_Group_take_missed
  Group_take_wanted : MtT K A.C_Group "take_wanted" "Group.take_wanted" s_Group_take_wanted ["self", "now"] A.f_Group_take_wanted A.d_Group_take_wanted
  count_readings : FnT K mg "count_readings" s_count_readings ["group", "first", "last"] A.f_count_readings A.d_count_readings
  count_with_period : FnT K mg "count_with_period" s_count_with_period ["group", "period", "first", "last"] A.f_count_with_period A.d_count_with_period
  count_up_to : FnT K mg "count_up_to" s_count_up_to ["group", "period", "last"] A.f_count_up_to A.d_count_up_to
  reading_times : FnT K mg "reading_times" s_reading_times ["group", "first", "last"] A.f_reading_times A.d_reading_times
  times_with_period : FnT K mg "times_with_period" s_times_with_period ["group", "period", "first", "last"] A.f_times_with_period A.d_times_with_period
  next_reading : FnT K mg "next_reading" s_next_reading ["group"] A.f_next_reading A.d_next_reading
  first_with_period : FnT K mg "first_with_period" s_first_with_period ["group", "period", "first"] A.f_first_with_period A.d_first_with_period
  first_of_place : FnT K mg "first_of_place" s_first_of_place ["group", "period", "place", "first"] A.f_first_of_place A.d_first_of_place
  burst_place : FnT K mg "burst_place" s_burst_place ["group", "place"] A.f_burst_place A.d_burst_place
  is_group : FnT K mg "is_group" s_is_group ["number"] A.f_is_group A.d_is_group
  is_channel : FnT K mg "is_channel" s_is_channel ["number"] A.f_is_channel A.d_is_channel
  is_time : FnT K mg "is_time" s_is_time ["number"] A.f_is_time A.d_is_time
  is_gap : FnT K mg "is_gap" s_is_gap ["gap", "burst", "quick"] A.f_is_gap A.d_is_gap
  are_settings : FnT K mg "are_settings" s_are_settings ["period", "quick", "phase", "burst", "gap", "slack"] A.f_are_settings A.d_are_settings
  refuse_time : FnT K mg "refuse_time" s_refuse_time ["plan", "now"] A.f_refuse_time A.d_refuse_time
  refuse_group : FnT K mg "refuse_group" s_refuse_group ["plan", "number", "now"] A.f_refuse_group A.d_refuse_group
  begin : FnT K mg "begin" s_begin ["plan"] A.f_begin A.d_begin
  set_group : FnT K mg "set_group" s_set_group ["plan", "number", "period", "quick", "phase", "burst", "gap", "slack", "now"] A.f_set_group A.d_set_group
  send_away : FnT K mg "send_away" s_send_away ["plan", "number", "now"] A.f_send_away A.d_send_away
  make_member : FnT K mg "make_member" s_make_member ["plan", "channel", "number", "now"] A.f_make_member A.d_make_member
  make_alone : FnT K mg "make_alone" s_make_alone ["plan", "channel", "now"] A.f_make_alone A.d_make_alone
  switch_on : FnT K mg "switch_on" s_switch_on ["plan", "number", "now"] A.f_switch_on A.d_switch_on
  switch_off : FnT K mg "switch_off" s_switch_off ["plan", "number", "now"] A.f_switch_off A.d_switch_off
  make_quick : FnT K mg "make_quick" s_make_quick ["plan", "number", "now", "till"] A.f_make_quick A.d_make_quick
  pass_time : FnT K mg "pass_time" s_pass_time ["plan", "now"] A.f_pass_time A.d_pass_time
  tell_next : FnT K mg "tell_next" s_tell_next ["plan"] A.f_tell_next A.d_tell_next
  look_at : FnT K mg "look_at" s_look_at ["plan", "number"] A.f_look_at A.d_look_at
  tell_channels : FnT K mg "tell_channels" s_tell_channels ["plan", "number"] A.f_tell_channels A.d_tell_channels
  Plan_init : InT K "Plan.__init__" s_Plan_init ["self"] A.f_Plan_init A.d_Plan_init
  Plan_reset : MtT K A.C_Plan "reset" "Plan.reset" s_Plan_reset ["self"] A.f_Plan_reset A.d_Plan_reset
  Plan_channels_of : MtT K A.C_Plan "channels_of" "Plan.channels_of" s_Plan_channels_of ["self", "number"] A.f_Plan_channels_of A.d_Plan_channels_of
  Plan_free_channel : MtT K A.C_Plan "free_channel" "Plan.free_channel" s_Plan_free_channel ["self", "channel"] A.f_Plan_free_channel A.d_Plan_free_channel
  Plan_groups_on : MtT K A.C_Plan "groups_on" "Plan.groups_on" s_Plan_groups_on ["self"] A.f_Plan_groups_on A.d_Plan_groups_on
  Plan_go_on : MtT K A.C_Plan "go_on" "Plan.go_on" s_Plan_go_on ["self", "now"] A.f_Plan_go_on A.d_Plan_go_on
  Plan_tell : MtT K A.C_Plan "tell" "Plan.tell" s_Plan_tell ["self", "late", "wanted"] A.f_Plan_tell A.d_Plan_tell
  answers : FnT K mg "answers" s_answers ["calls"] A.f_answers A.d_answers
  answer_call : FnT K mg "answer_call" s_answer_call ["plan", "call", "numbers"] A.f_answer_call A.d_answer_call
  answer_group : FnT K mg "answer_group" s_answer_group ["plan", "numbers"] A.f_answer_group A.d_answer_group
  g_LAST_GROUP : mg "LAST_GROUP" = some (.int (15) A.k_LAST_GROUP)
  g_LAST_CHANNEL : mg "LAST_CHANNEL" = some (.int (63) A.k_LAST_CHANNEL)
  g_LAST_TIME : mg "LAST_TIME" = some (.int (4611686018427387904) A.k_LAST_TIME)
  g_LEAST_PERIOD : mg "LEAST_PERIOD" = some (.int (1000) A.k_LEAST_PERIOD)
  g_DAY : mg "DAY" = some (.int (86400000000) A.k_DAY)
  g_MOST_READINGS : mg "MOST_READINGS" = some (.int (16) A.k_MOST_READINGS)
  g_NOT_REFUSED : mg "NOT_REFUSED" = some (.int (0) A.k_NOT_REFUSED)
  g_NOT_IN_RANGE : mg "NOT_IN_RANGE" = some (.int (-1) A.k_NOT_IN_RANGE)
  g_NO_SUCH_GROUP : mg "NO_SUCH_GROUP" = some (.int (-2) A.k_NO_SUCH_GROUP)
  g_TIME_BEFORE : mg "TIME_BEFORE" = some (.int (-4) A.k_TIME_BEFORE)
  g_TOO_LATE : mg "TOO_LATE" = some (.int (1) A.k_TOO_LATE)
  g_TO_READ : mg "TO_READ" = some (.int (2) A.k_TO_READ)
  g_BEGIN : mg "BEGIN" = some (.int (1) A.k_BEGIN)
  g_GROUP : mg "GROUP" = some (.int (2) A.k_GROUP)
  g_AWAY : mg "AWAY" = some (.int (3) A.k_AWAY)
  g_MEMBER : mg "MEMBER" = some (.int (4) A.k_MEMBER)
  g_ALONE : mg "ALONE" = some (.int (5) A.k_ALONE)
  g_ON : mg "ON" = some (.int (6) A.k_ON)
  g_OFF : mg "OFF" = some (.int (7) A.k_OFF)
  g_QUICK : mg "QUICK" = some (.int (8) A.k_QUICK)
  g_TIME : mg "TIME" = some (.int (9) A.k_TIME)
  g_NEXT : mg "NEXT" = some (.int (10) A.k_NEXT)
  g_LOOK : mg "LOOK" = some (.int (11) A.k_LOOK)
  g_NUMBERS_BEHIND : mg "NUMBERS_BEHIND" = some (.ref A.a_NUMBERS_BEHIND)
  gd_NUMBERS_BEHIND : GD K A.a_NUMBERS_BEHIND tab_NUMBERS_BEHIND
  b_range : mg "range" = none
  b_min : mg "min" = none
  b_max : mg "max" = none
  b_len : mg "len" = none
  b_sorted : mg "sorted" = none
theorem sc_Group_init : FnScope ["self", "period", "quick", "phase", "burst", "gap", "slack", "now"] ["self", "period", "quick", "phase", "burst", "gap", "slack", "now"] (defScope s_Group_init) := ⟨rfl, rfl, rfl, by decide +kernel, rfl, by decide +kernel, by decide +kernel⟩
theorem sc_Group_start_behind : FnScope ["self", "now"] ["self", "now"] (defScope s_Group_start_behind) := ⟨rfl, rfl, rfl, by decide +kernel, rfl, by decide +kernel, by decide +kernel⟩
theorem sc_Group_turn_on : FnScope ["self", "now"] ["self", "now"] (defScope s_Group_turn_on) := ⟨rfl, rfl, rfl, by decide +kernel, rfl, by decide +kernel, by decide +kernel⟩
theorem sc_Group_turn_off : FnScope ["self"] ["self"] (defScope s_Group_turn_off) := ⟨rfl, rfl, rfl, by decide +kernel, rfl, by decide +kernel, by decide +kernel⟩
theorem sc_Group_take_missed : FnScope ["self", "now", "missed"] ["self", "now"] (defScope s_Group_take_missed) := ⟨rfl, rfl, rfl, by decide +kernel, rfl, by decide +kernel, by decide +kernel⟩
theorem sc_Group_take_wanted : FnScope ["self", "now", "wanted"] ["self", "now"] (defScope s_Group_take_wanted) := ⟨rfl, rfl, rfl, by decide +kernel, rfl, by decide +kernel, by decide +kernel⟩
theorem sc_count_readings : FnScope ["group", "first", "last", "quick", "usual"] ["group", "first", "last"] (defScope s_count_readings) := ⟨rfl, rfl, rfl, by decide +kernel, rfl, by decide +kernel, by decide +kernel⟩
theorem sc_count_with_period : FnScope ["group", "period", "first", "last"] ["group", "period", "first", "last"] (defScope s_count_with_period) := ⟨rfl, rfl, rfl, by decide +kernel, rfl, by decide +kernel, by decide +kernel⟩
theorem sc_count_up_to : FnScope ["group", "period", "last", "count", "place", "passed"] ["group", "period", "last"] (defScope s_count_up_to) := ⟨rfl, rfl, rfl, by decide +kernel, rfl, by decide +kernel, by decide +kernel⟩
theorem sc_reading_times : FnScope ["group", "first", "last", "quick", "usual"] ["group", "first", "last"] (defScope s_reading_times) := ⟨rfl, rfl, rfl, by decide +kernel, rfl, by decide +kernel, by decide +kernel⟩
theorem sc_times_with_period : FnScope ["group", "period", "first", "last", "times", "place", "at"] ["group", "period", "first", "last"] (defScope s_times_with_period) := ⟨rfl, rfl, rfl, by decide +kernel, rfl, by decide +kernel, by decide +kernel⟩
theorem sc_next_reading : FnScope ["group", "quick"] ["group"] (defScope s_next_reading) := ⟨rfl, rfl, rfl, by decide +kernel, rfl, by decide +kernel, by decide +kernel⟩
theorem sc_first_with_period : FnScope ["group", "period", "first", "place"] ["group", "period", "first"] (defScope s_first_with_period) := ⟨rfl, rfl, rfl, by decide +kernel, rfl, by decide +kernel, by decide +kernel⟩
theorem sc_first_of_place : FnScope ["group", "period", "place", "first", "start", "steps"] ["group", "period", "place", "first"] (defScope s_first_of_place) := ⟨rfl, rfl, rfl, by decide +kernel, rfl, by decide +kernel, by decide +kernel⟩
theorem sc_burst_place : FnScope ["group", "place"] ["group", "place"] (defScope s_burst_place) := ⟨rfl, rfl, rfl, by decide +kernel, rfl, by decide +kernel, by decide +kernel⟩
theorem sc_is_group : FnScope ["number"] ["number"] (defScope s_is_group) := ⟨rfl, rfl, rfl, by decide +kernel, rfl, by decide +kernel, by decide +kernel⟩
theorem sc_is_channel : FnScope ["number"] ["number"] (defScope s_is_channel) := ⟨rfl, rfl, rfl, by decide +kernel, rfl, by decide +kernel, by decide +kernel⟩
theorem sc_is_time : FnScope ["number"] ["number"] (defScope s_is_time) := ⟨rfl, rfl, rfl, by decide +kernel, rfl, by decide +kernel, by decide +kernel⟩
theorem sc_is_gap : FnScope ["gap", "burst", "quick"] ["gap", "burst", "quick"] (defScope s_is_gap) := ⟨rfl, rfl, rfl, by decide +kernel, rfl, by decide +kernel, by decide +kernel⟩
theorem sc_are_settings : FnScope ["period", "quick", "phase", "burst", "gap", "slack"] ["period", "quick", "phase", "burst", "gap", "slack"] (defScope s_are_settings) := ⟨rfl, rfl, rfl, by decide +kernel, rfl, by decide +kernel, by decide +kernel⟩
theorem sc_refuse_time : FnScope ["plan", "now"] ["plan", "now"] (defScope s_refuse_time) := ⟨rfl, rfl, rfl, by decide +kernel, rfl, by decide +kernel, by decide +kernel⟩
theorem sc_refuse_group : FnScope ["plan", "number", "now"] ["plan", "number", "now"] (defScope s_refuse_group) := ⟨rfl, rfl, rfl, by decide +kernel, rfl, by decide +kernel, by decide +kernel⟩
theorem sc_begin : FnScope ["plan"] ["plan"] (defScope s_begin) := ⟨rfl, rfl, rfl, by decide +kernel, rfl, by decide +kernel, by decide +kernel⟩
theorem sc_set_group : FnScope ["plan", "number", "period", "quick", "phase", "burst", "gap", "slack", "now", "refusal", "told"] ["plan", "number", "period", "quick", "phase", "burst", "gap", "slack", "now"] (defScope s_set_group) := ⟨rfl, rfl, rfl, by decide +kernel, rfl, by decide +kernel, by decide +kernel⟩
theorem sc_send_away : FnScope ["plan", "number", "now", "refusal", "told", "channel"] ["plan", "number", "now"] (defScope s_send_away) := ⟨rfl, rfl, rfl, by decide +kernel, rfl, by decide +kernel, by decide +kernel⟩
theorem sc_make_member : FnScope ["plan", "channel", "number", "now", "refusal", "told"] ["plan", "channel", "number", "now"] (defScope s_make_member) := ⟨rfl, rfl, rfl, by decide +kernel, rfl, by decide +kernel, by decide +kernel⟩
theorem sc_make_alone : FnScope ["plan", "channel", "now", "refusal", "told"] ["plan", "channel", "now"] (defScope s_make_alone) := ⟨rfl, rfl, rfl, by decide +kernel, rfl, by decide +kernel, by decide +kernel⟩
theorem sc_switch_on : FnScope ["plan", "number", "now", "refusal", "told", "group"] ["plan", "number", "now"] (defScope s_switch_on) := ⟨rfl, rfl, rfl, by decide +kernel, rfl, by decide +kernel, by decide +kernel⟩
theorem sc_switch_off : FnScope ["plan", "number", "now", "refusal", "told", "group"] ["plan", "number", "now"] (defScope s_switch_off) := ⟨rfl, rfl, rfl, by decide +kernel, rfl, by decide +kernel, by decide +kernel⟩
theorem sc_make_quick : FnScope ["plan", "number", "now", "till", "refusal", "told", "group"] ["plan", "number", "now", "till"] (defScope s_make_quick) := ⟨rfl, rfl, rfl, by decide +kernel, rfl, by decide +kernel, by decide +kernel⟩
theorem sc_pass_time : FnScope ["plan", "now", "refusal"] ["plan", "now"] (defScope s_pass_time) := ⟨rfl, rfl, rfl, by decide +kernel, rfl, by decide +kernel, by decide +kernel⟩
theorem sc_tell_next : FnScope ["plan", "times", "group"] ["plan"] (defScope s_tell_next) := ⟨rfl, rfl, rfl, by decide +kernel, rfl, by decide +kernel, by decide +kernel⟩
theorem sc_look_at : FnScope ["plan", "number", "group", "active"] ["plan", "number"] (defScope s_look_at) := ⟨rfl, rfl, rfl, by decide +kernel, rfl, by decide +kernel, by decide +kernel⟩
theorem sc_tell_channels : FnScope ["plan", "number", "channels"] ["plan", "number"] (defScope s_tell_channels) := ⟨rfl, rfl, rfl, by decide +kernel, rfl, by decide +kernel, by decide +kernel⟩
theorem sc_Plan_init : FnScope ["self"] ["self"] (defScope s_Plan_init) := ⟨rfl, rfl, rfl, by decide +kernel, rfl, by decide +kernel, by decide +kernel⟩
theorem sc_Plan_reset : FnScope ["self"] ["self"] (defScope s_Plan_reset) := ⟨rfl, rfl, rfl, by decide +kernel, rfl, by decide +kernel, by decide +kernel⟩
theorem sc_Plan_channels_of : FnScope ["self", "number", "channel"] ["self", "number"] (defScope s_Plan_channels_of) := ⟨rfl, rfl, rfl, by decide +kernel, rfl, by decide +kernel, by decide +kernel⟩
theorem sc_Plan_free_channel : FnScope ["self", "channel"] ["self", "channel"] (defScope s_Plan_free_channel) := ⟨rfl, rfl, rfl, by decide +kernel, rfl, by decide +kernel, by decide +kernel⟩
theorem sc_Plan_groups_on : FnScope ["self", "number"] ["self"] (defScope s_Plan_groups_on) := ⟨rfl, rfl, rfl, by decide +kernel, rfl, by decide +kernel, by decide +kernel⟩
theorem sc_Plan_go_on : FnScope ["self", "now", "late", "wanted", "number", "group", "at", "pair"] ["self", "now"] (defScope s_Plan_go_on) := ⟨rfl, rfl, rfl, by decide +kernel, rfl, by decide +kernel, by decide +kernel⟩
theorem sc_Plan_tell : FnScope ["self", "late", "wanted", "told", "pair", "channels"] ["self", "late", "wanted"] (defScope s_Plan_tell) := ⟨rfl, rfl, rfl, by decide +kernel, rfl, by decide +kernel, by decide +kernel⟩
theorem sc_answers : FnScope ["calls", "plan", "told", "place", "first", "behind", "answer"] ["calls"] (defScope s_answers) := ⟨rfl, rfl, rfl, by decide +kernel, rfl, by decide +kernel, by decide +kernel⟩
theorem sc_answer_call : FnScope ["plan", "call", "numbers"] ["plan", "call", "numbers"] (defScope s_answer_call) := ⟨rfl, rfl, rfl, by decide +kernel, rfl, by decide +kernel, by decide +kernel⟩
theorem sc_answer_group : FnScope ["plan", "numbers"] ["plan", "numbers"] (defScope s_answer_group) := ⟨rfl, rfl, rfl, by decide +kernel, rfl, by decide +kernel, by decide +kernel⟩
end RP
set_option Elab.async false
set_option linter.all false
set_option maxRecDepth 100000
set_option maxHeartbeats 2000000
namespace RP
open PySem PySem.Spec PyProof.Rows L2 RT
noncomputable def gN : List Str := ["period", "quick", "phase", "burst", "gap", "slack", "wanted_in_all", "missed_in_all", "active", "since", "till"]
noncomputable def gV (g : Sq04.Group) : List V := [.int (g.set.period : Int), .int (g.set.quick : Int), .int (g.set.phase : Int), .int (g.set.burst : Int), .int (g.set.gap : Int), .int (g.set.slack : Int), .int (g.wanted : Int), .int (g.missed : Int), .bl g.on, .int (g.from_ : Int), .int (g.till : Int)]
noncomputable def gfs (g : Sq04.Group) : List (Str × V) := gN.zip (gV g)
theorem gN_nd : gN.Nodup := by decide +kernel
theorem g_period (g : Sq04.Group) : (gfs g).lookup ("period" : Str) = some (V.int (g.set.period : Int)) := zip_lk (i := 0) gN_nd rfl rfl
theorem g_quick (g : Sq04.Group) : (gfs g).lookup ("quick" : Str) = some (V.int (g.set.quick : Int)) := zip_lk (i := 1) gN_nd rfl rfl
theorem g_phase (g : Sq04.Group) : (gfs g).lookup ("phase" : Str) = some (V.int (g.set.phase : Int)) := zip_lk (i := 2) gN_nd rfl rfl
theorem g_burst (g : Sq04.Group) : (gfs g).lookup ("burst" : Str) = some (V.int (g.set.burst : Int)) := zip_lk (i := 3) gN_nd rfl rfl
theorem g_gap (g : Sq04.Group) : (gfs g).lookup ("gap" : Str) = some (V.int (g.set.gap : Int)) := zip_lk (i := 4) gN_nd rfl rfl
theorem g_slack (g : Sq04.Group) : (gfs g).lookup ("slack" : Str) = some (V.int (g.set.slack : Int)) := zip_lk (i := 5) gN_nd rfl rfl
theorem g_wanted_in_all (g : Sq04.Group) : (gfs g).lookup ("wanted_in_all" : Str) = some (V.int (g.wanted : Int)) := zip_lk (i := 6) gN_nd rfl rfl
theorem g_missed_in_all (g : Sq04.Group) : (gfs g).lookup ("missed_in_all" : Str) = some (V.int (g.missed : Int)) := zip_lk (i := 7) gN_nd rfl rfl
theorem g_active (g : Sq04.Group) : (gfs g).lookup ("active" : Str) = some (V.bl g.on) := zip_lk (i := 8) gN_nd rfl rfl
theorem g_since (g : Sq04.Group) : (gfs g).lookup ("since" : Str) = some (V.int (g.from_ : Int)) := zip_lk (i := 9) gN_nd rfl rfl
theorem g_till (g : Sq04.Group) : (gfs g).lookup ("till" : Str) = some (V.int (g.till : Int)) := zip_lk (i := 10) gN_nd rfl rfl
theorem g_no (g : Sq04.Group) {m : Str} (h : m ∉ gN) : (gfs g).lookup m = none := zip_no h
theorem g_put_wanted_in_all (g : Sq04.Group) (z : Nat) : putF "wanted_in_all" (.int (z : Int)) (gfs g) = gfs { g with wanted := z } := zip_put (i := 6) gN_nd rfl (by show 6 < 11; decide)
theorem g_put_missed_in_all (g : Sq04.Group) (z : Nat) : putF "missed_in_all" (.int (z : Int)) (gfs g) = gfs { g with missed := z } := zip_put (i := 7) gN_nd rfl (by show 7 < 11; decide)
theorem g_put_active (g : Sq04.Group) (z : Bool) : putF "active" (.bl z) (gfs g) = gfs { g with on := z } := zip_put (i := 8) gN_nd rfl (by show 8 < 11; decide)
theorem g_put_since (g : Sq04.Group) (z : Nat) : putF "since" (.int (z : Int)) (gfs g) = gfs { g with from_ := z } := zip_put (i := 9) gN_nd rfl (by show 9 < 11; decide)
theorem g_put_till (g : Sq04.Group) (z : Nat) : putF "till" (.int (z : Int)) (gfs g) = gfs { g with till := z } := zip_put (i := 10) gN_nd rfl (by show 10 < 11; decide)
noncomputable def GrpAt (C : Addr) (H : Hp) (a : Addr) (g : Sq04.Group) : Prop := ∃ dx, H a = some (.ins C dx (gfs g))
theorem GrpAt.same {C : Addr} {H H' : Hp} {a : Addr} {g : Sq04.Group} (h : GrpAt C H a g) (s : Same H H') : GrpAt C H' a g := let ⟨dx, e⟩ := h; ⟨dx, s _ _ e⟩
theorem take_snoc' {α : Type} : ∀ {l : List α} {i : Nat} {x : α}, l[i]? = some x → l.take (i + 1) = l.take i ++ [x]
  | [], i, x, h => by simp at h
  | a :: l, 0, x, h => by
    have e : a = x := Option.some.inj h
    subst e
    rfl
  | a :: l, i + 1, x, h => by
    have ih := take_snoc' (l := l) (i := i) (x := x) h
    show a :: l.take (i + 1) = a :: l.take i ++ [x]
    rw [ih]
    rfl
theorem not_take {α : Type} {l : List α} (nd : l.Nodup) {i : Nat} {c : α} (h : l[i]? = some c) : c ∉ l.take i := by
  intro m
  obtain ⟨j, hj, e⟩ := List.mem_iff_getElem.mp m
  have hj' : j < i ∧ j < l.length := by
    rw [List.length_take] at hj
    omega
  rw [List.getElem_take] at e
  have := nd_ix nd (List.getElem?_eq_some_iff.mpr ⟨hj'.2, e⟩) h
  omega
theorem cast_max {a b : Nat} : ((max a b : Nat) : Int) = max (a : Int) (b : Int) := by omega
theorem cast_min {a b : Nat} (h : 1 ≤ b) : ((min a (b - 1) : Nat) : Int) = min (a : Int) ((b : Int) - 1) := by omega
theorem cast_max_sub {a b c : Nat} : ((max a (b - c) : Nat) : Int) = max (a : Int) ((b : Int) - (c : Int)) := by omega
section
variable {P : Program} {w : World} {K : PySem.W.Frag} {mg : Str → Option Value} {base : Heap} {A : Adr}
noncomputable def sp_burst_place (C : Addr) : Sp := fun vs H Q _ => ∃ (a : Addr) (g : Sq04.Group) (j : Nat), vs = [.ref a, .int (j : Int)] ∧ GrpAt C H a g ∧ j < 1000 ∧ Q (.int ((g.set.phase + j * g.set.gap : Nat) : Int)) H
theorem ok_burst_place (T : Txt K mg A) : FnOk P w K mg base CX0 1 A.f_burst_place A.d_burst_place ["group", "place"] (sp_burst_place A.C_Group) := by
  refine T.burst_place.F.ok sc_burst_place (fun vs H Q E h => ?_) (fun cdv A' outer s H vs Q E hr h => ?_)
  · obtain ⟨a, g, j, rfl, _⟩ := h
    rfl
  · obtain ⟨a, g, j, rfl, ⟨dx, hg⟩, hj, q⟩ := h
    refine ⟨_, (pss_one (ps_ret (pe_op op_add (pe_fld (pv 0) rfl) (pe_op op_mul (pv 1) (pe_fld (pv 0) rfl))))), ?_⟩
    refine ev_0 (ev_fld (ev_var) hg T.c_Group T.n_Group_phase (g_phase _)) (ev_1 (ev_var) (ev_fld (ev_var) hg T.c_Group T.n_Group_gap (g_gap _)) (.inl ⟨by omega, by omega⟩)) _ ?_
    show Q (.int _) H
    rw [show ((g.set.phase : Int) + (j : Int) * (g.set.gap : Int)) = ((g.set.phase + j * g.set.gap : Nat) : Int) by rw [Int.natCast_add, Int.natCast_mul]]
    exact q
noncomputable def sp_count_up_to (C : Addr) : Sp := fun vs H Q _ => ∃ (a : Addr) (g : Sq04.Group) (p last : Nat), vs = [.ref a, .int (p : Int), .int (last : Int)] ∧ GrpAt C H a g ∧ g.set.burst ≤ 16 ∧ 0 < p ∧ p < 18446744073709551616 ∧
  Q (.int (cntUp g.set p last g.set.burst : Nat)) H
theorem cnt_step {s : Sq04.Set} {p last i : Nat} (h : s.phase + i * s.gap ≤ last) : ((cntUp s p last i : Nat) : Int) + (((last : Int) - ((s.phase + i * s.gap : Nat) : Int)) / (p : Int) + 1) = ((cntUp s p last (i + 1) : Nat) : Int) := by
  show _ = ((cntUp s p last i + (if s.phase + i * s.gap ≤ last then (last - (s.phase + i * s.gap)) / p + 1 else 0) : Nat) : Int)
  rw [if_pos h, ← Int.ofNat_sub h, ← Int.natCast_ediv]
  omega
theorem cnt_skip {s : Sq04.Set} {p last i : Nat} (h : ¬ s.phase + i * s.gap ≤ last) : cntUp s p last i = cntUp s p last (i + 1) := by
  show _ = cntUp s p last i + (if s.phase + i * s.gap ≤ last then (last - (s.phase + i * s.gap)) / p + 1 else 0)
  rw [if_neg h]; rfl
theorem ok_count_up_to (T : Txt K mg A) : FnOk P w K mg base CX0 2 A.f_count_up_to A.d_count_up_to ["group", "period", "last"] (sp_count_up_to A.C_Group) := by
  refine T.count_up_to.F.ok sc_count_up_to (fun vs H Q E h => ?_) (fun cdv A' outer s H vs Q E hr h => ?_)
  · obtain ⟨a, g, p, last, rfl, _⟩ := h
    rfl
  · obtain ⟨a, g, p, last, rfl, ⟨dx, hg⟩, hb, hp, hp2, q⟩ := h
    refine ⟨_, (pss_cons (ps_set (i := 3) sc_count_up_to.nd rfl (Or.inl rfl) pe_int)
      (pss_cons (ps_for PassesOwn.never rfl (pi_range1 rfl T.b_range (pa_cons (pe_fld (pv 0) rfl) pa_nil)) (pg_name (i := 4) sc_count_up_to.nd rfl (Or.inl rfl))
        (pss_cons (ps_set (i := 5) sc_count_up_to.nd rfl (Or.inl rfl) (pe_op op_sub (pv 2) (pe_call (ok_burst_place T) (hr.mono (by decide)) rfl T.burst_place.m T.burst_place.F.kp T.burst_place.b .nil pass0 (pa_cons (pv 0) (pa_cons (pv 4) pa_nil)))))
      (pss_one (ps_if (pt_cmpR op_ge (pv 5) pe_int (nomark _)) (pss_one (ps_aug (i := 3) sc_count_up_to.nd rfl (Or.inl rfl) (pe_op op_add (pe_op op_fdivW (pv 5) (pv 1)) pe_int) ip_add)) pss_nil))))
      (pss_one (ps_ret (pv 3))))), ?_⟩
    refine rd_seq (rd_set ev_c (rd_seq (rd_range (n := g.set.burst) (ea_cons (ev_fld ev_var hg T.c_Group T.n_Group_burst (g_burst _)) ea_nil) (by omega)
      (fun i σ H' => H' = H ∧ ∃ v4 v5, σ = [some (.ref a), some (.int (p : Int)), some (.int (last : Int)), some (.int (cntUp g.set p last i : Nat)), v4, v5]) ⟨rfl, none, none, rfl⟩ ?_ ?_)))
    · rintro i σ H' hi ⟨rfl, v4, v5, rfl⟩
      refine rd_name (rd_seq (rd_set (ev_0 ev_var (ev_call (v := .int ((g.set.phase + i * g.set.gap : Nat) : Int)) (ea_cons ev_var (ea_cons ev_var ea_nil)) (fun Q q => ⟨a, g, i, rfl, ⟨dx, hg⟩, by omega, q⟩))) ?_))
      dsimp only
      refine if_of (et_t (ev_0 ev_var ev_c)) (fun h0 => ?_) (fun h0 => ?_)
      · have h1 : g.set.phase + i * g.set.gap ≤ last := by
          have := of_decide_eq_true h0
          omega
        exact rd_aug rfl (ev_0 (ev_1 ev_var ev_var ⟨by omega, by omega⟩) ev_c) ⟨rfl, _, _, by rw [← cnt_step h1]; rfl⟩
      · have h1 : ¬ g.set.phase + i * g.set.gap ≤ last := by
          have := of_decide_eq_false h0
          omega
        exact ⟨rfl, _, _, by rw [← cnt_skip h1]; rfl⟩
    · rintro σ H' ⟨rfl, v4, v5, rfl⟩
      exact rd_ret ev_var q
noncomputable def sp_count_with_period (C : Addr) : Sp := fun vs H Q _ => ∃ (a : Addr) (g : Sq04.Group) (p first : Nat) (last : Int), vs = [.ref a, .int (p : Int), .int (first : Int), .int last] ∧ GrpAt C H a g ∧ g.set.burst ≤ 16 ∧ 0 < p ∧ p < 18446744073709551616 ∧ 1 ≤ first ∧
  Q (.int (cwp g.set p first last)) H
theorem ok_count_with_period (T : Txt K mg A) : FnOk P w K mg base CX0 3 A.f_count_with_period A.d_count_with_period ["group", "period", "first", "last"] (sp_count_with_period A.C_Group) := by
  refine T.count_with_period.F.ok sc_count_with_period (fun vs H Q E h => ?_) (fun cdv A' outer s H vs Q E hr h => ?_)
  · obtain ⟨a, g, p, first, last, rfl, _⟩ := h
    rfl
  · obtain ⟨a, g, p, first, last, rfl, hg, hb, hp, hp2, hf, q⟩ := h
    refine ⟨_, (pss_cons (ps_if (pt_cmpR op_gt (pv 2) (pv 3) (nomark _)) (pss_one (ps_ret pe_int)) pss_nil)
      (pss_one (ps_ret (pe_op op_sub (pe_call (ok_count_up_to T) (hr.mono (by decide)) rfl T.count_up_to.m T.count_up_to.F.kp T.count_up_to.b .nil pass0 (pa_cons (pv 0) (pa_cons (pv 1) (pa_cons (pv 3) pa_nil)))) (pe_call (ok_count_up_to T) (hr.mono (by decide)) rfl T.count_up_to.m T.count_up_to.F.kp T.count_up_to.b .nil pass0 (pa_cons (pv 0) (pa_cons (pv 1) (pa_cons (pe_op op_sub (pv 2) pe_int) pa_nil)))))))), ?_⟩
    unfold cwp at q
    refine if_of (et_t (ev_0 ev_var ev_var)) (fun h0 => ?_) (fun h0 => ?_)
    · rw [if_pos (of_decide_eq_true h0)] at q
      exact ev_c _ q
    · have h1 := of_decide_eq_false h0
      rw [if_neg h1] at q
      refine ev_0 (ev_call (v := .int (cntUp g.set p last.toNat g.set.burst : Nat)) (ea_cons ev_var (ea_cons ev_var (ea_cons ev_var ea_nil))) (fun Q q => ⟨a, g, p, last.toNat, ?_, hg, hb, hp, hp2, q⟩))
        (ev_call (v := .int (cntUp g.set p ((first : Int) - 1).toNat g.set.burst : Nat)) (ea_cons ev_var (ea_cons ev_var (ea_cons (ev_0 ev_var ev_c) ea_nil))) (fun Q q => ⟨a, g, p, ((first : Int) - 1).toNat, ?_, hg, hb, hp, hp2, q⟩)) _ q
      · rw [Int.toNat_of_nonneg (by omega)]; rfl
      · rw [Int.toNat_of_nonneg (by omega)]; rfl
noncomputable def sp_count_readings (C : Addr) : Sp := fun vs H Q _ => ∃ (a : Addr) (g : Sq04.Group) (first : Nat) (last : Int), vs = [.ref a, .int (first : Int), .int last] ∧ GrpAt C H a g ∧ SetOk g.set ∧ 1 ≤ first ∧
  Q (.int (cwp g.set g.set.quick first (min last ((g.till : Int) - 1)) + cwp g.set g.set.period ((max first g.till : Nat) : Int) last)) H
theorem ok_count_readings (T : Txt K mg A) : FnOk P w K mg base CX0 4 A.f_count_readings A.d_count_readings ["group", "first", "last"] (sp_count_readings A.C_Group) := by
  refine T.count_readings.F.ok sc_count_readings (fun vs H Q E h => ?_) (fun cdv A' outer s H vs Q E hr h => ?_)
  · obtain ⟨a, g, first, last, rfl, _⟩ := h
    rfl
  · obtain ⟨a, g, first, last, rfl, ⟨dx, hg⟩, ok, hf, q⟩ := h
    have p2 := ok.p2
    have p1 := ok.p1
    have q1 := ok.q1
    have q2 := ok.q2
    refine ⟨_, (pss_cons (ps_set (i := 3) sc_count_readings.nd rfl (Or.inl rfl) (pe_call (ok_count_with_period T) (hr.mono (by decide)) rfl T.count_with_period.m T.count_with_period.F.kp T.count_with_period.b .nil pass0 (pa_cons (pv 0) (pa_cons (pe_fld (pv 0) rfl) (pa_cons (pv 1) (pa_cons (pe_callB (call_min2 rfl) (by rfl) T.b_min boot_min (pa_cons (pv 2) (pa_cons (pe_op op_sub (pe_fld (pv 0) rfl) pe_int) pa_nil))) pa_nil))))))
      (pss_cons (ps_set (i := 4) sc_count_readings.nd rfl (Or.inl rfl) (pe_call (ok_count_with_period T) (hr.mono (by decide)) rfl T.count_with_period.m T.count_with_period.F.kp T.count_with_period.b .nil pass0 (pa_cons (pv 0) (pa_cons (pe_fld (pv 0) rfl) (pa_cons (pe_callB (call_max2 rfl) (by rfl) T.b_max boot_max (pa_cons (pv 1) (pa_cons (pe_fld (pv 0) rfl) pa_nil))) (pa_cons (pv 2) pa_nil))))))
      (pss_one (ps_ret (pe_op op_add (pv 3) (pv 4)))))), ?_⟩
    refine rd_seq (rd_set (ev_call (v := .int (cwp g.set g.set.quick first (min last ((g.till : Int) - 1)))) (ea_cons ev_var (ea_cons (ev_fld ev_var hg T.c_Group T.n_Group_quick (g_quick _)) (ea_cons ev_var (ea_cons (ev_min (ea_cons ev_var (ea_cons (ev_0 (ev_fld ev_var hg T.c_Group T.n_Group_till (g_till _)) ev_c) ea_nil))) ea_nil))))
      (fun Q q => ⟨a, g, g.set.quick, first, _, rfl, ⟨dx, hg⟩, ok.b2, by omega, by omega, hf, q⟩)) ?_)
    have em : ((max first g.till : Nat) : Int) = max (first : Int) (g.till : Int) := cast_max
    refine rd_seq (rd_set (ev_call (v := .int (cwp g.set g.set.period ((max first g.till : Nat) : Int) last)) (ea_cons ev_var (ea_cons (ev_fld ev_var hg T.c_Group T.n_Group_period (g_period _)) (ea_cons (ev_max (ea_cons ev_var (ea_cons (ev_fld ev_var hg T.c_Group T.n_Group_till (g_till _)) ea_nil))) (ea_cons ev_var ea_nil))))
      (fun Q q => ⟨a, g, g.set.period, max first g.till, last, by rw [em]; rfl, ⟨dx, hg⟩, ok.b2, by omega, by omega, by omega, q⟩)) ?_)
    exact rd_ret (ev_0 ev_var ev_var) q
noncomputable def NewL (H : Hp) (xs : List V) (Q : VK) : Prop := ∀ l, H l = none → Q (.ref l) (upd H l (.lst xs))
noncomputable def nums (l : List Nat) : List V := l.map fun (t : Nat) => V.int (t : Int)
theorem nums_len (l : List Nat) : (nums l).length = l.length := by unfold nums; rw [List.length_map]
noncomputable def sp_times_with_period (C : Addr) : Sp := fun vs H Q _ => ∃ (a : Addr) (g : Sq04.Group) (p first last : Nat), vs = [.ref a, .int (p : Int), .int (first : Int), .int (last : Int)] ∧ GrpAt C H a g ∧ g.set.burst ≤ 16 ∧ 0 < p ∧ p < 18446744073709551616 ∧ last < first + p ∧
  NewL H (nums (twp g.set p first last g.set.burst)) Q
theorem start_int {st p first : Nat} (hp : 0 < p) : (st : Int) + max 0 (((first : Int) - (st : Int) + (p : Int) - 1) / (p : Int)) * (p : Int) = ((startAt st p first : Nat) : Int) := by
  unfold startAt
  rw [Int.natCast_add, Int.natCast_mul, Int.natCast_ediv]
  congr 1
  congr 1
  by_cases c : st ≤ first
  · rw [show (((first - st + p - 1 : Nat) : Int)) = (first : Int) - (st : Int) + (p : Int) - 1 by omega]
    have : 0 ≤ ((first : Int) - (st : Int) + (p : Int) - 1) / (p : Int) := Int.ediv_nonneg (by omega) (by omega)
    omega
  · have e0 : first - st = 0 := by omega
    rw [e0, show (((0 + p - 1 : Nat) : Int)) = (p : Int) - 1 by omega, Int.ediv_eq_zero_of_lt (a := (p : Int) - 1) (b := (p : Int)) (by omega) (by omega)]
    have : ((first : Int) - (st : Int) + (p : Int) - 1) / (p : Int) < 1 := Int.ediv_lt_of_lt_mul (by omega) (by omega)
    omega
noncomputable def far6 (last : Nat) (σ : L2.St) : Nat := match σ[6]? with
  | some (some (V.int z)) => ((last : Int) + 1 - z).toNat
  | _ => 0
noncomputable def sp_first_of_place (C : Addr) : Sp := fun vs H Q _ => ∃ (a : Addr) (g : Sq04.Group) (p j first : Nat), vs = [.ref a, .int (p : Int), .int (j : Int), .int (first : Int)] ∧ GrpAt C H a g ∧ j < 1000 ∧ 0 < p ∧ p < 18446744073709551616 ∧
  Q (.int ((startAt (g.set.phase + j * g.set.gap) p first : Nat) : Int)) H
theorem ok_first_of_place (T : Txt K mg A) : FnOk P w K mg base CX0 2 A.f_first_of_place A.d_first_of_place ["group", "period", "place", "first"] (sp_first_of_place A.C_Group) := by
  refine T.first_of_place.F.ok sc_first_of_place (fun vs H Q E h => ?_) (fun cdv A' outer s H vs Q E hr h => ?_)
  · obtain ⟨a, g, p, j, first, rfl, _⟩ := h
    rfl
  · obtain ⟨a, g, p, j, first, rfl, ⟨dx, hg⟩, hj, hp, hp2, q⟩ := h
    refine ⟨_, (pss_cons (ps_set (i := 4) sc_first_of_place.nd rfl (Or.inl rfl) (pe_call (ok_burst_place T) (hr.mono (by decide)) rfl T.burst_place.m T.burst_place.F.kp T.burst_place.b .nil pass0 (pa_cons (pv 0) (pa_cons (pv 2) pa_nil))))
      (pss_cons (ps_set (i := 5) sc_first_of_place.nd rfl (Or.inl rfl) (pe_callB (call_max2 rfl) (by rfl) T.b_max boot_max (pa_cons pe_int (pa_cons (pe_op op_fdivW (pe_op op_sub (pe_op op_add (pe_op op_sub (pv 3) (pv 4)) (pv 1)) pe_int) (pv 1)) pa_nil))))
      (pss_one (ps_ret (pe_op op_add (pv 4) (pe_op op_mul (pv 5) (pv 1))))))), ?_⟩
    refine rd_seq (rd_set (ev_call (v := .int ((g.set.phase + j * g.set.gap : Nat) : Int)) (ea_cons ev_var (ea_cons ev_var ea_nil)) (fun Q q => ⟨a, g, j, rfl, ⟨dx, hg⟩, hj, q⟩)) ?_)
    generalize g.set.phase + j * g.set.gap = st at q ⊢
    dsimp only
    refine rd_seq (rd_set (ev_max (ea_cons ev_c (ea_cons (ev_1 (ev_0 (ev_0 (ev_0 ev_var ev_var) ev_var) ev_c) ev_var ⟨by omega, by omega⟩) ea_nil))) ?_)
    refine rd_ret (ev_0 ev_var (ev_1 ev_var ev_var (.inr ⟨by omega, by omega⟩))) ?_
    rw [start_int hp]
    exact q
theorem ok_times_with_period (T : Txt K mg A) : FnOk P w K mg base CX0 3 A.f_times_with_period A.d_times_with_period ["group", "period", "first", "last"] (sp_times_with_period A.C_Group) := by
  refine T.times_with_period.F.ok sc_times_with_period (fun vs H Q E h => ?_) (fun cdv A' outer s H vs Q E hr h => ?_)
  · obtain ⟨a, g, p, first, last, rfl, _⟩ := h
    rfl
  · obtain ⟨a, g, p, first, last, rfl, ⟨dx, hg⟩, hb, hp, hp2, hl, q⟩ := h
    refine ⟨_, (pss_cons (ps_set (i := 4) sc_times_with_period.nd rfl (Or.inl rfl) (pe_lst pa_nil))
      (pss_cons (ps_for PassesOwn.never rfl (pi_range1 rfl T.b_range (pa_cons (pe_fld (pv 0) rfl) pa_nil)) (pg_name (i := 5) sc_times_with_period.nd rfl (Or.inl rfl))
        (pss_cons (ps_set (i := 6) sc_times_with_period.nd rfl (Or.inl rfl) (pe_call (ok_first_of_place T) (hr.mono (by decide)) rfl T.first_of_place.m T.first_of_place.F.kp T.first_of_place.b .nil pass0 (pa_cons (pv 0) (pa_cons (pv 1) (pa_cons (pv 5) (pa_cons (pv 2) pa_nil))))))
      (pss_one (ps_while PassesOwn.never (pt_cmpR op_le (pv 6) (pv 3) (nomark _))
        (pss_cons (ps_expr (pe_bm PySem.F.plainAttrs_list PySem.F.slot_list_append PySem.F.type_list_append mt_append (pv 4) (pa_cons (pv 6) pa_nil)))
      (pss_one (ps_aug (i := 6) sc_times_with_period.nd rfl (Or.inl rfl) (pv 1) ip_add)))))))
      (pss_one (ps_ret (pv 4))))), ?_⟩
    refine rd_seq (rd_set' (rd_lst ea_nil (Nat.zero_le _) fun l hn => ?_))
    have nal : a ≠ l := ne_of_none hg hn
    have hg' : ∀ o, upd H l o a = some (.ins A.C_Group dx (gfs g)) := fun o => by rw [upd_ne nal]; exact hg
    refine rd_seq (rd_range (n := g.set.burst) (ea_cons (ev_fld ev_var (hg' _) T.c_Group T.n_Group_burst (g_burst _)) ea_nil) (by omega)
      (fun i σ H' => H' = upd H l (.lst (nums (twp g.set p first last i))) ∧ ∃ v5 v6, σ = [some (.ref a), some (.int (p : Int)), some (.int (first : Int)), some (.int (last : Int)), some (.ref l), v5, v6])
      ⟨rfl, none, none, rfl⟩ ?_ ?_)
    · rintro i σ H' hi ⟨rfl, v5, v6, rfl⟩
      have hlen := twp_short (s := g.set) (first := first) (last := last) hp hl i
      have htw : twp g.set p first last (i + 1) = twp g.set p first last i ++ ap (startAt (g.set.phase + i * g.set.gap) p first) p last := rfl
      have hap := ap_short (startAt_ge (st := g.set.phase + i * g.set.gap) (first := first) hp) hl
      refine rd_name (rd_seq (rd_set (ev_call (v := .int ((startAt (g.set.phase + i * g.set.gap) p first : Nat) : Int)) (ea_cons ev_var (ea_cons ev_var (ea_cons ev_var (ea_cons ev_var ea_nil)))) (fun Q q => ⟨a, g, p, i, first, rfl, ⟨dx, hg' _⟩, by omega, hp, hp2, q⟩)) ?_))
      generalize startAt (g.set.phase + i * g.set.gap) p first = at_ at hap htw ⊢
      dsimp only
      refine while_by (fun σ H' => ∃ k, k ≤ (if at_ ≤ last then (last - at_) / p + 1 else 0) ∧ H' = upd H l (.lst (nums (twp g.set p first last i ++ (List.range k).map fun m => at_ + m * p))) ∧
        ∃ v5, σ = [some (.ref a), some (.int (p : Int)), some (.int (first : Int)), some (.int (last : Int)), some (.ref l), v5, some (.int ((at_ + k * p : Nat) : Int))]) (fun σ _ => far6 last σ)
        ⟨0, Nat.zero_le _, by rw [List.range_zero, List.map_nil, List.append_nil], some (.int (i : Int)), by rw [Nat.zero_mul, Nat.add_zero]; rfl⟩ ?_ ?_
      · rintro σ H' ⟨k, hk, rfl, w5, rfl⟩
        refine et_t (ev_0 ev_var ev_var) _ ?_
        unfold ap at hap htw
        rw [List.length_map, List.length_range] at hap
        by_cases c : at_ + k * p ≤ last
        · have c0 : at_ ≤ last := by omega
          rw [if_pos c0] at hk hap
          have hk1 : k < (last - at_) / p + 1 := by
            have := (Nat.le_div_iff_mul_le hp (x := k) (y := last - at_)).mpr (by omega)
            omega
          rw [if_pos (show decide (((at_ + k * p : Nat) : Int) ≤ (last : Int)) = true from decide_eq_true (by omega))]
          refine rd_seq (rd_drop (rd_app ev_var upd_same (ea_cons ev_var ea_nil) ?_ ?_))
          · rw [nums_len, List.length_append, List.length_map, List.length_range]
            exact small1000 (by omega)
          · have ek : (((at_ + k * p : Nat) : Int)) + (p : Int) = ((at_ + (k + 1) * p : Nat) : Int) := by
              rw [Nat.add_mul, Nat.one_mul]; omega
            refine rd_aug rfl ev_var ⟨⟨k + 1, by rw [if_pos c0]; omega, ?_, w5, ?_⟩, ?_⟩
            · rw [upd_upd, List.range_succ, List.map_append, ← List.append_assoc]
              unfold nums
              rw [List.map_append (l₂ := List.map _ [k])]
              rfl
            · rw [ek]; rfl
            · rw [ek]
              show ((last : Int) + 1 - ((at_ + (k + 1) * p : Nat) : Int)).toNat < ((last : Int) + 1 - ((at_ + k * p : Nat) : Int)).toNat
              rw [Nat.add_mul, Nat.one_mul]
              omega
        · rw [if_neg (show ¬ decide (((at_ + k * p : Nat) : Int) ≤ (last : Int)) = true from fun h => c (by have := of_decide_eq_true h; omega))]
          have ek : k = (if at_ ≤ last then (last - at_) / p + 1 else 0) := by
            by_cases c0 : at_ ≤ last
            · rw [if_pos c0] at hk ⊢
              have h3 : ¬ k ≤ (last - at_) / p := fun h => c (by have := (Nat.le_div_iff_mul_le hp (x := k) (y := last - at_)).mp h; omega)
              omega
            · rw [if_neg c0] at hk ⊢
              omega
          refine ⟨?_, _, _, rfl⟩
          rw [htw, ← ek]
      · intro σ H Q Q' m h
        obtain ⟨v, e, v', e', i, j, r1, r2, k, r3, q⟩ := h
        exact ⟨v, e, v', e', i, j, r1, r2, k, r3, m _ _ q⟩
    · rintro σ H' ⟨rfl, v5, v6, rfl⟩
      exact rd_ret ev_var (q l hn)
noncomputable def NewS (H : Hp) (xs : List V) (Q : VK) : Prop := ∀ (H' : Hp) (l : Addr), H' l = some (.lst xs) → Same H H' → H l = none → Q (.ref l) H'
theorem same_new {H : Hp} {l : Addr} {o : HO} (h : H l = none) : Same H (upd H l o) := fun b u e => by
  rw [upd_ne (ne_of_none e h)]
  exact e
noncomputable def sp_reading_times (C : Addr) : Sp := fun vs H Q _ => ∃ (a : Addr) (g : Sq04.Group) (first last : Nat), vs = [.ref a, .int (first : Int), .int (last : Int)] ∧ GrpAt C H a g ∧ SetOk g.set ∧ 1 ≤ g.till ∧ last < first + g.set.quick ∧
  NewS H (nums (twp g.set g.set.quick first (min last (g.till - 1)) g.set.burst ++ twp g.set g.set.period (max first g.till) last g.set.burst)) Q
theorem ok_reading_times (T : Txt K mg A) : FnOk P w K mg base CX0 4 A.f_reading_times A.d_reading_times ["group", "first", "last"] (sp_reading_times A.C_Group) := by
  refine T.reading_times.F.ok sc_reading_times (fun vs H Q E h => ?_) (fun cdv A' outer s H vs Q E hr h => ?_)
  · obtain ⟨a, g, first, last, rfl, _⟩ := h
    rfl
  · obtain ⟨a, g, first, last, rfl, ⟨dx, hg⟩, ok, ht, hl, q⟩ := h
    have p2 := ok.p2
    have q1 := ok.q1
    have q2 := ok.q2
    have b2 := ok.b2
    refine ⟨_, (pss_cons (ps_set (i := 3) sc_reading_times.nd rfl (Or.inl rfl) (pe_call (ok_times_with_period T) (hr.mono (by decide)) rfl T.times_with_period.m T.times_with_period.F.kp T.times_with_period.b .nil pass0 (pa_cons (pv 0) (pa_cons (pe_fld (pv 0) rfl) (pa_cons (pv 1) (pa_cons (pe_callB (call_min2 rfl) (by rfl) T.b_min boot_min (pa_cons (pv 2) (pa_cons (pe_op op_sub (pe_fld (pv 0) rfl) pe_int) pa_nil))) pa_nil))))))
      (pss_cons (ps_set (i := 4) sc_reading_times.nd rfl (Or.inl rfl) (pe_call (ok_times_with_period T) (hr.mono (by decide)) rfl T.times_with_period.m T.times_with_period.F.kp T.times_with_period.b .nil pass0 (pa_cons (pv 0) (pa_cons (pe_fld (pv 0) rfl) (pa_cons (pe_callB (call_max2 rfl) (by rfl) T.b_max boot_max (pa_cons (pv 1) (pa_cons (pe_fld (pv 0) rfl) pa_nil))) (pa_cons (pv 2) pa_nil))))))
      (pss_one (ps_ret (pe_op op_cat (pv 3) (pv 4)))))), ?_⟩
    refine rd_seq (rd_set' (rd_call (ea_cons ev_var (ea_cons (ev_fld ev_var hg T.c_Group T.n_Group_quick (g_quick _)) (ea_cons ev_var (ea_cons (ev_min (ea_cons ev_var (ea_cons (ev_0 (ev_fld ev_var hg T.c_Group T.n_Group_till (g_till _)) ev_c) ea_nil))) ea_nil)))) ?_))
    refine ⟨a, g, g.set.quick, first, min last (g.till - 1), ?_, ⟨dx, hg⟩, b2, by omega, by omega, Nat.lt_of_le_of_lt (Nat.min_le_left _ _) hl, fun l1 n1 => ?_⟩
    · rw [cast_min ht]; rfl
    have hg1 : upd H l1 (.lst (nums (twp g.set g.set.quick first (min last (g.till - 1)) g.set.burst))) a = some (.ins A.C_Group dx (gfs g)) := same_new n1 _ _ hg
    refine rd_seq (rd_set' (rd_call (ea_cons ev_var (ea_cons (ev_fld ev_var hg1 T.c_Group T.n_Group_period (g_period _)) (ea_cons (ev_max (ea_cons ev_var (ea_cons (ev_fld ev_var hg1 T.c_Group T.n_Group_till (g_till _)) ea_nil))) (ea_cons ev_var ea_nil)))) ?_))
    refine ⟨a, g, g.set.period, max first g.till, last, ?_, ⟨dx, hg1⟩, b2, by omega, by omega, Nat.lt_of_lt_of_le hl (Nat.add_le_add (Nat.le_max_left _ _) q2), fun l2 n2 => ?_⟩
    · rw [cast_max]; rfl
    have e1 := same_new (o := .lst (nums (twp g.set g.set.period (max first g.till) last g.set.burst))) n2 _ _ (upd_same (H := H) (a := l1) (o := .lst (nums (twp g.set g.set.quick first (min last (g.till - 1)) g.set.burst))))
    have s1 := twp_short (s := g.set) (p := g.set.quick) (first := first) (last := min last (g.till - 1)) (by omega) (by omega) g.set.burst
    have s2 := twp_short (s := g.set) (p := g.set.period) (first := max first g.till) (last := last) (by omega) (by omega) g.set.burst
    refine rd_ret' (rd_op ev_var ev_var ⟨l1, l2, _, _, rfl, rfl, e1, upd_same, ?_, fun l3 n3 => ?_⟩)
    · rw [nums_len, nums_len]
      exact Nat.le_of_lt (small1000 (by omega))
    · refine q _ l3 ?_ (((same_new n1).trans (same_new n2)).trans (same_new n3)) (((same_new n1).trans (same_new n2)).free n3)
      rw [upd_same]
      unfold nums
      rw [List.map_append]
noncomputable def But (a : Addr) (H H' : Hp) : Prop := ∀ b o, H b = some o → b ≠ a → H' b = some o
theorem But.upd {a : Addr} {H : Hp} {o : HO} : But a H (upd H a o) := fun b u e n => by rw [upd_ne n]; exact e
theorem But.trans {a : Addr} {H H1 H2 : Hp} (x : But a H H1) (y : But a H1 H2) : But a H H2 := fun b o e n => y b o (x b o e n) n
theorem But.of {a : Addr} {H H' : Hp} (s : Same H H') : But a H H' := fun b o e _ => s b o e
noncomputable def sp_take_missed (C : Addr) : Sp := fun vs H Q _ => ∃ (a : Addr) (g : Sq04.Group) (now : Nat), vs = [.ref a, .int (now : Int)] ∧ GrpAt C H a g ∧ GSt g now ∧
  ∀ H' : Hp, GrpAt C H' a { g with missed := g.missed + (g.due now).1 } → But a H H' → Q (.int ((g.due now).1 : Nat)) H'
theorem ok_Group_take_missed (T : Txt K mg A) : FnOk P w K mg base CX0 5 A.f_Group_take_missed A.d_Group_take_missed ["self", "now"] (sp_take_missed A.C_Group) := by
  refine T.Group_take_missed.F.ok sc_Group_take_missed (fun vs H Q E h => ?_) (fun cdv A' outer s H vs Q E hr h => ?_)
  · obtain ⟨a, g, now, rfl, _⟩ := h
    rfl
  · obtain ⟨a, g, now, rfl, ⟨dx, hg⟩, ok, q⟩ := h
    refine ⟨_, (pss_cons (ps_set (i := 2) sc_Group_take_missed.nd rfl (Or.inl rfl) (pe_call (ok_count_readings T) (hr.mono (by decide)) rfl T.count_readings.m T.count_readings.F.kp T.count_readings.b .nil pass0 (pa_cons (pv 0) (pa_cons (pe_fld (pv 0) rfl) (pa_cons (pe_op op_sub (pe_op op_sub (pv 1) (pe_fld (pv 0) rfl)) pe_int) pa_nil)))))
      (pss_cons (ps_fldaug (pv 0) (pv 2) in_add)
      (pss_one (ps_ret (pv 2))))), ?_⟩
    refine rd_seq (rd_set (ev_call (v := .int ((g.due now).1 : Nat)) (ea_cons ev_var (ea_cons (ev_fld ev_var hg T.c_Group T.n_Group_since (g_since _)) (ea_cons (ev_0 (ev_0 ev_var (ev_fld ev_var hg T.c_Group T.n_Group_slack (g_slack _))) ev_c) ea_nil)))
      (fun Q q => ⟨a, g, g.from_, (now : Int) - g.set.slack - 1, rfl, ⟨dx, hg⟩, ok.ok, ok.f1, ?_⟩)) ?_)
    · rw [← due_missed ok.gok ok.f2]; exact q
    · refine rd_seq (rd_fldaug ev_var hg T.c_Group T.n_Group_missed_in_all (g_missed_in_all _) ev_var (by show 11 < 1000; decide) ?_)
      refine rd_ret ev_var (q _ ⟨dx, ?_⟩ But.upd)
      rw [upd_same, show (g.missed : Int) + ((g.due now).1 : Nat) = ((g.missed + (g.due now).1 : Nat) : Int) by omega, g_put_missed_in_all]
noncomputable def sp_take_wanted (C : Addr) : Sp := fun vs H Q _ => ∃ (a : Addr) (g : Sq04.Group) (now : Nat), vs = [.ref a, .int (now : Int)] ∧ GrpAt C H a g ∧ GSt g now ∧
  ∀ (H' : Hp) (l : Addr), H' l = some (.lst (nums (wantedOf g now))) → GrpAt C H' a { g with wanted := g.wanted + (wantedOf g now).length } → But a H H' → H l = none → Q (.ref l) H'
theorem ok_Group_take_wanted (T : Txt K mg A) : FnOk P w K mg base CX0 5 A.f_Group_take_wanted A.d_Group_take_wanted ["self", "now"] (sp_take_wanted A.C_Group) := by
  refine T.Group_take_wanted.F.ok sc_Group_take_wanted (fun vs H Q E h => ?_) (fun cdv A' outer s H vs Q E hr h => ?_)
  · obtain ⟨a, g, now, rfl, _⟩ := h
    rfl
  · obtain ⟨a, g, now, rfl, ⟨dx, hg⟩, ok, q⟩ := h
    have sl := ok.ok.sl
    refine ⟨_, (pss_cons (ps_set (i := 2) sc_Group_take_wanted.nd rfl (Or.inl rfl) (pe_call (ok_reading_times T) (hr.mono (by decide)) rfl T.reading_times.m T.reading_times.F.kp T.reading_times.b .nil pass0 (pa_cons (pv 0) (pa_cons (pe_callB (call_max2 rfl) (by rfl) T.b_max boot_max (pa_cons (pe_fld (pv 0) rfl) (pa_cons (pe_op op_sub (pv 1) (pe_fld (pv 0) rfl)) pa_nil))) (pa_cons (pv 1) pa_nil)))))
      (pss_cons (ps_fldaug (pv 0) (pe_callB call_len_seq (by rfl) T.b_len PySem.boot_len (pa_cons (pv 2) pa_nil)) in_add)
      (pss_one (ps_ret (pv 2))))), ?_⟩
    refine rd_seq (rd_set' (rd_call (ea_cons ev_var (ea_cons (ev_max (ea_cons (ev_fld ev_var hg T.c_Group T.n_Group_since (g_since _)) (ea_cons (ev_0 ev_var (ev_fld ev_var hg T.c_Group T.n_Group_slack (g_slack _))) ea_nil))) (ea_cons ev_var ea_nil))) ?_))
    refine ⟨a, g, max g.from_ (now - g.set.slack), now, ?_, ⟨dx, hg⟩, ok.ok, ok.t1, in_reach ok.ok.sl, fun H1 l h1 s1 n1 => ?_⟩
    · rw [cast_max_sub]; rfl
    have hg1 := s1 _ _ hg
    replace h1 : H1 l = some (.lst (nums (wantedOf g now))) := h1
    refine rd_seq (rd_fldaug ev_var hg1 T.c_Group T.n_Group_wanted_in_all (g_wanted_in_all _) (ev_len (ea_cons ev_var ea_nil) (SqL.of h1)) (by show 11 < 1000; decide) ?_)
    have nal : l ≠ a := ne_of h1 hg1 (by intro z; cases z)
    refine rd_ret ev_var (q _ l (by rw [upd_ne nal]; exact h1) ⟨dx, ?_⟩ ((But.of s1).trans But.upd) n1)
    rw [upd_same, nums_len, show (g.wanted : Int) + ((wantedOf g now).length : Nat) = ((g.wanted + (wantedOf g now).length : Nat) : Int) by omega, g_put_wanted_in_all]
noncomputable def sp_start_behind (C : Addr) : Sp := fun vs H Q _ => ∃ (a dx : Addr) (fs : List (Str × V)) (now : Nat), vs = [.ref a, .int (now : Int)] ∧ H a = some (.ins C dx fs) ∧ fs.length < 900 ∧
  Q .non (upd H a (.ins C dx (putF "till" (.int ((now + 1 : Nat) : Int)) (putF "since" (.int ((now + 1 : Nat) : Int)) fs))))
theorem ok_Group_start_behind (T : Txt K mg A) : FnOk P w K mg base CX0 1 A.f_Group_start_behind A.d_Group_start_behind ["self", "now"] (sp_start_behind A.C_Group) := by
  refine T.Group_start_behind.F.ok sc_Group_start_behind (fun vs H Q E h => ?_) (fun cdv A' outer s H vs Q E hr h => ?_)
  · obtain ⟨a, dx, fs, now, rfl, _⟩ := h
    rfl
  · obtain ⟨a, dx, fs, now, rfl, hg, hl, q⟩ := h
    refine ⟨_, (pss_cons (ps_fld (pv 0) (pe_op op_add (pv 1) pe_int) rfl)
      (pss_one (ps_fld (pv 0) (pe_op op_add (pv 1) pe_int) rfl))), ?_⟩
    have e : (now : Int) + 1 = ((now + 1 : Nat) : Int) := by omega
    have l1 := length_putF "since" (V.int ((now : Int) + 1)) fs
    refine rd_seq (rd_fld (ev_0 ev_var ev_c) ev_var hg T.c_Group T.n_Group_since (by omega) ?_)
    refine rd_fld (ev_0 ev_var ev_c) ev_var upd_same T.c_Group T.n_Group_till (by omega) ?_
    rw [upd_upd, e]
    exact q
noncomputable def sp_turn_on (C : Addr) : Sp := fun vs H Q _ => ∃ (a dx : Addr) (g : Sq04.Group) (now : Nat), vs = [.ref a, .int (now : Int)] ∧ H a = some (.ins C dx (gfs g)) ∧
  (g.on = true → Q .non H) ∧ (g.on = false → Q .non (upd H a (.ins C dx (gfs { g with on := true, from_ := now + 1, till := now + 1 }))))
theorem ok_Group_turn_on (T : Txt K mg A) : FnOk P w K mg base CX0 2 A.f_Group_turn_on A.d_Group_turn_on ["self", "now"] (sp_turn_on A.C_Group) := by
  refine T.Group_turn_on.F.ok sc_Group_turn_on (fun vs H Q E h => ?_) (fun cdv A' outer s H vs Q E hr h => ?_)
  · obtain ⟨a, dx, g, now, rfl, _⟩ := h
    rfl
  · obtain ⟨a, dx, g, now, rfl, hg, q1, q2⟩ := h
    refine ⟨_, (pss_one (ps_if (pt_not (pt_val (pe_fld (pv 0) rfl))) (pss_cons (ps_fld (pv 0) pe_bl rfl)
      (pss_one (ps_expr (pe_meth (pv 0) T.c_Group T.Group_start_behind.m (ok_Group_start_behind T) (hr.mono (by decide)) T.Group_start_behind.b .nil pass0 (pa_cons (pv 1) pa_nil))))) pss_nil)), ?_⟩
    refine if_of (et_not (et_b (ev_fld ev_var hg T.c_Group T.n_Group_active (g_active _)))) (fun h0 => ?_) (fun h0 => ?_)
    · have h1 : g.on = false := by simpa using h0
      refine rd_seq (rd_fld ev_c ev_var hg T.c_Group T.n_Group_active (by show 11 < 1000; decide) ?_)
      rw [g_put_active]
      refine rd_drop (rd_meth ev_var upd_same (g_no _ (by decide +kernel)) (ea_cons ev_var ea_nil) ⟨a, dx, _, now, rfl, upd_same, by show 11 < 900; decide, ?_⟩)
      rw [upd_upd, g_put_since, g_put_till]
      exact q2 h1
    · exact q1 (by simpa using h0)
noncomputable def sp_turn_off (C : Addr) : Sp := fun vs H Q _ => ∃ (a dx : Addr) (g : Sq04.Group), vs = [.ref a] ∧ H a = some (.ins C dx (gfs g)) ∧ Q .non (upd H a (.ins C dx (gfs { g with on := false })))
theorem ok_Group_turn_off (T : Txt K mg A) : FnOk P w K mg base CX0 1 A.f_Group_turn_off A.d_Group_turn_off ["self"] (sp_turn_off A.C_Group) := by
  refine T.Group_turn_off.F.ok sc_Group_turn_off (fun vs H Q E h => ?_) (fun cdv A' outer s H vs Q E hr h => ?_)
  · obtain ⟨a, dx, g, rfl, _⟩ := h
    rfl
  · obtain ⟨a, dx, g, rfl, hg, q⟩ := h
    refine ⟨_, (pss_one (ps_fld (pv 0) pe_bl rfl)), ?_⟩
    refine rd_fld ev_c ev_var hg T.c_Group T.n_Group_active (by show 11 < 1000; decide) ?_
    rw [g_put_active]
    exact q
theorem nums_ints (l : List Nat) : nums l = (intsOf l).map V.int := by
  unfold nums intsOf
  rw [List.map_map]
  rfl
theorem mem_ints {l : List Nat} {z : Int} (h : z ∈ intsOf l) : ∃ n, n ∈ l ∧ z = (n : Int) := by
  obtain ⟨n, h1, h2⟩ := List.mem_map.mp h
  exact ⟨n, h1, h2.symm⟩
theorem ints_len (l : List Nat) : (intsOf l).length = l.length := by unfold intsOf; rw [List.length_map]
theorem nums_snoc (l : List Nat) (n : Nat) : nums (l ++ [n]) = nums l ++ [V.int (n : Int)] := by
  unfold nums
  rw [List.map_append]
  rfl
theorem least_of {l : List Nat} {m : Int} (h1 : m ∈ intsOf l) (h2 : ∀ y, y ∈ intsOf l → m ≤ y) : ∃ n : Nat, m = (n : Int) ∧ n ∈ l ∧ ∀ y, y ∈ l → n ≤ y := by
  obtain ⟨n, hn, rfl⟩ := mem_ints h1
  exact ⟨n, rfl, hn, fun y hy => by have := h2 (y : Int) (List.mem_map.mpr ⟨y, hy, rfl⟩); omega⟩
noncomputable def sp_first_with_period (C : Addr) : Sp := fun vs H Q _ => ∃ (a : Addr) (g : Sq04.Group) (p first : Nat), vs = [.ref a, .int (p : Int), .int (first : Int)] ∧ GrpAt C H a g ∧ g.set.burst ≤ 16 ∧ Fit g.set p ∧ p < 18446744073709551616 ∧
  ∀ H' : Hp, Same H H' → Q (.int ((firstOf g.set p first : Nat) : Int)) H'
theorem ok_first_with_period (T : Txt K mg A) : FnOk P w K mg base CX0 3 A.f_first_with_period A.d_first_with_period ["group", "period", "first"] (sp_first_with_period A.C_Group) := by
  refine T.first_with_period.F.ok sc_first_with_period (fun vs H Q E h => ?_) (fun cdv A' outer s H vs Q E hr h => ?_)
  · obtain ⟨a, g, p, first, rfl, _⟩ := h
    rfl
  · obtain ⟨a, g, p, first, rfl, ⟨dx, hg⟩, hb, ft, hp2, q⟩ := h
    have hp := ft.pos
    have hb1 := ft.hb
    refine ⟨_, (pss_one (ps_ret (pe_callB (cr_min rfl) (by rfl) T.b_min boot_min (pa_cons (pe_lc rfl sc_first_with_period.nd (pi_range1 rfl T.b_range (pa_cons (pe_fld (pv 0) rfl) pa_nil)) (blkOk_by (N := ["group", "period", "first", "place"]) (sc := defScope s_first_with_period) (own := [("place", 3)]) (by decide +kernel)) (fun _ _ _ _ _ => pg_name (i := 3) sc_first_with_period.nd rfl (Or.inl rfl)) (fun _ _ _ _ _ => pts_nil) (fun _ _ _ _ _ => (pe_call (ok_first_of_place T) (hr.mono (by decide)) rfl T.first_of_place.m T.first_of_place.F.kp T.first_of_place.b .nil pass0 (pa_cons (pv 0) (pa_cons (pv 1) (pa_cons (pv 3) (pa_cons (pv 2) pa_nil))))))) pa_nil)))), ?_⟩
    refine rd_ret' (rd_cb1 (rd_lcR (n := g.set.burst) (ea_cons (ev_fld ev_var hg T.c_Group T.n_Group_burst (g_burst _)) ea_nil) (by omega) fun D nD => ⟨fun i H' => H' = upd H D (.lst (nums (starts g.set p first i))), rfl, ?_, ?_⟩))
    · rintro i H' hi rfl
      have hg' : upd H D (.lst (nums (starts g.set p first i))) a = some (.ins A.C_Group dx (gfs g)) := by rw [upd_ne (ne_of_none hg nD)]; exact hg
      refine lct_yes rfl (rd_call (ea_cons ev_var (ea_cons ev_var (ea_cons ev_var (ea_cons ev_var ea_nil)))) ⟨a, g, p, i, first, rfl, ⟨dx, hg'⟩, by omega, hp, hp2, _, upd_same, ?_, ?_⟩)
      · rw [nums_len, starts_len]
        exact small1000 (by omega)
      · dsimp only
        rw [upd_upd, starts_succ, nums_snoc]
    · rintro H' rfl
      refine ⟨D, intsOf (starts g.set p first g.set.burst), rfl, SqL.of (by rw [upd_same, nums_ints]), by rw [ints_len, starts_len]; omega, fun m h1 h2 => ?_⟩
      obtain ⟨n, rfl, h3, h4⟩ := least_of h1 h2
      rw [firstOf_min ft h3 h4]
      exact q _ (same_new nD)
noncomputable def sp_next_reading (C : Addr) : Sp := fun vs H Q _ => ∃ (a : Addr) (g : Sq04.Group), vs = [.ref a] ∧ GrpAt C H a g ∧ SetOk g.set ∧ ∀ H' : Hp, Same H H' → Q (.int ((nextOf g : Nat) : Int)) H'
theorem ok_next_reading (T : Txt K mg A) : FnOk P w K mg base CX0 4 A.f_next_reading A.d_next_reading ["group"] (sp_next_reading A.C_Group) := by
  refine T.next_reading.F.ok sc_next_reading (fun vs H Q E h => ?_) (fun cdv A' outer s H vs Q E hr h => ?_)
  · obtain ⟨a, g, rfl, _⟩ := h
    rfl
  · obtain ⟨a, g, rfl, ⟨dx, hg⟩, ok, q⟩ := h
    have p2 := ok.p2
    have q2 := ok.q2
    refine ⟨_, (pss_cons (ps_set (i := 1) sc_next_reading.nd rfl (Or.inl rfl) (pe_call (ok_first_with_period T) (hr.mono (by decide)) rfl T.first_with_period.m T.first_with_period.F.kp T.first_with_period.b .nil pass0 (pa_cons (pv 0) (pa_cons (pe_fld (pv 0) rfl) (pa_cons (pe_fld (pv 0) rfl) pa_nil)))))
      (pss_cons (ps_if (pt_cmpR op_lt (pv 1) (pe_fld (pv 0) rfl) (nomark _)) (pss_one (ps_ret (pv 1))) pss_nil)
      (pss_one (ps_ret (pe_call (ok_first_with_period T) (hr.mono (by decide)) rfl T.first_with_period.m T.first_with_period.F.kp T.first_with_period.b .nil pass0 (pa_cons (pv 0) (pa_cons (pe_fld (pv 0) rfl) (pa_cons (pe_callB (call_max2 rfl) (by rfl) T.b_max boot_max (pa_cons (pe_fld (pv 0) rfl) (pa_cons (pe_fld (pv 0) rfl) pa_nil))) pa_nil)))))))), ?_⟩
    refine rd_seq (rd_set' (rd_call (ea_cons ev_var (ea_cons (ev_fld ev_var hg T.c_Group T.n_Group_quick (g_quick _)) (ea_cons (ev_fld ev_var hg T.c_Group T.n_Group_since (g_since _)) ea_nil))) ⟨a, g, g.set.quick, g.from_, rfl, ⟨dx, hg⟩, ok.b2, ok.fq, by omega, fun H1 s1 => ?_⟩))
    have hg1 := s1 _ _ hg
    try refine nx_mk ?_
    refine rq (sq_if1 (et_t (ev_0 ev_var (ev_fld ev_var hg1 T.c_Group T.n_Group_till (g_till _)))) (fun h0 => ?_) (fun h0 => ?_))
    · have h1 : firstOf g.set g.set.quick g.from_ < g.till := by
        have := of_decide_eq_true h0
        omega
      have e : nextOf g = firstOf g.set g.set.quick g.from_ := if_pos h1
      rw [e] at q
      exact rd_ret ev_var (q _ s1)
    · have h1 : ¬ firstOf g.set g.set.quick g.from_ < g.till := by
        have := of_decide_eq_false h0
        omega
      have e : nextOf g = firstOf g.set g.set.period (max g.from_ g.till) := if_neg h1
      rw [e] at q
      refine rq (rd_ret' (rd_call (ea_cons ev_var (ea_cons (ev_fld ev_var hg1 T.c_Group T.n_Group_period (g_period _)) (ea_cons (ev_max (ea_cons (ev_fld ev_var hg1 T.c_Group T.n_Group_since (g_since _)) (ea_cons (ev_fld ev_var hg1 T.c_Group T.n_Group_till (g_till _)) ea_nil))) ea_nil))) ⟨a, g, g.set.period, max g.from_ g.till, ?_, ⟨dx, hg1⟩, ok.b2, ok.fp, by omega, fun H2 s2 => q _ (s1.trans s2)⟩))
      rw [cast_max]; rfl
noncomputable def gfsN (k : Nat) (g : Sq04.Group) : List (Str × V) := (gN.take k).zip ((gV g).take k)
theorem gfsN_len (k : Nat) (g : Sq04.Group) : (gfsN k g).length < 900 := by
  unfold gfsN
  rw [List.length_zip, List.length_take]
  have : gN.length = 11 := rfl
  omega
theorem g_no_sb : ("start_behind" : Str) ∉ gN := by decide +kernel
theorem g_add {g : Sq04.Group} {k : Nat} {f : Str} {v : V} (h1 : gN[k]? = some f) (h2 : (gV g)[k]? = some v) : putF f v (gfsN k g) = gfsN (k + 1) g := by
  unfold gfsN
  rw [take_snoc' h1, take_snoc' h2]
  refine zip_new (not_take gN_nd h1) ?_
  have e1 : gN.length = 11 := rfl
  have e2 : (gV g).length = 11 := rfl
  rw [List.length_take, List.length_take, e1, e2]
noncomputable def sp_Group_init (C : Addr) : Sp := fun vs H Q _ => ∃ (a dx : Addr) (x : Sq04.Set) (now : Nat), vs = [.ref a, .int (x.period : Int), .int (x.quick : Int), .int (x.phase : Int), .int (x.burst : Int), .int (x.gap : Int), .int (x.slack : Int), .int (now : Int)] ∧
  H a = some (.ins C dx []) ∧ Q .non (upd H a (.ins C dx (gfs ⟨x, false, now + 1, now + 1, 0, 0⟩)))
theorem ok_Group_init (T : Txt K mg A) : FnOk P w K mg base CX0 2 A.f_Group_init A.d_Group_init ["self", "period", "quick", "phase", "burst", "gap", "slack", "now"] (sp_Group_init A.C_Group) := by
  refine T.Group_init.F.ok sc_Group_init (fun vs H Q E h => ?_) (fun cdv A' outer s H vs Q E hr h => ?_)
  · obtain ⟨a, dx, x, now, rfl, _⟩ := h
    rfl
  · obtain ⟨a, dx, x, now, rfl, hg, q⟩ := h
    refine ⟨_, (pss_cons (ps_fld (pv 0) (pv 1) rfl)
      (pss_cons (ps_fld (pv 0) (pv 2) rfl)
      (pss_cons (ps_fld (pv 0) (pv 3) rfl)
      (pss_cons (ps_fld (pv 0) (pv 4) rfl)
      (pss_cons (ps_fld (pv 0) (pv 5) rfl)
      (pss_cons (ps_fld (pv 0) (pv 6) rfl)
      (pss_cons (ps_fld (pv 0) pe_int rfl)
      (pss_cons (ps_fld (pv 0) pe_int rfl)
      (pss_cons (ps_fld (pv 0) pe_bl rfl)
      (pss_one (ps_expr (pe_meth (pv 0) T.c_Group T.Group_start_behind.m (ok_Group_start_behind T) (hr.mono (by decide)) T.Group_start_behind.b .nil pass0 (pa_cons (pv 7) pa_nil))))))))))))), ?_⟩
    have l0 := fun k => gfsN_len k ⟨x, false, now + 1, now + 1, 0, 0⟩
    have hg : H a = some (.ins A.C_Group dx (gfsN 0 ⟨x, false, now + 1, now + 1, 0, 0⟩)) := hg
    refine rd_seq (rd_fld ev_var ev_var hg T.c_Group T.n_Group_period (Nat.lt_of_lt_of_le (l0 0) (by decide)) ?_)
    rw [show putF "period" _ (gfsN 0 ⟨x, false, now + 1, now + 1, 0, 0⟩) = gfsN 1 ⟨x, false, now + 1, now + 1, 0, 0⟩ from g_add rfl rfl]
    refine nx_mk ?_
    refine rd_seq (rd_fld ev_var ev_var upd_same T.c_Group T.n_Group_quick (Nat.lt_of_lt_of_le (l0 1) (by decide)) ?_)
    rw [upd_upd]
    rw [show putF "quick" _ (gfsN 1 ⟨x, false, now + 1, now + 1, 0, 0⟩) = gfsN 2 ⟨x, false, now + 1, now + 1, 0, 0⟩ from g_add rfl rfl]
    refine nx_mk ?_
    refine rd_seq (rd_fld ev_var ev_var upd_same T.c_Group T.n_Group_phase (Nat.lt_of_lt_of_le (l0 2) (by decide)) ?_)
    rw [upd_upd]
    rw [show putF "phase" _ (gfsN 2 ⟨x, false, now + 1, now + 1, 0, 0⟩) = gfsN 3 ⟨x, false, now + 1, now + 1, 0, 0⟩ from g_add rfl rfl]
    refine nx_mk ?_
    refine rd_seq (rd_fld ev_var ev_var upd_same T.c_Group T.n_Group_burst (Nat.lt_of_lt_of_le (l0 3) (by decide)) ?_)
    rw [upd_upd]
    rw [show putF "burst" _ (gfsN 3 ⟨x, false, now + 1, now + 1, 0, 0⟩) = gfsN 4 ⟨x, false, now + 1, now + 1, 0, 0⟩ from g_add rfl rfl]
    refine nx_mk ?_
    refine rd_seq (rd_fld ev_var ev_var upd_same T.c_Group T.n_Group_gap (Nat.lt_of_lt_of_le (l0 4) (by decide)) ?_)
    rw [upd_upd]
    rw [show putF "gap" _ (gfsN 4 ⟨x, false, now + 1, now + 1, 0, 0⟩) = gfsN 5 ⟨x, false, now + 1, now + 1, 0, 0⟩ from g_add rfl rfl]
    refine nx_mk ?_
    refine rd_seq (rd_fld ev_var ev_var upd_same T.c_Group T.n_Group_slack (Nat.lt_of_lt_of_le (l0 5) (by decide)) ?_)
    rw [upd_upd]
    rw [show putF "slack" _ (gfsN 5 ⟨x, false, now + 1, now + 1, 0, 0⟩) = gfsN 6 ⟨x, false, now + 1, now + 1, 0, 0⟩ from g_add rfl rfl]
    refine nx_mk ?_
    refine rd_seq (rd_fld ev_c ev_var upd_same T.c_Group T.n_Group_wanted_in_all (Nat.lt_of_lt_of_le (l0 6) (by decide)) ?_)
    rw [upd_upd]
    rw [show putF "wanted_in_all" (V.int 0) (gfsN 6 ⟨x, false, now + 1, now + 1, 0, 0⟩) = gfsN 7 ⟨x, false, now + 1, now + 1, 0, 0⟩ from g_add rfl rfl]
    refine nx_mk ?_
    refine rd_seq (rd_fld ev_c ev_var upd_same T.c_Group T.n_Group_missed_in_all (Nat.lt_of_lt_of_le (l0 7) (by decide)) ?_)
    rw [upd_upd]
    rw [show putF "missed_in_all" (V.int 0) (gfsN 7 ⟨x, false, now + 1, now + 1, 0, 0⟩) = gfsN 8 ⟨x, false, now + 1, now + 1, 0, 0⟩ from g_add rfl rfl]
    refine nx_mk ?_
    refine rd_seq (rd_fld ev_c ev_var upd_same T.c_Group T.n_Group_active (Nat.lt_of_lt_of_le (l0 8) (by decide)) ?_)
    rw [upd_upd]
    rw [show putF "active" (V.bl false) (gfsN 8 ⟨x, false, now + 1, now + 1, 0, 0⟩) = gfsN 9 ⟨x, false, now + 1, now + 1, 0, 0⟩ from g_add rfl rfl]
    have hno : (gfsN 9 ⟨x, false, now + 1, now + 1, 0, 0⟩).lookup ("start_behind" : Str) = none := zip_no fun m => g_no_sb (List.mem_of_mem_take m)
    refine nx_mk ?_
    refine rd_drop (rd_meth ev_var upd_same hno (ea_cons ev_var ea_nil) ⟨a, dx, _, now, rfl, upd_same, l0 9, ?_⟩)
    rw [upd_upd, show putF "since" (V.int ((now + 1 : Nat) : Int)) (gfsN 9 ⟨x, false, now + 1, now + 1, 0, 0⟩) = gfsN 10 ⟨x, false, now + 1, now + 1, 0, 0⟩ from g_add rfl rfl, show putF "till" (V.int ((now + 1 : Nat) : Int)) (gfsN 10 ⟨x, false, now + 1, now + 1, 0, 0⟩) = gfsN 11 ⟨x, false, now + 1, now + 1, 0, 0⟩ from g_add rfl rfl]
    exact q
end
end RP
set_option Elab.async false
set_option linter.all false
set_option maxRecDepth 100000
set_option maxHeartbeats 2000000
namespace RP
open PySem PySem.Spec PyProof.Rows L2 RT
section
variable {β : Type} {c : β → V}
noncomputable def kvOf (c : β → V) (l : List (Nat × β)) : List (Key × V) := l.map fun x => (Sum.inl (x.1 : Int), c x.2)
noncomputable def putN (l : List (Nat × β)) (n : Nat) (b : β) : List (Nat × β) := if (l.any fun x => decide (x.1 = n)) = true then l.map (fun x => if x.1 = n then (x.1, b) else x) else l ++ [(n, b)]
noncomputable def dropN (l : List (Nat × β)) (n : Nat) : List (Nat × β) := l.filter fun x => decide (x.1 ≠ n)
theorem inl_inj {a b : Nat} : ((Sum.inl (a : Int) : Key) = Sum.inl (b : Int)) ↔ a = b := ⟨fun h => Int.ofNat.inj (Sum.inl.inj h), fun h => by rw [h]⟩
theorem kvOf_keys (l : List (Nat × β)) : (kvOf c l).map (·.1) = (intsOf (l.map (·.1))).map Sum.inl := by
  unfold kvOf intsOf
  rw [List.map_map, List.map_map, List.map_map]
  rfl
theorem kvOf_len (l : List (Nat × β)) : (kvOf c l).length = l.length := by unfold kvOf; rw [List.length_map]
theorem kvOf_get : ∀ {l : List (Nat × β)} {n : Nat} {b : β}, (l.map (·.1)).Nodup → (n, b) ∈ l → valV (kvOf c l) (Sum.inl (n : Int)) = some (c b)
  | [], _, _, _, h => by cases h
  | x :: l, n, b, nd, h => by
    show valV ((Sum.inl (x.1 : Int), c x.2) :: kvOf c l) _ = _
    rw [List.map_cons, List.nodup_cons] at nd
    by_cases d : x.1 = n
    · rw [valV_pos (inl_inj.mpr d)]
      rcases List.mem_cons.mp h with e | e
      · rw [← e]
      · exact absurd (List.mem_map.mpr ⟨_, e, rfl⟩) (d ▸ nd.1)
    · rw [valV_neg fun e => d (inl_inj.mp e)]
      rcases List.mem_cons.mp h with e | e
      · exact absurd (by rw [← e]) d
      · exact kvOf_get nd.2 e
theorem kvOf_none : ∀ {l : List (Nat × β)} {n : Nat}, (∀ b, (n, b) ∉ l) → valV (kvOf c l) (Sum.inl (n : Int)) = none
  | [], _, _ => rfl
  | x :: l, n, h => by
    show valV ((Sum.inl (x.1 : Int), c x.2) :: kvOf c l) _ = _
    rw [valV_neg fun e => h x.2 (by rw [← inl_inj.mp e]; exact List.mem_cons_self)]
    exact kvOf_none fun a ha => h a (List.mem_cons_of_mem _ ha)
theorem kvOf_put (l : List (Nat × β)) (n : Nat) (b : β) : putK (kvOf c l) (Sum.inl (n : Int)) (c b) = kvOf c (putN l n b) := by
  unfold putK putN kvOf
  have e : ((l.map fun x => ((Sum.inl (x.1 : Int) : Key), c x.2)).any fun kv => decide (kv.1 = Sum.inl (n : Int))) = l.any fun x => decide (x.1 = n) := by
    rw [List.any_map]
    congr 1
    funext x
    exact decide_eq_decide.mpr inl_inj
  rw [e]
  by_cases h : (l.any fun x => decide (x.1 = n)) = true
  · rw [if_pos h, if_pos h, List.map_map, List.map_map]
    congr 1
    funext x
    show (if (Sum.inl (x.1 : Int) : Key) = Sum.inl (n : Int) then ((Sum.inl (x.1 : Int) : Key), c b) else (Sum.inl (x.1 : Int), c x.2)) = (Sum.inl ((if x.1 = n then (x.1, b) else x).1 : Int), c (if x.1 = n then (x.1, b) else x).2)
    by_cases d : x.1 = n
    · rw [if_pos (inl_inj.mpr d), if_pos d]
    · rw [if_neg (fun z => d (inl_inj.mp z)), if_neg d]
  · rw [if_neg h, if_neg h, List.map_append]
    rfl
theorem kvOf_drop (l : List (Nat × β)) (n : Nat) : dropK (kvOf c l) (Sum.inl (n : Int)) = kvOf c (dropN l n) := by
  unfold dropK dropN kvOf
  rw [List.filter_map]
  congr 1
  refine List.filter_congr fun x _ => ?_
  exact decide_eq_decide.mpr (not_congr inl_inj)
theorem mem_dropN {l : List (Nat × β)} {n m : Nat} {b : β} : (m, b) ∈ dropN l n ↔ m ≠ n ∧ (m, b) ∈ l := by
  unfold dropN
  rw [List.mem_filter, decide_eq_true_eq]
  exact and_comm
theorem dropN_nd {l : List (Nat × β)} {n : Nat} (h : (l.map (·.1)).Nodup) : ((dropN l n).map (·.1)).Nodup := by
  unfold dropN
  exact List.Sublist.nodup (List.Sublist.map _ List.filter_sublist) h
theorem any_iff {l : List (Nat × β)} {n : Nat} : (l.any fun x => decide (x.1 = n)) = true ↔ ∃ b, (n, b) ∈ l := by
  rw [List.any_eq_true]
  constructor
  · rintro ⟨x, hx, e⟩
    have e := of_decide_eq_true e
    exact ⟨x.2, by rw [← e]; exact hx⟩
  · rintro ⟨b, hb⟩
    exact ⟨_, hb, decide_eq_true rfl⟩
theorem mem_putN {l : List (Nat × β)} {n m : Nat} {b y : β} : (m, y) ∈ putN l n b ↔ (m = n ∧ y = b) ∨ (m ≠ n ∧ (m, y) ∈ l) := by
  unfold putN
  by_cases h : (l.any fun x => decide (x.1 = n)) = true
  · rw [if_pos h, List.mem_map]
    constructor
    · rintro ⟨x, hx, e⟩
      by_cases d : x.1 = n
      · rw [if_pos d] at e
        cases e
        exact .inl ⟨d, rfl⟩
      · rw [if_neg d] at e
        subst e
        exact .inr ⟨d, hx⟩
    · rintro (⟨rfl, rfl⟩ | ⟨d, hx⟩)
      · obtain ⟨z, hz⟩ := any_iff.mp h
        exact ⟨_, hz, if_pos rfl⟩
      · exact ⟨_, hx, if_neg d⟩
  · rw [if_neg h, List.mem_append]
    constructor
    · rintro (hx | hx)
      · exact .inr ⟨fun d => h (any_iff.mpr ⟨y, d ▸ hx⟩), hx⟩
      · have e := List.mem_singleton.mp hx
        cases e
        exact .inl ⟨rfl, rfl⟩
    · rintro (⟨rfl, rfl⟩ | ⟨d, hx⟩)
      · exact .inr (List.mem_singleton.mpr rfl)
      · exact .inl hx
theorem putN_nd {l : List (Nat × β)} {n : Nat} {b : β} (h : (l.map (·.1)).Nodup) : ((putN l n b).map (·.1)).Nodup := by
  unfold putN
  by_cases c : (l.any fun x => decide (x.1 = n)) = true
  · rw [if_pos c, List.map_map]
    have e : ((fun x : Nat × β => x.1) ∘ fun x : Nat × β => if x.1 = n then (x.1, b) else x) = fun x => x.1 := by
      funext x
      show (if x.1 = n then (x.1, b) else x).1 = x.1
      by_cases d : x.1 = n
      · rw [if_pos d]
      · rw [if_neg d]
    rw [e]
    exact h
  · rw [if_neg c, List.map_append, List.nodup_append]
    refine ⟨h, by simp, fun x hx y hy e => ?_⟩
    have e2 := List.mem_singleton.mp hy
    subst e2
    subst e
    obtain ⟨z, hz, e3⟩ := List.mem_map.mp hx
    exact c (any_iff.mpr ⟨z.2, by rw [← e3]; exact hz⟩)
theorem nd_key : ∀ {l : List (Nat × β)} {n : Nat} {a b : β}, (l.map (·.1)).Nodup → (n, a) ∈ l → (n, b) ∈ l → a = b
  | [], _, _, _, _, h, _ => by cases h
  | x :: l, n, a, b, nd, h1, h2 => by
    rw [List.map_cons, List.nodup_cons] at nd
    rcases List.mem_cons.mp h1 with e1 | e1
    · rcases List.mem_cons.mp h2 with e2 | e2
      · exact (Prod.mk.inj (e1.trans e2.symm)).2
      · exact absurd (List.mem_map.mpr ⟨_, e2, rfl⟩) (by rw [← e1] at nd; exact nd.1)
    · rcases List.mem_cons.mp h2 with e2 | e2
      · exact absurd (List.mem_map.mpr ⟨_, e1, rfl⟩) (by rw [← e2] at nd; exact nd.1)
      · exact nd_key nd.2 e1 e2
end
theorem nd_len {l : List Nat} {N : Nat} (nd : l.Nodup) (lt : ∀ x, x ∈ l → x < N) : l.length ≤ N := by
  have p := perm_of_mem (m := (List.range N).filter fun x => decide (x ∈ l)) nd (List.Pairwise.filter _ List.nodup_range) (fun x => by
    rw [List.mem_filter, List.mem_range, decide_eq_true_eq]
    exact ⟨fun h => ⟨lt x h, h⟩, fun h => h.2⟩)
  rw [p.length_eq]
  exact Nat.le_trans (List.length_filter_le _ _) (by rw [List.length_range]; exact Nat.le_refl _)
noncomputable def pN : List Str := ["now", "groups", "owners"]
noncomputable def pV (now : Nat) (dg dm : Addr) : List V := [.int (now : Int), .ref dg, .ref dm]
noncomputable def pfs (now : Nat) (dg dm : Addr) : List (Str × V) := pN.zip (pV now dg dm)
theorem pN_nd : pN.Nodup := by decide +kernel
theorem p_now (now : Nat) (dg dm : Addr) : (pfs now dg dm).lookup ("now" : Str) = some (V.int (now : Int)) := zip_lk (i := 0) pN_nd rfl rfl
theorem p_groups (now : Nat) (dg dm : Addr) : (pfs now dg dm).lookup ("groups" : Str) = some (V.ref dg) := zip_lk (i := 1) pN_nd rfl rfl
theorem p_owners (now : Nat) (dg dm : Addr) : (pfs now dg dm).lookup ("owners" : Str) = some (V.ref dm) := zip_lk (i := 2) pN_nd rfl rfl
theorem p_no (now : Nat) (dg dm : Addr) {m : Str} (h : m ∉ pN) : (pfs now dg dm).lookup m = none := zip_no h
theorem p_put_now (now : Nat) (dg dm : Addr) (z : Nat) : putF "now" (.int (z : Int)) (pfs now dg dm) = pfs z dg dm := zip_put (i := 0) pN_nd rfl (by show 0 < 3; decide)
theorem p_put_groups (now : Nat) (dg dm z : Addr) : putF "groups" (.ref z) (pfs now dg dm) = pfs now z dm := zip_put (i := 1) pN_nd rfl (by show 1 < 3; decide)
theorem p_put_owners (now : Nat) (dg dm z : Addr) : putF "owners" (.ref z) (pfs now dg dm) = pfs now dg z := zip_put (i := 2) pN_nd rfl (by show 2 < 3; decide)
theorem p_new (dg dm : Addr) : putF "owners" (.ref dm) (putF "groups" (.ref dg) (putF "now" (.int 0) [])) = pfs 0 dg dm := by
  rw [show putF "now" (V.int 0) [] = (["now"] : List Str).zip [V.int 0] from rfl,
    show putF "groups" (V.ref dg) ((["now"] : List Str).zip [V.int 0]) = (["now", "groups"] : List Str).zip [V.int 0, V.ref dg] from zip_new (by decide +kernel) rfl,
    show putF "owners" (V.ref dm) ((["now", "groups"] : List Str).zip [V.int 0, V.ref dg]) = (["now", "groups", "owners"] : List Str).zip [V.int 0, V.ref dg, V.ref dm] from zip_new (by decide +kernel) rfl]
  rfl
theorem pfs_gfs {now : Nat} {dg dm : Addr} {g : Sq04.Group} (h : pfs now dg dm = gfs g) : False := by
  have e := congrArg List.length h
  have e1 : (3 : Nat) = 11 := e
  cases e1
structure Gs (C : Addr) (H : Hp) (gl : List (Nat × Addr)) (f : Nat → Option Sq04.Group) : Prop where
  nk : (gl.map (·.1)).Nodup
  na : ∀ n m a, (n, a) ∈ gl → (m, a) ∈ gl → n = m
  at_ : ∀ n a, (n, a) ∈ gl → ∃ g, f n = some g ∧ GrpAt C H a g
  all : ∀ n g, f n = some g → ∃ a, (n, a) ∈ gl
structure Ms (ml : List (Nat × Nat)) (m : Nat → Option Nat) : Prop where
  nk : (ml.map (·.1)).Nodup
  at_ : ∀ c g, (c, g) ∈ ml → m c = some g
  all : ∀ c g, m c = some g → (c, g) ∈ ml
noncomputable abbrev gkv (gl : List (Nat × Addr)) : List (Key × V) := kvOf V.ref gl
noncomputable abbrev cN : Nat → V := fun g => V.int (g : Int)
noncomputable abbrev mkv (ml : List (Nat × Nat)) : List (Key × V) := kvOf cN ml
structure PlanIn (CG CP : Addr) (H : Hp) (p dx dg dm : Addr) (gl : List (Nat × Addr)) (ml : List (Nat × Nat)) (now : Nat) (f : Nat → Option Sq04.Group) (m : Nat → Option Nat) : Prop where
  hp : H p = some (.ins CP dx (pfs now dg dm))
  hg : H dg = some (.dK (gkv gl))
  hm : H dm = some (.dK (mkv ml))
  ne : dg ≠ dm
  gs : Gs CG H gl f
  ms : Ms ml m
noncomputable def PlanAt (CG CP : Addr) (H : Hp) (p : Addr) (st : Sq04.State) : Prop := ∃ dx dg dm gl ml, PlanIn CG CP H p dx dg dm gl ml st.now st.group (memb st)
structure KeepQ (H H' : Hp) : Prop where
  k : ∀ b o, H b = some o → (∀ C dx fs, o ≠ .ins C dx fs) → (∀ kvs, o ≠ .dK kvs) → H' b = some o
  t : ∀ b o, H b = some o → ∃ o', H' b = some o'
theorem KeepQ.trans {H H1 H2 : Hp} (x : KeepQ H H1) (y : KeepQ H1 H2) : KeepQ H H2 := ⟨fun b o e h1 h2 => y.k b o (x.k b o e h1 h2) h1 h2, fun b o e => let ⟨o', e'⟩ := x.t b o e; y.t b o' e'⟩
theorem keepQ_same {H H' : Hp} (s : Same H H') : KeepQ H H' := ⟨fun b o e _ _ => s b o e, fun b o e => ⟨o, s b o e⟩⟩
theorem KeepQ.refl (H : Hp) : KeepQ H H := keepQ_same (Same.refl H)
theorem upd_there {H : Hp} {a : Addr} {u : HO} (b : Addr) (o : HO) (e : H b = some o) : ∃ o', upd H a u b = some o' := by
  by_cases c : b = a
  · subst c; exact ⟨u, upd_same⟩
  · exact ⟨o, by rw [upd_ne c]; exact e⟩
theorem keepQ_ins {H : Hp} {a C dx : Addr} {fs : List (Str × V)} {o : HO} (h : H a = some (.ins C dx fs)) : KeepQ H (upd H a o) := ⟨fun b u e h1 _ => by
  rw [upd_ne (ne_of e h (h1 C dx fs))]; exact e, upd_there⟩
theorem keepQ_dK {H : Hp} {a : Addr} {kvs : List (Key × V)} {o : HO} (h : H a = some (.dK kvs)) : KeepQ H (upd H a o) := ⟨fun b u e _ h2 => by
  rw [upd_ne (ne_of e h (h2 kvs))]; exact e, upd_there⟩
theorem keepQ_but {H H' : Hp} {a C dx : Addr} {fs : List (Str × V)} {u : HO} (h : H a = some (.ins C dx fs)) (b : But a H H') (h' : H' a = some u) : KeepQ H H' := ⟨fun c u e h1 _ => b c u e (ne_of e h (h1 C dx fs)), fun c o e => by
  by_cases d : c = a
  · subst d; exact ⟨u, h'⟩
  · exact ⟨o, b c o e d⟩⟩
theorem KeepQ.lst {H H' : Hp} {l : Addr} {xs : List V} (k : KeepQ H H') (h : H l = some (.lst xs)) : H' l = some (.lst xs) := k.k _ _ h (fun _ _ _ z => by cases z) (fun _ z => by cases z)
theorem KeepQ.tup {H H' : Hp} {l : Addr} {xs : List V} (k : KeepQ H H') (h : H l = some (.tup xs)) : H' l = some (.tup xs) := k.k _ _ h (fun _ _ _ z => by cases z) (fun _ z => by cases z)
theorem KeepQ.free {H H' : Hp} {l : Addr} (k : KeepQ H H') (h : H' l = Option.none) : H l = Option.none := by
  cases e : H l with
  | none => rfl
  | some o =>
    obtain ⟨o', e'⟩ := k.t l o e
    rw [h] at e'
    cases e'
theorem KeepQ.seq {K : PySem.W.Frag} {H H' : Hp} {a : Addr} {xs : List V} (e : KeepQ H H') (h : SqL K H a xs) : SqL K H' a xs := by
  rcases h with (h | ⟨o, h⟩) | h
  · exact .inl (.inl (e.lst h))
  · exact .inl (.inr ⟨o, e.k _ _ h (fun _ _ _ z => by cases z) (fun _ z => by cases z)⟩)
  · exact .inr h
noncomputable def ButL (a : Addr) (H H' : Hp) : Prop := ∀ b o, H b = some o → b ≠ a → (∀ xs, o ≠ .lst xs) → H' b = some o
theorem But.butL {a : Addr} {H H' : Hp} (x : But a H H') : ButL a H H' := fun b o e n _ => x b o e n
theorem Gs.same {C : Addr} {H H' : Hp} {gl : List (Nat × Addr)} {f : Nat → Option Sq04.Group} (g : Gs C H gl f) (s : ∀ n a, (n, a) ∈ gl → ∀ u, GrpAt C H a u → GrpAt C H' a u) : Gs C H' gl f :=
  ⟨g.nk, g.na, fun n a hx => let ⟨u, e, h⟩ := g.at_ n a hx; ⟨u, e, s n a hx u h⟩, g.all⟩
section
variable {CG CP : Addr} {H H' : Hp} {p dx dg dm : Addr} {gl : List (Nat × Addr)} {ml : List (Nat × Nat)} {now : Nat} {f f' : Nat → Option Sq04.Group} {m m' : Nat → Option Nat}
theorem PlanIn.same (h : PlanIn CG CP H p dx dg dm gl ml now f m) (s : Same H H') :
    PlanIn CG CP H' p dx dg dm gl ml now f m := ⟨s _ _ h.hp, s _ _ h.hg, s _ _ h.hm, h.ne, h.gs.same fun _ _ _ _ g => g.same s, h.ms⟩
theorem PlanAt.same {st : Sq04.State} (h : PlanAt CG CP H p st) (s : Same H H') : PlanAt CG CP H' p st := let ⟨dx, dg, dm, gl, ml, h⟩ := h; ⟨dx, dg, dm, gl, ml, h.same s⟩
theorem Gs.get {C : Addr} (G : Gs C H gl f) {n : Nat} {g : Sq04.Group} (h : f n = some g) : ∃ a, (n, a) ∈ gl ∧ valV (gkv gl) (Sum.inl (n : Int)) = some (.ref a) ∧ GrpAt C H a g := by
  obtain ⟨a, ha⟩ := G.all n g h
  obtain ⟨u, e, hu⟩ := G.at_ _ _ ha
  have : u = g := Option.some.inj (e.symm.trans h)
  subst this
  exact ⟨a, ha, kvOf_get G.nk ha, hu⟩
theorem Gs.no {C : Addr} (G : Gs C H gl f) {n : Nat} (h : f n = none) : valV (gkv gl) (Sum.inl (n : Int)) = none :=
  kvOf_none fun a ha => by obtain ⟨u, e', _⟩ := G.at_ _ _ ha; rw [h] at e'; cases e'
theorem Gs.isSome {C : Addr} (G : Gs C H gl f) (n : Nat) : (valV (gkv gl) (Sum.inl (n : Int))).isSome = (f n).isSome := by
  cases e : f n with
  | none => rw [G.no e]; rfl
  | some g =>
    obtain ⟨a, _, h, _⟩ := G.get e
    rw [h]; rfl
theorem Ms.val (M : Ms ml m) (c : Nat) : valV (mkv ml) (Sum.inl (c : Int)) = (m c).map cN := by
  cases e : m c with
  | none => exact kvOf_none fun a ha => by have := M.at_ _ _ ha; rw [e] at this; cases this
  | some g => exact kvOf_get M.nk (M.all c g e)
theorem PlanIn.apart (h : PlanIn CG CP H p dx dg dm gl ml now f m) {n : Nat} {a : Addr} (mem : (n, a) ∈ gl) : p ≠ a ∧ dg ≠ a ∧ dm ≠ a := by
  obtain ⟨u, e, dxa, ha⟩ := h.gs.at_ n a mem
  refine ⟨fun z => ?_, ne_of h.hg ha (by intro z; cases z), ne_of h.hm ha (by intro z; cases z)⟩
  subst z
  have e2 := h.hp.symm.trans ha
  injection e2 with e3
  injection e3 with _ _ e4
  exact pfs_gfs e4
theorem PlanIn.pg (h : PlanIn CG CP H p dx dg dm gl ml now f m) : p ≠ dg := ne_of h.hp h.hg (by intro z; cases z)
theorem PlanIn.pm (h : PlanIn CG CP H p dx dg dm gl ml now f m) : p ≠ dm := ne_of h.hp h.hm (by intro z; cases z)
theorem PlanIn.grp (h : PlanIn CG CP H p dx dg dm gl ml now f m) {n : Nat} {a : Addr} {g' : Sq04.Group} (mem : (n, a) ∈ gl) (hg' : GrpAt CG H' a g') (b : ButL a H H') (hf : ∀ k, f' k = if k = n then some g' else f k) : PlanIn CG CP H' p dx dg dm gl ml now f' m := by
  obtain ⟨n1, n2, n3⟩ := h.apart mem
  refine ⟨b _ _ h.hp n1 (fun _ z => by cases z), b _ _ h.hg n2 (fun _ z => by cases z), b _ _ h.hm n3 (fun _ z => by cases z), h.ne, ⟨h.gs.nk, h.gs.na, fun k c hk => ?_, fun k g e => ?_⟩, h.ms⟩
  · by_cases d : k = n
    · subst d
      have e := nd_key h.gs.nk hk mem
      subst e
      exact ⟨g', by rw [hf, if_pos rfl], hg'⟩
    · obtain ⟨u, e, dxc, hc⟩ := h.gs.at_ k c hk
      exact ⟨u, by rw [hf, if_neg d]; exact e, dxc, b _ _ hc (fun z => d (h.gs.na _ _ _ (z ▸ hk) mem)) (fun _ z => by cases z)⟩
  · rw [hf] at e
    by_cases d : k = n
    · subst d; exact ⟨a, mem⟩
    · rw [if_neg d] at e; exact h.gs.all k g e
theorem PlanIn.setNow (h : PlanIn CG CP H p dx dg dm gl ml now f m) (now' : Nat) : PlanIn CG CP (upd H p (.ins CP dx (pfs now' dg dm))) p dx dg dm gl ml now' f m := by
  refine ⟨upd_same, by rw [upd_ne h.pg.symm]; exact h.hg, by rw [upd_ne h.pm.symm]; exact h.hm, h.ne, h.gs.same fun n a ha u hu => ?_, h.ms⟩
  obtain ⟨dxa, e⟩ := hu
  exact ⟨dxa, by rw [upd_ne (h.apart ha).1.symm]; exact e⟩
theorem PlanIn.setG (h : PlanIn CG CP H p dx dg dm gl ml now f m) {gl' : List (Nat × Addr)} (gs : Gs CG H gl' f') : PlanIn CG CP (upd H dg (.dK (gkv gl'))) p dx dg dm gl' ml now f' m := by
  refine ⟨by rw [upd_ne h.pg]; exact h.hp, upd_same, by rw [upd_ne h.ne.symm]; exact h.hm, h.ne, gs.same fun n a ha u hu => ?_, h.ms⟩
  obtain ⟨dxa, e⟩ := hu
  exact ⟨dxa, by rw [upd_ne (ne_of e h.hg (by intro z; cases z))]; exact e⟩
theorem PlanIn.setM (h : PlanIn CG CP H p dx dg dm gl ml now f m) {ml' : List (Nat × Nat)} (ms : Ms ml' m') : PlanIn CG CP (upd H dm (.dK (mkv ml'))) p dx dg dm gl ml' now f m' := by
  refine ⟨by rw [upd_ne h.pm]; exact h.hp, by rw [upd_ne h.ne]; exact h.hg, upd_same, h.ne, h.gs.same fun n a ha u hu => ?_, ms⟩
  obtain ⟨dxa, e⟩ := hu
  exact ⟨dxa, by rw [upd_ne (ne_of e h.hm (by intro z; cases z))]; exact e⟩
theorem Gs.put {C x : Addr} (G : Gs C H gl f) {n : Nat} {g' : Sq04.Group} (hx : GrpAt C H x g') (fr : ∀ k, (k, x) ∉ gl) (hf : ∀ k, f' k = if k = n then some g' else f k) : Gs C H (putN gl n x) f' := by
  refine ⟨putN_nd G.nk, fun a b c h1 h2 => ?_, fun k c hk => ?_, fun k g e => ?_⟩
  · rcases mem_putN.mp h1 with ⟨e1, e2⟩ | ⟨e1, e2⟩
    · rcases mem_putN.mp h2 with ⟨e3, e4⟩ | ⟨e3, e4⟩
      · rw [e1, e3]
      · rw [e2] at e4; exact absurd e4 (fr _)
    · rcases mem_putN.mp h2 with ⟨e3, e4⟩ | ⟨e3, e4⟩
      · rw [e4] at e2; exact absurd e2 (fr _)
      · exact G.na _ _ _ e2 e4
  · rcases mem_putN.mp hk with ⟨e1, e2⟩ | ⟨e1, e2⟩
    · subst e1; subst e2; exact ⟨g', by rw [hf, if_pos rfl], hx⟩
    · obtain ⟨u, e3, e4⟩ := G.at_ k c e2
      exact ⟨u, by rw [hf, if_neg e1]; exact e3, e4⟩
  · rw [hf] at e
    by_cases d : k = n
    · exact ⟨x, mem_putN.mpr (.inl ⟨d, rfl⟩)⟩
    · rw [if_neg d] at e
      obtain ⟨a, ha⟩ := G.all k g e
      exact ⟨a, mem_putN.mpr (.inr ⟨d, ha⟩)⟩
theorem Gs.drop {C : Addr} (G : Gs C H gl f) {n : Nat} (hf : ∀ k, f' k = if k = n then none else f k) : Gs C H (dropN gl n) f' := by
  refine ⟨dropN_nd G.nk, fun a b c h1 h2 => G.na _ _ _ (mem_dropN.mp h1).2 (mem_dropN.mp h2).2, fun k c hk => ?_, fun k g e => ?_⟩
  · obtain ⟨e1, e2⟩ := mem_dropN.mp hk
    obtain ⟨u, e3, e4⟩ := G.at_ k c e2
    exact ⟨u, by rw [hf, if_neg e1]; exact e3, e4⟩
  · rw [hf] at e
    by_cases d : k = n
    · rw [if_pos d] at e; cases e
    · rw [if_neg d] at e
      obtain ⟨a, ha⟩ := G.all k g e
      exact ⟨a, mem_dropN.mpr ⟨d, ha⟩⟩
theorem Ms.put (M : Ms ml m) {c g : Nat} (hm : ∀ k, m' k = if k = c then some g else m k) : Ms (putN ml c g) m' := by
  refine ⟨putN_nd M.nk, fun k b hk => ?_, fun k b e => ?_⟩
  · rcases mem_putN.mp hk with ⟨e1, e2⟩ | ⟨e1, e2⟩
    · rw [hm, if_pos e1, e2]
    · rw [hm, if_neg e1]; exact M.at_ _ _ e2
  · rw [hm] at e
    by_cases d : k = c
    · rw [if_pos d] at e; exact mem_putN.mpr (.inl ⟨d, (Option.some.inj e).symm⟩)
    · rw [if_neg d] at e; exact mem_putN.mpr (.inr ⟨d, M.all _ _ e⟩)
theorem Ms.drop (M : Ms ml m) {c : Nat} (hm : ∀ k, m' k = if k = c then none else m k) : Ms (dropN ml c) m' := by
  refine ⟨dropN_nd M.nk, fun k b hk => ?_, fun k b e => ?_⟩
  · obtain ⟨e1, e2⟩ := mem_dropN.mp hk
    rw [hm, if_neg e1]; exact M.at_ _ _ e2
  · rw [hm] at e
    by_cases d : k = c
    · rw [if_pos d] at e; cases e
    · rw [if_neg d] at e; exact mem_dropN.mpr ⟨d, M.all _ _ e⟩
theorem Gs.lt {C : Addr} {st : Sq04.State} (ok : SOk st) (G : Gs C H gl st.group) : ∀ c, c ∈ gl.map (·.1) → c < 16 := fun c hc => by
  obtain ⟨x, hx, rfl⟩ := List.mem_map.mp hc
  by_cases h : x.1 < 16
  · exact h
  · obtain ⟨u, e, _⟩ := G.at_ x.1 x.2 hx
    rw [group_far ok (by omega)] at e
    cases e
theorem Ms.lt {st : Sq04.State} (ok : SOk st) (M : Ms ml (memb st)) : ∀ c, c ∈ ml.map (·.1) → c < 64 := fun c hc => by
  obtain ⟨x, hx, rfl⟩ := List.mem_map.mp hc
  by_cases h : x.1 < 64
  · exact h
  · have := M.at_ x.1 x.2 hx
    rw [memb_far ok (by omega)] at this
    cases this
theorem Gs.len {C : Addr} {st : Sq04.State} (ok : SOk st) (G : Gs C H gl st.group) : gl.length ≤ 16 := by
  have := nd_len G.nk (G.lt ok)
  rw [List.length_map] at this
  exact this
theorem Ms.len {st : Sq04.State} (ok : SOk st) (M : Ms ml (memb st)) : ml.length ≤ 64 := by
  have := nd_len M.nk (M.lt ok)
  rw [List.length_map] at this
  exact this
end
section
variable {P : Program} {w : World} {K : PySem.W.Frag} {mg : Str → Option Value} {base : Heap} {A : Adr}
theorem fresh_group (n : Nat) : Sq04.fresh.group n = none := by
  cases e : Sq04.fresh.group n with
  | none => rfl
  | some g =>
    have h := group_some e
    unfold Sq04.fresh at h
    simp only [List.getElem?_replicate] at h
    split at h <;> simp at h
theorem fresh_memb (n : Nat) : memb Sq04.fresh n = none := by
  unfold memb Sq04.fresh
  rw [List.getD_eq_getElem?_getD]
  simp only [List.getElem?_replicate]
  split <;> rfl
theorem plan_fresh {CG CP : Addr} {H : Hp} {p dx dg dm : Addr} (hp : H p = some (.ins CP dx (pfs 0 dg dm))) (hg : H dg = some (.dK [])) (hm : H dm = some (.dK [])) (ne : dg ≠ dm) : PlanAt CG CP H p Sq04.fresh :=
  ⟨dx, dg, dm, [], [], hp, hg, hm, ne, ⟨List.nodup_nil, fun _ _ _ h => (by cases h), fun _ _ h => (by cases h), fun n g h => by rw [fresh_group] at h; cases h⟩, ⟨List.nodup_nil, fun _ _ h => (by cases h), fun n g h => by rw [fresh_memb] at h; cases h⟩⟩
noncomputable def sp_reset (CG CP : Addr) : Sp := fun vs H Q _ => ∃ (p dx : Addr) (fs : List (Str × V)), vs = [.ref p] ∧ H p = some (.ins CP dx fs) ∧ (fs = [] ∨ ∃ now dg dm, fs = pfs now dg dm) ∧ ∀ H' : Hp, PlanAt CG CP H' p Sq04.fresh → But p H H' → Q .non H'
theorem ok_Plan_reset (T : Txt K mg A) : FnOk P w K mg base CX0 1 A.f_Plan_reset A.d_Plan_reset ["self"] (sp_reset A.C_Group A.C_Plan) := by
  refine T.Plan_reset.F.ok sc_Plan_reset (fun vs H Q E h => ?_) (fun cdv A' outer s H vs Q E hr h => ?_)
  · obtain ⟨p, dx, fs, rfl, _⟩ := h
    rfl
  · obtain ⟨p, dx, fs, rfl, hp, hfs, q⟩ := h
    have hl : fs.length ≤ 3 := by
      rcases hfs with rfl | ⟨now, dg, dm, rfl⟩
      · exact Nat.zero_le _
      · exact Nat.le_refl _
    have l1 := length_putF "now" (V.int 0) fs
    refine ⟨_, (pss_cons (ps_fld (pv 0) pe_int rfl)
      (pss_cons (ps_fld (pv 0) pe_dnewK rfl)
      (pss_one (ps_fld (pv 0) pe_dnewK rfl)))), ?_⟩
    refine rd_seq (rd_fld ev_c ev_var hp T.c_Plan T.n_Plan_now (by omega) ?_)
    refine rd_seq (rd_fldN (fun _ => ev_var) upd_same T.c_Plan T.n_Plan_groups (by omega) fun dg ng => ?_)
    have npg : p ≠ dg := ne_of_none upd_same ng
    have l2 := length_putF "groups" (V.ref dg) (putF "now" (V.int 0) fs)
    refine rd_fldN (fun _ => ev_var) upd_same T.c_Plan T.n_Plan_owners (by omega) fun dm nm => ?_
    have npm : p ≠ dm := ne_of_none upd_same nm
    have ngm : dg ≠ dm := ne_of_none (by rw [upd_ne npg.symm, upd_same]) nm
    refine q _ (plan_fresh (dx := dx) (dg := dg) (dm := dm) ?_ ?_ ?_ ngm) ?_
    · rw [upd_same]
      rcases hfs with rfl | ⟨now, dg', dm', rfl⟩
      · rw [p_new]
      · rw [show putF "now" (V.int 0) (pfs now dg' dm') = pfs 0 dg' dm' from p_put_now now dg' dm' 0, p_put_groups, p_put_owners]
    · rw [upd_ne npg.symm, upd_ne ngm, upd_ne npg.symm, upd_same]
    · rw [upd_ne npm.symm, upd_same]
    · intro b o e hb
      have n1 : upd H p (HO.ins A.C_Plan dx (putF "now" (V.int 0) fs)) b = some o := by rw [upd_ne hb]; exact e
      have nbg : b ≠ dg := ne_of_none n1 ng
      have nbm : b ≠ dm := ne_of_none (o := o) (by rw [upd_ne hb, upd_ne nbg]; exact n1) nm
      rw [upd_ne hb, upd_ne nbm, upd_ne hb, upd_ne nbg]
      exact n1
noncomputable def sp_Plan_init (CG CP : Addr) : Sp := fun vs H Q _ => ∃ (p dx : Addr), vs = [.ref p] ∧ H p = some (.ins CP dx []) ∧ ∀ H' : Hp, PlanAt CG CP H' p Sq04.fresh → But p H H' → Q .non H'
theorem ok_Plan_init (T : Txt K mg A) : FnOk P w K mg base CX0 2 A.f_Plan_init A.d_Plan_init ["self"] (sp_Plan_init A.C_Group A.C_Plan) := by
  refine T.Plan_init.F.ok sc_Plan_init (fun vs H Q E h => ?_) (fun cdv A' outer s H vs Q E hr h => ?_)
  · obtain ⟨p, dx, rfl, _⟩ := h
    rfl
  · obtain ⟨p, dx, rfl, hp, q⟩ := h
    refine ⟨_, (pss_one (ps_expr (pe_meth0 (pv 0) T.c_Plan T.Plan_reset.m (ok_Plan_reset T) (hr.mono (by decide)) T.Plan_reset.b .nil pass0))), ?_⟩
    exact rd_drop (rd_meth ev_var hp rfl ea_nil ⟨p, dx, _, rfl, hp, .inl rfl, q⟩)
theorem map_at {α β : Type} {f : α → β} {l : List α} {i : Nat} {x : β} (h : (l.map f)[i]? = some x) : ∃ c, l[i]? = some c ∧ x = f c := by
  rw [List.getElem?_map] at h
  cases e : l[i]? with
  | none => rw [e] at h; cases h
  | some c => rw [e] at h; exact ⟨c, rfl, (Option.some.inj h).symm⟩
theorem ints_at {l : List Nat} {i : Nat} {x : V} (h : ((intsOf l).map V.int)[i]? = some x) : ∃ c : Nat, l[i]? = some c ∧ x = V.int (c : Int) := by
  obtain ⟨z, hz, rfl⟩ := map_at h
  obtain ⟨c, hc, rfl⟩ := map_at hz
  exact ⟨c, hc, rfl⟩
noncomputable def sp_channels_of (CG CP : Addr) : Sp := fun vs H Q _ => ∃ (p : Addr) (st : Sq04.State) (n : Nat), vs = [.ref p, .int (n : Int)] ∧ PlanAt CG CP H p st ∧ SOk st ∧ NewS H (nums (st.channels n)) Q
theorem ok_Plan_channels_of (T : Txt K mg A) : FnOk P w K mg base CX0 1 A.f_Plan_channels_of A.d_Plan_channels_of ["self", "number"] (sp_channels_of A.C_Group A.C_Plan) := by
  refine T.Plan_channels_of.F.ok sc_Plan_channels_of (fun vs H Q E h => ?_) (fun cdv A' outer s H vs Q E hr h => ?_)
  · obtain ⟨p, st, n, rfl, _⟩ := h
    rfl
  · obtain ⟨p, st, n, rfl, ⟨dx, dg, dm, gl, ml, h⟩, ok, q⟩ := h
    have hu := hu_of hr
    refine ⟨_, (pss_one (ps_ret (pe_lc (tt := tTest (tOp (rI0 fun i j => V.bl (decide (i = j))) (tDGet (tFld K (tVar 0) "owners") (tVar 2)) (tVar 1))) rfl sc_Plan_channels_of.nd (pi_list (pe_callB (cr_sortedD rfl) (by rfl) T.b_sorted boot_sorted (pa_cons (pe_fld (pv 0) rfl) pa_nil))) (blkOk_by (N := ["self", "number", "channel"]) (sc := defScope s_Plan_channels_of) (own := [("channel", 2)]) (by decide +kernel)) (fun _ _ _ _ _ => pg_name (i := 2) sc_Plan_channels_of.nd rfl (Or.inl rfl)) (fun _ _ _ _ _ => (pts_one (pt_cmpR op_eqI (pe_dget (by exact hu) (pe_fld (pv 0) rfl) (pv 2) (fun _ _ => rfl)) (pv 1) (nomark _)))) (fun _ _ _ _ _ => (pv 2))))), ?_⟩
    refine rd_ret' (rd_lc (rd_sortedD (ev_fld ev_var h.hp T.c_Plan T.n_Plan_owners (p_owners _ _ _)) h.hm (kvOf_keys ml) fun ns l1 pm so n1 => ⟨l1, rfl, ⟨_, SqL.of upd_same⟩, fun D nD => ?_⟩))
    have e1 := keys_sorted h.ms.nk (h.ms.lt ok) pm so
    subst e1
    generalize eks : (List.range 64).filter (fun x => decide (x ∈ ml.map (·.1))) = ks at nD ⊢
    have hks : ∀ c, c ∈ ks → c ∈ ml.map (·.1) := fun c hc => by
      rw [← eks, List.mem_filter] at hc
      exact of_decide_eq_true hc.2
    have s1 := same_new (o := .lst ((intsOf ks).map V.int)) n1
    have s2 := fun o => s1.trans (same_new (o := o) nD)
    have lks : ks.length ≤ 64 := by rw [← eks]; exact Nat.le_trans (List.length_filter_le _ _) (by rw [List.length_range]; exact Nat.le_refl _)
    refine lcw_by (xs := (intsOf ks).map V.int) (fun i H' => H' = upd (upd H l1 (.lst ((intsOf ks).map V.int))) D (.lst (nums ((ks.take i).filter fun c => decide (memb st c = some n))))) rfl ?_ ?_ ?_
    · rintro i H' _ rfl
      exact SqL.of (same_new nD _ _ upd_same)
    · rintro i x H' hi rfl
      obtain ⟨c, hc, rfl⟩ := ints_at hi
      obtain ⟨y, hy, ey⟩ := List.mem_map.mp (hks c (List.mem_of_getElem? hc))
      have hv := h.ms.val c
      have em : memb st c = some y.2 := by rw [← ey]; exact h.ms.at_ y.1 y.2 hy
      rw [em] at hv
      refine lct_if rfl (et_t (ev_0 (ev_dget (k := Sum.inl (c : Int)) (ev_fld ev_var (s2 _ _ _ h.hp) T.c_Plan T.n_Plan_owners (p_owners _ _ _)) ev_var (s2 _ _ _ h.hm) hv) ev_var)) (fun h0 => ?_) (fun h0 => ?_)
      · have e : y.2 = n := by
          exact Int.ofNat.inj (of_decide_eq_true h0)
        refine rd_var rfl ⟨_, upd_same, ?_, ?_⟩
        · rw [nums_len]
          exact small1000 (Nat.le_trans (List.length_filter_le _ _) (by rw [List.length_take]; omega))
        · rw [upd_upd, take_snoc' hc, List.filter_append, List.filter_cons, if_pos (decide_eq_true (by rw [em, e])), List.filter_nil, nums_snoc]
      · have e : ¬ y.2 = n := fun z => by
          have := of_decide_eq_false h0
          exact this (by rw [z])
        show _ = _
        rw [take_snoc' hc, List.filter_append, List.filter_cons, if_neg (fun z => e (by have := of_decide_eq_true z; rw [em] at this; exact Option.some.inj this)), List.filter_nil, List.append_nil]
    · rintro H' rfl
      rw [List.length_map, ints_len, List.take_length]
      refine q _ D ?_ (s2 _) (s1.free nD)
      rw [upd_same, ← eks, channels_keys fun c _ hn => ?_]
      cases e : memb st c with
      | none => exact absurd e hn
      | some g => exact List.mem_map.mpr ⟨_, h.ms.all c g e, rfl⟩
noncomputable def sp_free_channel (CG CP : Addr) : Sp := fun vs H Q _ => ∃ (p dx dg dm : Addr) (gl : List (Nat × Addr)) (ml : List (Nat × Nat)) (now c : Nat) (f : Nat → Option Sq04.Group) (m m' : Nat → Option Nat), vs = [.ref p, .int (c : Int)] ∧ PlanIn CG CP H p dx dg dm gl ml now f m ∧ (∀ k, m' k = if k = c then none else m k) ∧
  ∀ (H' : Hp) (ml' : List (Nat × Nat)), PlanIn CG CP H' p dx dg dm gl ml' now f m' → KeepQ H H' → Q .non H'
theorem ok_Plan_free_channel (T : Txt K mg A) : FnOk P w K mg base CX0 1 A.f_Plan_free_channel A.d_Plan_free_channel ["self", "channel"] (sp_free_channel A.C_Group A.C_Plan) := by
  refine T.Plan_free_channel.F.ok sc_Plan_free_channel (fun vs H Q E h => ?_) (fun cdv A' outer s H vs Q E hr h => ?_)
  · obtain ⟨p, dx, dg, dm, gl, ml, now, c, f, m, m', rfl, _⟩ := h
    rfl
  · obtain ⟨p, dx, dg, dm, gl, ml, now, c, f, m, m', rfl, h, hm, q⟩ := h
    have hu := hu_of hr
    refine ⟨_, (pss_one (ps_if (pt_cmp (pc_din (by exact hu) (pv 1) (pe_fld (pv 0) rfl))) (pss_one (ps_expr (pe_dpop1 (pe_fld (pv 0) rfl) (pv 1) ⟨rfl, rfl, rfl, rfl⟩))) pss_nil)), ?_⟩
    have hv := h.ms.val c
    refine if_of (et_b (ev_din (k := Sum.inl (c : Int)) ev_var (ev_fld ev_var h.hp T.c_Plan T.n_Plan_owners (p_owners _ _ _)) h.hm)) (fun h0 => ?_) (fun h0 => ?_)
    · rw [hv] at h0
      cases e : m c with
      | none => rw [e] at h0; cases h0
      | some g =>
        rw [e] at hv
        refine rd_drop (rd_dpop (k := Sum.inl (c : Int)) (ev_fld ev_var h.hp T.c_Plan T.n_Plan_owners (p_owners _ _ _)) ev_var h.hm hv ?_)
        rw [kvOf_drop]
        exact q _ _ (h.setM (h.ms.drop hm)) (keepQ_dK h.hm)
    · rw [hv] at h0
      have e : m c = none := by
        cases e : m c with
        | none => rfl
        | some g => rw [e] at h0; cases h0
      refine rd_nil (q H ml ⟨h.hp, h.hg, h.hm, h.ne, h.gs, ?_⟩ (KeepQ.refl H))
      have em : m' = m := funext fun k => by
        rw [hm]
        by_cases d : k = c
        · rw [if_pos d, d, e]
        · rw [if_neg d]
      rw [em]
      exact h.ms
noncomputable def sp_groups_on (CG CP : Addr) : Sp := fun vs H Q _ => ∃ (p : Addr) (st : Sq04.State), vs = [.ref p] ∧ PlanAt CG CP H p st ∧ SOk st ∧
  ∀ (H' : Hp) (l : Addr) (as : List (Addr × Sq04.Group)), H' l = some (.lst (as.map fun x => V.ref x.1)) → Same H H' → H l = none → as.map (·.2) = st.live.map (·.2) → (∀ x, x ∈ as → GrpAt CG H x.1 x.2) → Q (.ref l) H'
theorem ok_Plan_groups_on (T : Txt K mg A) : FnOk P w K mg base CX0 1 A.f_Plan_groups_on A.d_Plan_groups_on ["self"] (sp_groups_on A.C_Group A.C_Plan) := by
  refine T.Plan_groups_on.F.ok sc_Plan_groups_on (fun vs H Q E h => ?_) (fun cdv A' outer s H vs Q E hr h => ?_)
  · obtain ⟨p, st, rfl, _⟩ := h
    rfl
  · obtain ⟨p, st, rfl, ⟨dx, dg, dm, gl, ml, h⟩, ok, q⟩ := h
    have hu := hu_of hr
    refine ⟨_, (pss_one (ps_ret (pe_lc (tt := tB (tFld K (tDGet (tFld K (tVar 0) "groups") (tVar 1)) "active")) (te := tDGet (tFld K (tVar 0) "groups") (tVar 1)) rfl sc_Plan_groups_on.nd (pi_list (pe_callB (cr_sortedD rfl) (by rfl) T.b_sorted boot_sorted (pa_cons (pe_fld (pv 0) rfl) pa_nil))) (blkOk_by (N := ["self", "number"]) (sc := defScope s_Plan_groups_on) (own := [("number", 1)]) (by decide +kernel)) (fun _ _ _ _ _ => pg_name (i := 1) sc_Plan_groups_on.nd rfl (Or.inl rfl)) (fun _ _ _ _ _ => (pts_one (pt_val (pe_fld (pe_dget (by exact hu) (pe_fld (pv 0) rfl) (pv 1) (fun _ _ => rfl)) rfl)))) (fun _ _ _ _ _ => (pe_dget (by exact hu) (pe_fld (pv 0) rfl) (pv 1) (fun _ _ => rfl)))))), ?_⟩
    refine rd_ret' (rd_lc (rd_sortedD (ev_fld ev_var h.hp T.c_Plan T.n_Plan_groups (p_groups _ _ _)) h.hg (kvOf_keys gl) fun ns l1 pm so n1 => ⟨l1, rfl, ⟨_, SqL.of upd_same⟩, fun D nD => ?_⟩))
    have e1 := keys_sorted h.gs.nk (h.gs.lt ok) pm so
    subst e1
    have ek := live_keys (s := st) (l := gl.map (·.1)) fun n _ hn => by
      cases e : st.group n with
      | none => exact absurd e hn
      | some g =>
        obtain ⟨a, ha⟩ := h.gs.all n g e
        exact List.mem_map.mpr ⟨_, ha, rfl⟩
    generalize eks : (List.range 16).filter (fun x => decide (x ∈ gl.map (·.1))) = ks at nD ek ⊢
    have hks : ∀ c, c ∈ ks → c ∈ gl.map (·.1) := fun c hc => by
      rw [← eks, List.mem_filter] at hc
      exact of_decide_eq_true hc.2
    have s1 := same_new (o := .lst ((intsOf ks).map V.int)) n1
    have s2 := fun o => s1.trans (same_new (o := o) nD)
    have lks : ks.length ≤ 16 := by rw [← eks]; exact Nat.le_trans (List.length_filter_le _ _) (by rw [List.length_range]; exact Nat.le_refl _)
    refine lcw_by (xs := (intsOf ks).map V.int) (fun i H' => ∃ as : List (Addr × Sq04.Group), H' = upd (upd H l1 (.lst ((intsOf ks).map V.int))) D (.lst (as.map fun x => V.ref x.1)) ∧ as.map (·.2) = ((ks.take i).filterMap (livePick st.group)).map (·.2) ∧ as.length ≤ i ∧ ∀ x, x ∈ as → GrpAt A.C_Group H x.1 x.2) ⟨[], rfl, rfl, Nat.zero_le _, fun _ h => by cases h⟩ ?_ ?_ ?_
    · rintro i H' _ ⟨as, rfl, _⟩
      exact SqL.of (same_new nD _ _ upd_same)
    · rintro i x H' hi ⟨as, rfl, ea, la, ga⟩
      obtain ⟨c, hc, rfl⟩ := ints_at hi
      obtain ⟨y, hy, ey⟩ := List.mem_map.mp (hks c (List.mem_of_getElem? hc))
      obtain ⟨u, eu, dxu, hau⟩ := h.gs.at_ y.1 y.2 hy
      rw [ey] at eu
      have hv := kvOf_get (c := V.ref) h.gs.nk (n := y.1) (b := y.2) hy
      rw [ey] at hv
      have li : i < ks.length := (List.getElem?_eq_some_iff.mp hc).1
      refine lct_if rfl (et_b (ev_fld (ev_dget (k := Sum.inl (c : Int)) (ev_fld ev_var (s2 _ _ _ h.hp) T.c_Plan T.n_Plan_groups (p_groups _ _ _)) ev_var (s2 _ _ _ h.hg) hv) (s2 _ _ _ hau) T.c_Group T.n_Group_active (g_active _))) (fun h0 => ?_) (fun h0 => ?_)
      · refine ev_dget (k := Sum.inl (c : Int)) (ev_fld ev_var (s2 _ _ _ h.hp) T.c_Plan T.n_Plan_groups (p_groups _ _ _)) ev_var (s2 _ _ _ h.hg) hv _ ⟨_, upd_same, ?_, as ++ [(y.2, u)], ?_, ?_, ?_, ?_⟩
        · rw [List.length_map]
          exact small1000 (by omega)
        · rw [upd_upd, List.map_append]
          rfl
        · have e2 : livePick st.group c = some (c, u) := by
            unfold livePick
            rw [eu]
            exact if_pos h0
          rw [take_snoc' hc, List.filterMap_append, List.map_append, List.map_append, ea, List.filterMap_cons, e2]
          rfl
        · rw [List.length_append]
          show as.length + 1 ≤ i + 1
          omega
        · intro x hx
          rcases List.mem_append.mp hx with hx | hx
          · exact ga x hx
          · rw [List.mem_singleton.mp hx]
            exact ⟨dxu, hau⟩
      · refine ⟨as, rfl, ?_, by omega, ga⟩
        have e2 : livePick st.group c = none := by
          unfold livePick
          rw [eu]
          exact if_neg (by rw [h0]; exact Bool.false_ne_true)
        rw [take_snoc' hc, List.filterMap_append, List.map_append, ea, List.filterMap_cons, e2]
        rw [List.filterMap_nil, List.map_nil, List.append_nil]
    · rintro H' ⟨as, rfl, ea, la, ga⟩
      rw [List.length_map, ints_len, List.take_length, ek] at ea
      exact q _ D as upd_same (s2 _) (s1.free nD) ea ga
noncomputable def intsV (l : List Int) : List V := l.map V.int
theorem intsV_len (l : List Int) : (intsV l).length = l.length := by unfold intsV; rw [List.length_map]
theorem intsV_append (l k : List Int) : intsV (l ++ k) = intsV l ++ intsV k := by unfold intsV; rw [List.map_append]
theorem same_upd {H H' : Hp} {l : Addr} {o : HO} (s : Same H H') (h : H l = none) : Same H (upd H' l o) := fun b u e => by
  rw [upd_ne (ne_of_none e h)]
  exact s b u e
noncomputable abbrev Pl := Addr × Nat × Nat
noncomputable def refs (as : List Pl) : List V := as.map fun x => V.ref x.1
noncomputable def Tups (H : Hp) (as : List Pl) : Prop := ∀ x, x ∈ as → H x.1 = some (.tup [.int (x.2.1 : Int), .int (x.2.2 : Int)])
theorem Tups.keep {H H' : Hp} {as : List Pl} (t : Tups H as) (s : KeepQ H H') : Tups H' as := fun x hx => s.tup (t x hx)
theorem flat_len {α : Type} {f : α → List Int} {k : Nat} : ∀ l : List α, (∀ x, (f x).length ≤ k) → (l.flatMap f).length ≤ l.length * k
  | [], _ => by simp
  | x :: l, h => by
    rw [List.flatMap_cons, List.length_append, List.length_cons, Nat.add_mul, Nat.one_mul]
    have := flat_len l h
    have := h x
    omega
theorem told2_len (st : Sq04.State) (x : Nat × Nat) : (told2 st x).length ≤ 68 := by
  unfold told2
  have := channels_len st x.2
  simp only [List.length_cons, List.length_map]
  omega
theorem size_le {n : Nat} (h : n ≤ 100000) : n ≤ sizeLine := by rw [sizeLine_eq]; omega
noncomputable def sp_tell (CG CP : Addr) : Sp := fun vs H Q _ => ∃ (p : Addr) (st : Sq04.State) (l1 l2 : Addr) (as1 as2 : List Pl), vs = [.ref p, .ref l1, .ref l2] ∧ PlanAt CG CP H p st ∧ SOk st ∧ H l1 = some (.lst (refs as1)) ∧ H l2 = some (.lst (refs as2)) ∧ Tups H as1 ∧ Tups H as2 ∧
  as1.length ≤ 16 ∧ as2.length ≤ 512 ∧ NewS H (intsV (tellOf st (as1.map (·.2)) (as2.map (·.2)))) Q
theorem ok_Plan_tell (T : Txt K mg A) : FnOk P w K mg base CX0 2 A.f_Plan_tell A.d_Plan_tell ["self", "late", "wanted"] (sp_tell A.C_Group A.C_Plan) := by
  refine T.Plan_tell.F.ok sc_Plan_tell (fun vs H Q E h => ?_) (fun cdv A' outer s H vs Q E hr h => ?_)
  · obtain ⟨p, st, l1, l2, as1, as2, rfl, _⟩ := h
    rfl
  · obtain ⟨p, st, l1, l2, as1, as2, rfl, hP, ok, h1, h2, t1, t2, n1, n2, q⟩ := h
    refine ⟨_, (pss_cons (ps_set (i := 3) sc_Plan_tell.nd rfl (Or.inl rfl) (pe_lst (pa_cons (pe_op op_add (pe_callB call_len_seq (by rfl) T.b_len PySem.boot_len (pa_cons (pv 1) pa_nil)) (pe_callB call_len_seq (by rfl) T.b_len PySem.boot_len (pa_cons (pv 2) pa_nil))) pa_nil)))
      (pss_cons (ps_for PassesOwn.never rfl (pi_list (pv 1)) (pg_name (i := 4) sc_Plan_tell.nd rfl (Or.inl rfl))
        (pss_one (ps_expr (pe_bm PySem.F.plainAttrs_list PySem.F.slot_list_extend PySem.F.type_list_extend mt_extend (pv 3) (pa_cons (pe_lst (pa_cons (pe_glob (v := .int (1)) rfl T.g_TOO_LATE ⟨_, rfl⟩) (pa_cons (pe_ix ix_tup (pv 4) pe_int (fun _ _ => rfl)) (pa_cons (pe_ix ix_tup (pv 4) pe_int (fun _ _ => rfl)) pa_nil)))) pa_nil)))))
      (pss_cons (ps_for PassesOwn.never rfl (pi_list (pv 2)) (pg_name (i := 4) sc_Plan_tell.nd rfl (Or.inl rfl))
        (pss_cons (ps_set (i := 5) sc_Plan_tell.nd rfl (Or.inl rfl) (pe_meth (pv 0) T.c_Plan T.Plan_channels_of.m (ok_Plan_channels_of T) (hr.mono (by decide)) T.Plan_channels_of.b .nil pass0 (pa_cons (pe_ix ix_tup (pv 4) pe_int (fun _ _ => rfl)) pa_nil)))
      (pss_cons (ps_expr (pe_bm PySem.F.plainAttrs_list PySem.F.slot_list_extend PySem.F.type_list_extend mt_extend (pv 3) (pa_cons (pe_lst (pa_cons (pe_glob (v := .int (2)) rfl T.g_TO_READ ⟨_, rfl⟩) (pa_cons (pe_ix ix_tup (pv 4) pe_int (fun _ _ => rfl)) (pa_cons (pe_ix ix_tup (pv 4) pe_int (fun _ _ => rfl)) (pa_cons (pe_callB call_len_seq (by rfl) T.b_len PySem.boot_len (pa_cons (pv 5) pa_nil)) pa_nil))))) pa_nil)))
      (pss_one (ps_expr (pe_bm PySem.F.plainAttrs_list PySem.F.slot_list_extend PySem.F.type_list_extend mt_extend (pv 3) (pa_cons (pv 5) pa_nil)))))))
      (pss_one (ps_ret (pv 3)))))), ?_⟩
    refine rd_seq (rd_set' (rd_lst (ea_cons (ev_0 (ev_len (ea_cons ev_var ea_nil) (SqL.of h1)) (ev_len (ea_cons ev_var ea_nil) (SqL.of h2))) ea_nil) (by show 1 ≤ sizeLine; decide) fun l nl => ?_))
    have len1 : (refs as1).length = as1.length := by unfold refs; rw [List.length_map]
    have len2 : (refs as2).length = as2.length := by unfold refs; rw [List.length_map]
    have e0 : (((refs as1).length : Nat) : Int) + ((refs as2).length : Nat) = (((as1.map (·.2)).length + (as2.map (·.2)).length : Nat) : Int) := by
      rw [len1, len2, List.length_map, List.length_map]; omega
    rw [e0]
    have q : NewS H (intsV ((((as1.map (·.2)).length + (as2.map (·.2)).length : Nat) : Int) :: ((as1.map (·.2)).flatMap told1 ++ (as2.map (·.2)).flatMap (told2 st)))) Q := q
    generalize (((as1.map (·.2)).length + (as2.map (·.2)).length : Nat) : Int) = z0 at q ⊢
    -- for pair in late
    refine rd_seq (rd_each (a := l1) (xs := refs as1) ev_var (SqL.of (same_new nl _ _ h1)) (fun i σ H' => Same H H' ∧ H' l = some (.lst (intsV (z0 :: ((as1.map (·.2)).take i).flatMap told1))) ∧ ∃ v4, σ = [some (.ref p), some (.ref l1), some (.ref l2), some (.ref l), v4, none])
      ⟨same_new nl, upd_same, none, rfl⟩ (fun i σ H' _ ⟨s', _⟩ => SqL.of (s' _ _ h1)) ?_ ?_)
    · rintro i x σ H' hi ⟨s', hl, v4, rfl⟩
      obtain ⟨y, hy, rfl⟩ := map_at hi
      have ty := SqT.of (K := K) (s' _ _ (t1 y (List.mem_of_getElem? hy)))
      refine rd_name (rd_drop (rd_extN ev_var hl (rd_lst (ea_cons ev_c (ea_cons (ev_ixT (j := 0) ev_var ev_c ty rfl) (ea_cons (ev_ixT (j := 1) ev_var ev_c ty rfl) ea_nil))) (by show 3 ≤ sizeLine; decide) fun q1 nq => ?_)))
      have hl' := same_new (o := .lst [V.int 1, V.int (y.2.1 : Int), V.int (y.2.2 : Int)]) nq _ _ hl
      refine ⟨l, q1, _, _, rfl, rfl, hl', upd_same, ?_, ?_⟩
      · rw [intsV_len]
        have := flat_len (f := told1) (k := 3) ((as1.map (·.2)).take i) fun _ => Nat.le_refl _
        have l4 : ((as1.map (·.2)).take i).length ≤ 16 := by rw [List.length_take, List.length_map]; omega
        refine size_le ?_
        show (z0 :: ((as1.map (·.2)).take i).flatMap told1).length + 3 ≤ 100000
        rw [List.length_cons]
        omega
      · refine ⟨same_upd (s'.trans (same_new nq)) nl, ?_, _, rfl⟩
        rw [upd_same, take_snoc' (x := y.2) (by rw [List.getElem?_map, hy]; rfl), List.flatMap_append, List.flatMap_cons, List.flatMap_nil, List.append_nil]
        unfold intsV
        rw [← List.cons_append, List.map_append]
        rfl
    · rintro σ H1 ⟨s1, hl1, v4, rfl⟩
      rw [len1, ← List.length_map (f := fun x : Pl => x.2), List.take_length] at hl1
      have len3 : ((as1.map (·.2)).flatMap told1).length ≤ 48 := by
        have := flat_len (f := told1) (k := 3) (as1.map (·.2)) fun _ => Nat.le_refl _
        rw [List.length_map] at this
        omega
      refine rd_seq (rd_each (a := l2) (xs := refs as2) ev_var (SqL.of (s1 _ _ h2)) (fun i σ H' => Same H H' ∧ H' l = some (.lst (intsV (z0 :: ((as1.map (·.2)).flatMap told1 ++ ((as2.map (·.2)).take i).flatMap (told2 st))))) ∧ ∃ v4 v5, σ = [some (.ref p), some (.ref l1), some (.ref l2), some (.ref l), v4, v5])
        ⟨s1, by rw [hl1, List.take_zero, List.flatMap_nil, List.append_nil], v4, none, rfl⟩ (fun i σ H' _ ⟨s', _⟩ => SqL.of (s' _ _ h2)) ?_ ?_)
      · rintro i x σ H' hi ⟨s', hl, v4, v5, rfl⟩
        obtain ⟨y, hy, rfl⟩ := map_at hi
        have ty0 := s' _ _ (t2 y (List.mem_of_getElem? hy))
        have hP' := hP.same s'
        obtain ⟨dx, dg, dm, gl, ml, hp⟩ := hP'
        refine rd_name (rd_seq (rd_set' (rd_meth ev_var hp.hp (p_no _ _ _ (by decide +kernel)) (ea_cons (ev_ixT (j := 1) ev_var ev_c (SqT.of ty0) rfl) ea_nil) ⟨p, st, y.2.2, rfl, hP.same s', ok, fun H2 c hc s2 nc => ?_⟩)))
        have hl2 := s2 _ _ hl
        have ty := SqT.of (K := K) (s2 _ _ ty0)
        have nlc : c ≠ l := (ne_of_none hl nc).symm
        have lc := channels_len st y.2.2
        refine rd_seq (rd_drop (rd_extN ev_var hl2 (rd_lst (ea_cons ev_c (ea_cons (ev_ixT (j := 1) ev_var ev_c ty rfl) (ea_cons (ev_ixT (j := 0) ev_var ev_c ty rfl) (ea_cons (ev_len (ea_cons ev_var ea_nil) (SqL.of hc)) ea_nil)))) (by show 4 ≤ sizeLine; decide) fun q1 nq => ?_)))
        have ncq : c ≠ q1 := ne_of_none hc nq
        have l5 := flat_len (f := told2 st) (k := 68) ((as2.map (·.2)).take i) (told2_len st)
        have l6 : ((as2.map (·.2)).take i).length ≤ 512 := by rw [List.length_take, List.length_map]; omega
        refine ⟨l, q1, _, _, rfl, rfl, same_new nq _ _ hl2, upd_same, ?_, ?_⟩
        · rw [intsV_len]
          refine size_le ?_
          show (z0 :: ((as1.map (·.2)).flatMap told1 ++ ((as2.map (·.2)).take i).flatMap (told2 st))).length + 4 ≤ 100000
          rw [List.length_cons, List.length_append]
          omega
        refine rd_drop (rd_extE ev_var ev_var upd_same (by rw [upd_ne nlc, upd_ne ncq]; exact hc) ?_ ?_)
        · rw [List.length_append, intsV_len, nums_len]
          refine size_le ?_
          show (z0 :: ((as1.map (·.2)).flatMap told1 ++ ((as2.map (·.2)).take i).flatMap (told2 st))).length + 4 + (st.channels y.2.2).length ≤ 100000
          rw [List.length_cons, List.length_append]
          omega
        · refine ⟨same_upd (same_upd ((s'.trans s2).trans (same_new nq)) nl) nl, ?_, _, _, rfl⟩
          rw [upd_same, take_snoc' (x := y.2) (by rw [List.getElem?_map, hy]; rfl), List.flatMap_append (f := told2 st), List.flatMap_cons (f := told2 st), List.flatMap_nil, List.append_nil, nums_len]
          unfold intsV told2 nums
          simp only [List.map_cons, List.map_append, List.map_map, List.cons_append, List.append_assoc, List.nil_append, List.map_nil]
          rfl
      · rintro σ H' ⟨s', hl, v4, v5, rfl⟩
        rw [len2, ← List.length_map (f := fun x : Pl => x.2), List.take_length] at hl
        exact rd_ret ev_var (q H' l hl s' nl)
end
end RP
set_option Elab.async false
set_option linter.all false
set_option maxRecDepth 100000
set_option maxHeartbeats 2000000
namespace RP
open PySem PySem.Spec PyProof.Rows L2 RT
noncomputable def part (f : Nat → Option Sq04.Group) (now : Nat) (done : List Nat) : Nat → Option Sq04.Group := fun k => if k ∈ done then (f k).map (gone now) else f k
theorem part_nil (f : Nat → Option Sq04.Group) (now : Nat) : part f now [] = f := by
  funext k
  unfold part
  rw [if_neg (by simp)]
theorem part_snoc {f : Nat → Option Sq04.Group} {now c : Nat} {l : List Nat} {g : Sq04.Group} (h : f c = some g) (k : Nat) : part f now (l ++ [c]) k = if k = c then some (gone now g) else part f now l k := by
  unfold part
  by_cases d : k = c
  · subst d
    rw [if_pos (by simp), if_pos rfl, h]
    rfl
  · rw [if_neg d]
    by_cases e : k ∈ l
    · rw [if_pos e, if_pos (List.mem_append.mpr (.inl e))]
    · rw [if_neg e, if_neg fun z => by
        rcases List.mem_append.mp z with z | z
        · exact e z
        · exact d (List.mem_singleton.mp z)]
theorem part_all {st : Sq04.State} {now : Nat} {ks : List Nat} (h : ∀ k g, st.group k = some g → k ∈ ks) : part st.group now ks = (st.pass now).1.group := by
  funext k
  rw [pass_gone]
  unfold part
  by_cases e : k ∈ ks
  · rw [if_pos e]
  · rw [if_neg e]
    cases q : st.group k with
    | none => rfl
    | some g => exact absurd (h k g q) e
noncomputable def But3 (a l1 l2 : Addr) (H H' : Hp) : Prop := ∀ b o, H b = some o → b ≠ a → b ≠ l1 → b ≠ l2 → H' b = some o
theorem But3.trans {a l1 l2 : Addr} {H H1 H2 : Hp} (x : But3 a l1 l2 H H1) (y : But3 a l1 l2 H1 H2) : But3 a l1 l2 H H2 := fun b o e n1 n2 n3 => y b o (x b o e n1 n2 n3) n1 n2 n3
theorem But3.of1 {a l1 l2 : Addr} {H H' : Hp} (x : But a H H') : But3 a l1 l2 H H' := fun b o e n1 _ _ => x b o e n1
theorem But3.of2 {a l1 l2 : Addr} {H : Hp} {o : HO} : But3 a l1 l2 H (upd H l1 o) := fun b u e _ n _ => by rw [upd_ne n]; exact e
theorem But3.of3 {a l1 l2 : Addr} {H : Hp} {o : HO} : But3 a l1 l2 H (upd H l2 o) := fun b u e _ _ n => by rw [upd_ne n]; exact e
theorem But3.same {a l1 l2 : Addr} {H H' : Hp} (s : Same H H') : But3 a l1 l2 H H' := fun b o e _ _ _ => s b o e
structure GoInv (CG CP : Addr) (H H' : Hp) (p dx dg dm l0 l1 l2 : Addr) (gl : List (Nat × Addr)) (ml : List (Nat × Nat)) (st : Sq04.State) (now : Nat) (ks : List Nat) (i : Nat) (as1 as2 : List Pl) : Prop where
  pl : PlanIn CG CP H' p dx dg dm gl ml st.now (part st.group now (ks.take i)) (memb st)
  kq : KeepQ H H'
  e0 : H' l0 = some (.lst ((intsOf ks).map V.int))
  e1 : H' l1 = some (.lst (refs as1))
  e2 : H' l2 = some (.lst (refs as2))
  t1 : Tups H' as1
  t2 : Tups H' as2
  w1 : as1.map (·.2) = ((ks.take i).filterMap (livePick st.group)).map fun x => (x.1, (x.2.due now).1)
  w2 : as2.map (·.2) = ((ks.take i).filterMap (livePick st.group)).flatMap fun x => (wantedOf x.2 now).map fun t => (t, x.1)
  z1 : as1.length ≤ i
  z2 : as2.length ≤ 32 * i
theorem refs_append (l k : List Pl) : refs (l ++ k) = refs l ++ refs k := by unfold refs; rw [List.map_append]
theorem refs_len (l : List Pl) : (refs l).length = l.length := by unfold refs; rw [List.length_map]
theorem live_snoc {ks : List Nat} {i c : Nat} {st : Sq04.State} {g : Sq04.Group} (hc : ks[i]? = some c) (e : st.group c = some g) (on : g.on = true) : (ks.take (i + 1)).filterMap (livePick st.group) = (ks.take i).filterMap (livePick st.group) ++ [(c, g)] := by
  have e2 : livePick st.group c = some (c, g) := by
    unfold livePick
    rw [e]
    exact if_pos on
  rw [take_snoc' hc, List.filterMap_append, List.filterMap_cons, e2]
  rfl
theorem live_skip {ks : List Nat} {i c : Nat} {st : Sq04.State} {g : Sq04.Group} (hc : ks[i]? = some c) (e : st.group c = some g) (off : g.on = false) : (ks.take (i + 1)).filterMap (livePick st.group) = (ks.take i).filterMap (livePick st.group) := by
  have e2 : livePick st.group c = none := by
    unfold livePick
    rw [e]
    exact if_neg (by rw [off]; exact Bool.false_ne_true)
  rw [take_snoc' hc, List.filterMap_append, List.filterMap_cons, e2, List.filterMap_nil, List.append_nil]
theorem GoInv.skip {CG CP : Addr} {H H' : Hp} {p dx dg dm l0 l1 l2 : Addr} {gl : List (Nat × Addr)} {ml : List (Nat × Nat)} {st : Sq04.State} {now : Nat} {ks : List Nat} {i c : Nat} {as1 as2 : List Pl} {g : Sq04.Group}
    (G : GoInv CG CP H H' p dx dg dm l0 l1 l2 gl ml st now ks i as1 as2) (hc : ks[i]? = some c) (nc : c ∉ ks.take i) (e : st.group c = some g) (off : g.on = false) : GoInv CG CP H H' p dx dg dm l0 l1 l2 gl ml st now ks (i + 1) as1 as2 := by
  have ef : part st.group now (ks.take (i + 1)) = part st.group now (ks.take i) := by
    funext k
    rw [take_snoc' hc, part_snoc e]
    by_cases d : k = c
    · subst d
      rw [if_pos rfl]
      unfold part gone
      rw [if_neg nc, e, if_neg (by rw [off]; exact Bool.false_ne_true)]
    · rw [if_neg d]
  refine ⟨by rw [ef]; exact G.pl, G.kq, G.e0, G.e1, G.e2, G.t1, G.t2, ?_, ?_, by have := G.z1; omega, by have := G.z2; omega⟩
  · rw [live_skip hc e off]; exact G.w1
  · rw [live_skip hc e off]; exact G.w2
theorem GoInv.step {CG CP : Addr} {H H' H7 : Hp} {p dx dg dm l0 l1 l2 : Addr} {gl : List (Nat × Addr)} {ml : List (Nat × Nat)} {st : Sq04.State} {now : Nat} {ks : List Nat} {i c : Nat} {as1 as2 bs : List Pl} {g : Sq04.Group} {a t1 : Addr}
    (G : GoInv CG CP H H' p dx dg dm l0 l1 l2 gl ml st now ks i as1 as2) (hc : ks[i]? = some c) (mem : (c, a) ∈ gl) (e : st.group c = some g) (on : g.on = true) (gs : GSt g now) (f1 : H l1 = none) (f2 : H l2 = none) (n01 : l0 ≠ l1) (n02 : l0 ≠ l2)
    (b : But3 a l1 l2 H' H7) (hg : GrpAt CG H7 a (gone now g)) (h1 : H7 l1 = some (.lst (refs (as1 ++ [(t1, c, (g.due now).1)])))) (h2 : H7 l2 = some (.lst (refs (as2 ++ bs))))
    (ht : H7 t1 = some (.tup [.int (c : Int), .int ((g.due now).1 : Nat)])) (tb : Tups H7 bs) (eb : bs.map (·.2) = (wantedOf g now).map fun t => (t, c)) :
    GoInv CG CP H H7 p dx dg dm l0 l1 l2 gl ml st now ks (i + 1) (as1 ++ [(t1, c, (g.due now).1)]) (as2 ++ bs) := by
  obtain ⟨u, eu, dxu, hau⟩ := G.pl.gs.at_ c a mem
  have nl1 : ∀ b o, H' b = some o → (∀ xs, o ≠ .lst xs) → b ≠ l1 := fun b o x y => ne_of x G.e1 (y _)
  have nl2 : ∀ b o, H' b = some o → (∀ xs, o ≠ .lst xs) → b ≠ l2 := fun b o x y => ne_of x G.e2 (y _)
  have bL : ButL a H' H7 := fun c' o x y z => b c' o x y (nl1 c' o x z) (nl2 c' o x z)
  have na0 : l0 ≠ a := ne_of G.e0 hau (by intro z; cases z)
  have len := wanted_short (now := now) gs.ok
  have lb : bs.length ≤ 32 := by
    have z := congrArg List.length eb
    rw [List.length_map, List.length_map] at z
    omega
  refine ⟨G.pl.grp mem hg bL fun k => ?_, ⟨fun c' o x y z => ?_, fun c' o x => ?_⟩, b _ _ G.e0 na0 n01 n02, h1, h2, fun x hx => ?_, fun x hx => ?_, ?_, ?_, ?_, ?_⟩
  · rw [take_snoc' hc, part_snoc e]
  · have x' := G.kq.k c' o x y z
    exact b c' o x' (ne_of x' hau (y _ _ _)) (ne_of_none x f1) (ne_of_none x f2)
  · obtain ⟨o', x'⟩ := G.kq.t c' o x
    by_cases d : c' = a
    · obtain ⟨q, hq⟩ := hg
      exact ⟨_, by rw [d]; exact hq⟩
    · exact ⟨o', b c' o' x' d (ne_of_none x f1) (ne_of_none x f2)⟩
  · rcases List.mem_append.mp hx with hx | hx
    · have x' := G.t1 x hx
      exact bL _ _ x' (ne_of x' hau (by intro z; cases z)) (by intro _ z; cases z)
    · rw [List.mem_singleton.mp hx]
      exact ht
  · rcases List.mem_append.mp hx with hx | hx
    · have x' := G.t2 x hx
      exact bL _ _ x' (ne_of x' hau (by intro z; cases z)) (by intro _ z; cases z)
    · exact tb x hx
  · rw [live_snoc hc e on, List.map_append, List.map_append, G.w1]
    rfl
  · rw [live_snoc hc e on, List.map_append, List.flatMap_append, G.w2, eb, List.flatMap_cons, List.flatMap_nil, List.append_nil]
  · rw [List.length_append]
    have := G.z1
    show as1.length + 1 ≤ i + 1
    omega
  · rw [List.length_append]
    have := G.z2
    omega
noncomputable def toI (x : Pl) : Addr × Int × Int := (x.1, (x.2.1 : Int), (x.2.2 : Int))
theorem refs_toI (l : List Pl) : refs l = (l.map toI).map fun x => V.ref x.1 := by
  unfold refs
  rw [List.map_map]
  rfl
section
variable {P : Program} {w : World} {K : PySem.W.Frag} {mg : Str → Option Value} {base : Heap} {A : Adr}
noncomputable def sp_go_on (CG CP : Addr) : Sp := fun vs H Q _ => ∃ (p : Addr) (st : Sq04.State) (now : Nat), vs = [.ref p, .int (now : Int)] ∧ PlanAt CG CP H p st ∧ SOk st ∧ st.now ≤ now ∧
  ∀ (H' : Hp) (l : Addr), H' l = some (.lst (intsV (ansOf st now))) → PlanAt CG CP H' p (st.pass now).1 → KeepQ H H' → H l = none → Q (.ref l) H'
theorem ok_Plan_go_on (T : Txt K mg A) : FnOk P w K mg base CX0 6 A.f_Plan_go_on A.d_Plan_go_on ["self", "now"] (sp_go_on A.C_Group A.C_Plan) := by
  refine T.Plan_go_on.F.ok sc_Plan_go_on (fun vs H Q E h => ?_) (fun cdv A' outer s H vs Q E hr h => ?_)
  · obtain ⟨p, st, now, rfl, _⟩ := h
    rfl
  · obtain ⟨p, st, now, rfl, ⟨dx, dg, dm, gl, ml, h⟩, ok, hnow, q⟩ := h
    have hu := hu_of hr
    refine ⟨_, (pss_cons (ps_set (i := 2) sc_Plan_go_on.nd rfl (Or.inl rfl) (pe_lst pa_nil))
      (pss_cons (ps_set (i := 3) sc_Plan_go_on.nd rfl (Or.inl rfl) (pe_lst pa_nil))
      (pss_cons (ps_for PassesOwn.never rfl (pi_list (pe_callB (cr_sortedD rfl) (by rfl) T.b_sorted boot_sorted (pa_cons (pe_fld (pv 0) rfl) pa_nil))) (pg_name (i := 4) sc_Plan_go_on.nd rfl (Or.inr rfl))
        (pss_cons (ps_set (i := 5) sc_Plan_go_on.nd rfl (Or.inl rfl) (pe_dget (by exact hu) (pe_fld (pv 0) rfl) (pv 4) (fun _ _ => rfl)))
      (pss_one (ps_if (pt_val (pe_fld (pv 5) rfl)) (pss_cons (ps_expr (pe_bm PySem.F.plainAttrs_list PySem.F.slot_list_append PySem.F.type_list_append mt_append (pv 2) (pa_cons (pe_tup (pa_cons (pv 4) (pa_cons (pe_meth (pv 5) T.c_Group T.Group_take_missed.m (ok_Group_take_missed T) (hr.mono (by decide)) T.Group_take_missed.b .nil pass0 (pa_cons (pv 1) pa_nil)) pa_nil))) pa_nil)))
      (pss_cons (ps_expr (pe_bm PySem.F.plainAttrs_list PySem.F.slot_list_extend PySem.F.type_list_extend mt_extend (pv 3) (pa_cons (pe_lc rfl sc_Plan_go_on.nd (pi_list (pe_meth (pv 5) T.c_Group T.Group_take_wanted.m (ok_Group_take_wanted T) (hr.mono (by decide)) T.Group_take_wanted.b .nil pass0 (pa_cons (pv 1) pa_nil))) (blkOk_by (N := ["self", "now", "late", "wanted", "number", "group", "at", "pair"]) (sc := defScope s_Plan_go_on) (own := [("at", 6)]) (by decide +kernel)) (fun _ _ _ _ _ => pg_name (i := 6) sc_Plan_go_on.nd rfl (Or.inl rfl)) (fun _ _ _ _ _ => pts_nil) (fun _ _ _ _ _ => (pe_tup (pa_cons (pv 6) (pa_cons (pv 4) pa_nil))))) pa_nil)))
      (pss_one (ps_fld (pv 5) (pe_op op_add (pv 1) pe_int) rfl)))) pss_nil))))
      (pss_cons (ps_fld (pv 0) (pv 1) rfl)
      (pss_one (ps_ret (pe_meth (pv 0) T.c_Plan T.Plan_tell.m (ok_Plan_tell T) (hr.mono (by decide)) T.Plan_tell.b .nil pass0 (pa_cons (pe_lc (tt := tTest (tOp (rI0 fun i j => V.bl (decide (j < i))) (tOp (rIxT K) (tVar 7) (tC (V.int 1))) (tC (V.int 0)))) rfl sc_Plan_go_on.nd (pi_list (pv 2)) (blkOk_by (N := ["self", "now", "late", "wanted", "number", "group", "at", "pair"]) (sc := defScope s_Plan_go_on) (own := [("pair", 7)]) (by decide +kernel)) (fun _ _ _ _ _ => pg_name (i := 7) sc_Plan_go_on.nd rfl (Or.inl rfl)) (fun _ _ _ _ _ => (pts_one (pt_cmpR op_gt (pe_ix ix_tup (pv 7) pe_int (fun _ _ => rfl)) pe_int (nomark _)))) (fun _ _ _ _ _ => (pv 7))) (pa_cons (pe_callB cr_sortedT (by rfl) T.b_sorted boot_sorted (pa_cons (pv 3) pa_nil)) pa_nil))))))))), ?_⟩
    refine rd_seq (rd_set' (rd_lst ea_nil (Nat.zero_le _) fun l1 n1 => rd_seq (rd_set' (rd_lst ea_nil (Nat.zero_le _) fun l2 n2 => ?_))))
    have S1 := same_new (o := .lst []) n1
    have S2 := S1.trans (same_new (o := .lst []) n2)
    have f2 : H l2 = none := S1.free n2
    have n12 : l1 ≠ l2 := ne_of_none upd_same n2
    refine rd_seq (rd_for (rd_sortedD (ev_fld ev_var (S2 _ _ h.hp) T.c_Plan T.n_Plan_groups (p_groups _ _ _)) (S2 _ _ h.hg) (kvOf_keys gl) fun ns l0 pm so n0 => ⟨l0, rfl, ⟨_, SqL.of upd_same⟩, ?_⟩))
    have n01 : l0 ≠ l1 := (ne_of_none (o := .lst []) (by rw [upd_ne n12, upd_same]) n0).symm
    have n02 : l0 ≠ l2 := fun z => by rw [z, upd_same] at n0; cases n0
    have e1 := keys_sorted h.gs.nk (h.gs.lt ok) pm so
    subst e1
    have hall : ∀ n g, st.group n = some g → n ∈ (List.range 16).filter (fun x => decide (x ∈ gl.map (·.1))) := fun n g e => by
      obtain ⟨a, ha⟩ := h.gs.all n g e
      rw [List.mem_filter, List.mem_range]
      have hm : n ∈ gl.map (·.1) := List.mem_map.mpr ⟨_, ha, rfl⟩
      exact ⟨h.gs.lt ok n hm, decide_eq_true hm⟩
    have ek := live_keys (s := st) (l := gl.map (·.1)) fun n _ hn => by
      cases e : st.group n with
      | none => exact absurd e hn
      | some g =>
        obtain ⟨a, ha⟩ := h.gs.all n g e
        exact List.mem_map.mpr ⟨_, ha, rfl⟩
    have knd : ((List.range 16).filter (fun x => decide (x ∈ gl.map (·.1)))).Nodup := List.Pairwise.filter _ List.nodup_range
    generalize eks : (List.range 16).filter (fun x => decide (x ∈ gl.map (·.1))) = ks at n0 ek hall knd ⊢
    have hks : ∀ c, c ∈ ks → c ∈ gl.map (·.1) := fun c hc => by
      rw [← eks, List.mem_filter] at hc
      exact of_decide_eq_true hc.2
    have lks : ks.length ≤ 16 := by rw [← eks]; exact Nat.le_trans (List.length_filter_le _ _) (by rw [List.length_range]; exact Nat.le_refl _)
    have S3 := S2.trans (same_new (o := .lst ((intsOf ks).map V.int)) n0)
    refine forw_by (xs := (intsOf ks).map V.int) (fun i σ H' => ∃ as1 as2 v4 v5, σ = [some (.ref p), some (.int (now : Int)), some (.ref l1), some (.ref l2), v4, v5, none, none] ∧ GoInv A.C_Group A.C_Plan H H' p dx dg dm l0 l1 l2 gl ml st now ks i as1 as2)
      ⟨[], [], none, none, rfl, ?_⟩ (fun i σ H' _ ⟨_, _, _, _, _, G⟩ => SqL.of G.e0) ?_ ?_
    · refine ⟨by rw [List.take_zero, part_nil]; exact h.same S3, keepQ_same S3, upd_same, ?_, ?_, fun _ h => (by cases h), fun _ h => (by cases h), rfl, rfl, Nat.zero_le _, Nat.zero_le _⟩
      · rw [upd_ne n01.symm, upd_ne n12, upd_same]; rfl
      · rw [upd_ne n02.symm, upd_same]; rfl
    · rintro i x σ H' hi ⟨as1, as2, v4, v5, rfl, G⟩
      obtain ⟨c, hc, rfl⟩ := ints_at hi
      obtain ⟨y, hy, ey⟩ := List.mem_map.mp (hks c (List.mem_of_getElem? hc))
      obtain ⟨c', a⟩ := y
      have ey : c' = c := ey
      subst ey
      have nc := not_take knd hc
      have li : i < ks.length := (List.getElem?_eq_some_iff.mp hc).1
      obtain ⟨u, eu, dxu, hau⟩ := G.pl.gs.at_ c' a hy
      have eu : st.group c' = some u := by
        unfold part at eu
        rw [if_neg nc] at eu
        exact eu
      have hv := kvOf_get (c := V.ref) G.pl.gs.nk hy
      have gst := (ok.gs c' u (group_some eu)).later hnow
      refine rd_name (rd_seq (rd_set (ev_dget (k := Sum.inl (c' : Int)) (ev_fld ev_var G.pl.hp T.c_Plan T.n_Plan_groups (p_groups _ _ _)) ev_var G.pl.hg hv) ?_))
      refine if_of (et_b (ev_fld ev_var hau T.c_Group T.n_Group_active (g_active _))) (fun on => ?_) (fun off => ?_)
      · -- late.append((number, group.take_missed(now)))
        refine rd_seq (rd_drop (rd_appN ev_var G.e1 (rd_tupN (rd_cons ev_var (rd_cons' (rd_meth ev_var hau (g_no _ (by decide +kernel)) (ea_cons ev_var ea_nil) ⟨a, u, now, rfl, ⟨dxu, hau⟩, gst, fun H1 g1 b1 => ⟨by show 2 ≤ sizeLine; decide, fun t1 nt1 => ?_⟩⟩))))))
        have n1a : l1 ≠ a := ne_of G.e1 hau (by intro z; cases z)
        have n2a : l2 ≠ a := ne_of G.e2 hau (by intro z; cases z)
        have s2 := same_new (o := .tup [V.int (c' : Int), V.int ((u.due now).1 : Nat)]) nt1
        have l1e := s2 _ _ (b1 _ _ G.e1 n1a)
        have l2e := s2 _ _ (b1 _ _ G.e2 n2a)
        refine ⟨l1, _, _, rfl, rfl, l1e, by rw [refs_len]; exact small1000 (by have := G.z1; omega), ?_⟩
        have t1l1 : t1 ≠ l1 := fun z => by rw [z, b1 _ _ G.e1 n1a] at nt1; cases nt1
        have t1l2 : t1 ≠ l2 := fun z => by rw [z, b1 _ _ G.e2 n2a] at nt1; cases nt1
        obtain ⟨dx1, g1⟩ := g1
        have a1 := s2 _ _ g1
        have t1a : t1 ≠ a := fun z => by rw [z, g1] at nt1; cases nt1
        have B3 : But3 a l1 l2 H' (upd (upd H1 t1 (.tup [V.int (c' : Int), V.int ((u.due now).1 : Nat)])) l1 (.lst (refs as1 ++ [V.ref t1]))) := ((But3.of1 b1).trans (But3.same s2)).trans But3.of2
        have t3 : upd (upd H1 t1 (.tup [V.int (c' : Int), V.int ((u.due now).1 : Nat)])) l1 (.lst (refs as1 ++ [V.ref t1])) t1 = some (.tup [V.int (c' : Int), V.int ((u.due now).1 : Nat)]) := by rw [upd_ne t1l1, upd_same]
        have a3 : upd (upd H1 t1 (.tup [V.int (c' : Int), V.int ((u.due now).1 : Nat)])) l1 (.lst (refs as1 ++ [V.ref t1])) a = some (.ins A.C_Group dx1 (gfs { u with missed := u.missed + (u.due now).1 })) := by rw [upd_ne n1a.symm]; exact a1
        have l13 : upd (upd H1 t1 (.tup [V.int (c' : Int), V.int ((u.due now).1 : Nat)])) l1 (.lst (refs as1 ++ [V.ref t1])) l1 = some (.lst (refs (as1 ++ [(t1, c', (u.due now).1)]))) := by rw [upd_same, refs_append]; rfl
        have l23 : upd (upd H1 t1 (.tup [V.int (c' : Int), V.int ((u.due now).1 : Nat)])) l1 (.lst (refs as1 ++ [V.ref t1])) l2 = some (.lst (refs as2)) := by rw [upd_ne n12.symm]; exact l2e
        generalize upd (upd H1 t1 (.tup [V.int (c' : Int), V.int ((u.due now).1 : Nat)])) l1 (.lst (refs as1 ++ [V.ref t1])) = H3 at B3 t3 a3 l13 l23 ⊢
        -- wanted.extend([(at, number) for at in group.take_wanted(now)])
        refine rd_seq (rd_drop (rd_extN ev_var l23 (rd_lc (rd_meth ev_var a3 (g_no _ (by decide +kernel)) (ea_cons ev_var ea_nil) ⟨a, _, now, rfl, ⟨dx1, a3⟩, ⟨gst.ok, gst.f1, gst.f2, gst.t1⟩, fun H4 l4 h4 g4 b4 n4 => ⟨l4, rfl, ⟨_, SqL.of h4⟩, fun D nD => ?_⟩⟩))))
        replace h4 : H4 l4 = some (.lst (nums (wantedOf u now))) := h4
        have len := wanted_short (now := now) gst.ok
        refine lcw_by (xs := nums (wantedOf u now)) (fun j H5 => ∃ bs : List Pl, bs.map (·.2) = ((wantedOf u now).take j).map (fun t => (t, c')) ∧ H5 D = some (.lst (refs bs)) ∧ Tups H5 bs ∧ Same H4 H5) ⟨[], rfl, upd_same, fun _ h => (by cases h), same_new nD⟩ (fun j H5 _ ⟨_, _, _, _, s5⟩ => SqL.of (s5 _ _ h4)) ?_ ?_
        · rintro j x H5 hj ⟨bs, eb, hD, tb, s5⟩
          obtain ⟨t, ht, rfl⟩ := map_at hj
          refine lct_yes rfl (rd_tup (ea_cons ev_var (ea_cons ev_var ea_nil)) (by show 2 ≤ sizeLine; decide) fun q1 nq => ?_)
          have s6 := same_new (o := .tup [V.int (t : Int), V.int (c' : Int)]) nq
          have Dq : D ≠ q1 := ne_of_none hD nq
          have lb : bs.length ≤ 32 := by
            have z := congrArg List.length eb
            rw [List.length_map, List.length_map, List.length_take] at z
            omega
          refine ⟨_, s6 _ _ hD, by rw [refs_len]; exact small1000 (by omega), bs ++ [(q1, t, c')], ?_, ?_, fun x hx => ?_, fun b o e => ?_⟩
          · rw [take_snoc' ht, List.map_append, List.map_append, eb]
            rfl
          · rw [upd_same, refs_append]
            rfl
          · rcases List.mem_append.mp hx with hx | hx
            · have x' := tb x hx
              rw [upd_ne (ne_of x' hD (by intro z; cases z))]
              exact s6 _ _ x'
            · rw [List.mem_singleton.mp hx, upd_ne Dq.symm, upd_same]
          · have nb : b ≠ D := ne_of_none e nD
            rw [upd_ne nb]
            exact s6 _ _ (s5 _ _ e)
        · rintro H5 ⟨bs, eb, hD, tb, s5⟩
          rw [nums_len, List.take_length] at eb
          have lb : bs.length ≤ 32 := by
            have z := congrArg List.length eb
            rw [List.length_map, List.length_map] at z
            omega
          have l24 := b4 _ _ l23 n2a
          have l14 := b4 _ _ l13 n1a
          refine ⟨l2, D, _, _, rfl, rfl, s5 _ _ l24, hD, by rw [refs_len, refs_len]; exact size_le (by have := G.z2; omega), ?_⟩
          obtain ⟨dx4, g4⟩ := g4
          have a6 : upd H5 l2 (.lst (refs as2 ++ refs bs)) a = some (.ins A.C_Group dx4 (gfs { u with missed := u.missed + (u.due now).1, wanted := u.wanted + (wantedOf u now).length })) := by rw [upd_ne n2a.symm]; exact s5 _ _ g4
          refine rd_fld (ev_0 ev_var ev_c) ev_var a6 T.c_Group T.n_Group_since (by show 11 < 1000; decide) ?_
          have B7 : But3 a l1 l2 H3 (upd (upd H5 l2 (.lst (refs as2 ++ refs bs))) a (.ins A.C_Group dx4 (putF "since" (.int ((now : Int) + 1)) (gfs { u with missed := u.missed + (u.due now).1, wanted := u.wanted + (wantedOf u now).length })))) :=
            (((But3.of1 b4).trans (But3.same s5)).trans But3.of3).trans (But3.of1 But.upd)
          refine ⟨_, _, _, _, rfl, G.step (bs := bs) (t1 := t1) hc hy eu on gst n1 f2 n01 n02 (B3.trans B7) ⟨dx4, ?_⟩ ?_ ?_ ?_ (fun x hx => ?_) eb⟩
          · rw [upd_same, show (now : Int) + 1 = ((now + 1 : Nat) : Int) by omega, g_put_since, gone_eq gst on]
          · rw [upd_ne n1a, upd_ne n12]; exact s5 _ _ l14
          · rw [upd_ne n2a, upd_same, refs_append]
          · exact B7 _ _ t3 t1a t1l1 t1l2
          · have x' := tb x hx
            have xa : x.1 ≠ a := ne_of x' (s5 _ _ g4) (by intro z; cases z)
            have x2 : x.1 ≠ l2 := ne_of x' (s5 _ _ l24) (by intro z; cases z)
            rw [upd_ne xa, upd_ne x2]
            exact x'
      · exact rd_nil ⟨as1, as2, _, _, rfl, G.skip hc nc eu off⟩
    · rintro σ H' ⟨as1, as2, v4, v5, rfl, G⟩
      rw [List.length_map, ints_len] at G
      have hpl := G.pl
      have w1 := G.w1
      have w2 := G.w2
      rw [List.take_length] at hpl w1 w2
      rw [ek] at w1 w2
      refine rd_seq (rd_fld ev_var ev_var hpl.hp T.c_Plan T.n_Plan_now (by show 3 < 1000; decide) ?_)
      rw [p_put_now]
      have P8 := hpl.setNow now
      have k8 := G.kq.trans (keepQ_ins (o := .ins A.C_Plan dx (pfs now dg dm)) hpl.hp)
      have kk := keepQ_ins (o := .ins A.C_Plan dx (pfs now dg dm)) hpl.hp
      have l18 := kk.lst G.e1
      have l28 := kk.lst G.e2
      have t18 := G.t1.keep kk
      have t28 := G.t2.keep kk
      have z1 := G.z1
      have z2 := G.z2
      generalize upd H' p (.ins A.C_Plan dx (pfs now dg dm)) = H8 at P8 k8 l18 l28 t18 t28 ⊢
      have PA : PlanAt A.C_Group A.C_Plan H8 p (st.pass now).1 := by
        rw [part_all hall] at P8
        exact ⟨dx, dg, dm, gl, ml, P8⟩
      refine rd_ret' (rd_meth' ev_var P8.hp (p_no _ _ _ (by decide +kernel)) (rd_cons' (rd_lcE (a := l1) (xs := refs as1) ev_var (SqL.of l18) fun D nD => ?_)))
      have s9 := fun o => same_new (o := o) nD
      refine lcw_by (xs := refs as1) (fun j H9 => H9 = upd H8 D (.lst (refs ((as1.take j).filter fun x => decide (0 < x.2.2))))) rfl (fun j H9 _ e => SqL.of (by rw [e]; exact s9 _ _ _ l18)) ?_ ?_
      · rintro j x H9 hj rfl
        obtain ⟨y, hy, rfl⟩ := map_at hj
        have ty := SqT.of (K := K) (s9 (.lst (refs ((as1.take j).filter fun x => decide (0 < x.2.2)))) _ _ (t18 y (List.mem_of_getElem? hy)))
        refine lct_if rfl (et_t (ev_0 (ev_ixT (j := 1) ev_var ev_c ty rfl) ev_c)) (fun h0 => ?_) (fun h0 => ?_)
        · have h1 : 0 < y.2.2 := by
            have := of_decide_eq_true h0
            omega
          refine rd_var rfl ⟨_, upd_same, ?_, ?_⟩
          · rw [refs_len]
            exact small1000 (Nat.le_trans (List.length_filter_le _ _) (by rw [List.length_take]; omega))
          · rw [upd_upd, take_snoc' hy, List.filter_append, List.filter_cons, if_pos (decide_eq_true h1), List.filter_nil, refs_append]
            rfl
        · have h1 : ¬ 0 < y.2.2 := by
            have := of_decide_eq_false h0
            omega
          show _ = _
          rw [take_snoc' hy, List.filter_append, List.filter_cons, if_neg (fun z => h1 (of_decide_eq_true z)), List.filter_nil, List.append_nil]
      · rintro H9 rfl
        rw [refs_len, List.take_length]
        refine rd_cons' (rd_sortedT (as := as2.map toI) ev_var (SqL.of (by rw [← refs_toI]; exact s9 _ _ _ l28)) (fun x hx => ?_) fun as' l' pm' so' nl' => ?_)
        · obtain ⟨y, hy, rfl⟩ := List.mem_map.mp hx
          exact SqT.of (s9 _ _ _ (t28 y hy))
        · obtain ⟨as2', rfl, pm2⟩ := perm_map_lift pm' as2 rfl
          have s10 := (s9 (.lst (refs (as1.filter fun x => decide (0 < x.2.2))))).trans (same_new (o := .lst ((as2'.map toI).map fun x => V.ref x.1)) nl')
          have er : as2'.map (·.2) = readsOf st now := by
            refine readsOf_eq ok hnow ?_ ?_
            · rw [List.pairwise_map] at so' ⊢
              refine so'.imp fun {x y} z => ?_
              unfold LeT toI at z
              unfold LeP
              dsimp only at z
              omega
            · refine (pm2.map _).trans ?_
              rw [w2]
              exact List.Perm.refl _
          have el : (as1.filter fun x => decide (0 < x.2.2)).map (·.2) = lateOf st now := by
            unfold lateOf
            rw [← w1, List.filter_map]
            rfl
          refine ⟨p, (st.pass now).1, D, l', as1.filter fun x => decide (0 < x.2.2), as2', rfl, PA.same s10, pass_ok ok hnow, same_new nl' _ _ upd_same, by rw [upd_same, refs_toI], (fun x hx => s10 _ _ (t18 x (List.mem_filter.mp hx).1)), (fun x hx => s10 _ _ (t28 x (pm2.mem_iff.mp hx))), Nat.le_trans (List.length_filter_le _ _) (by omega), by rw [pm2.length_eq]; omega, fun H10 l10 h10 s11 n10 => ?_⟩
          rw [el, er] at h10
          exact q H10 l10 h10 ((PA.same s10).same s11) (k8.trans (keepQ_same (s10.trans s11))) (k8.free (s10.free n10))
end
end RP
set_option Elab.async false
set_option linter.all false
set_option maxRecDepth 100000
set_option maxHeartbeats 2000000
namespace RP
open PySem PySem.Spec PyProof.Rows L2 RT
theorem not_and_true {a b : Bool} (h : (!(a && b)) = true) : ¬ (a = true ∧ b = true) := by
  rintro ⟨rfl, rfl⟩
  cases h
theorem not_and_false {a b : Bool} (h : (!(a && b)) = false) : a = true ∧ b = true := by
  cases a <;> cases b <;> first | exact ⟨rfl, rfl⟩ | cases h
theorem not_true {p : Prop} [Decidable p] (h : (!decide p) = true) : ¬ p := fun z => by rw [decide_eq_true z] at h; cases h
theorem not_false' {p : Prop} [Decidable p] (h : (!decide p) = false) : p := by
  by_cases c : p
  · exact c
  · rw [decide_eq_false c] at h; cases h
section
variable {P : Program} {w : World} {K : PySem.W.Frag} {mg : Str → Option Value} {base : Heap} {A : Adr}
noncomputable def sp_num (N : Nat) : Sp := fun vs H Q _ => ∃ n : Nat, vs = [.int (n : Int)] ∧ Q (.bl (decide (n ≤ N))) H
theorem chain_le (n N : Nat) : (decide ((0 : Int) ≤ (n : Int)) && decide ((n : Int) ≤ (N : Int))) = decide (n ≤ N) := by
  rw [Bool.eq_iff_iff, Bool.and_eq_true, decide_eq_true_eq, decide_eq_true_eq, decide_eq_true_eq]
  omega
theorem ok_is_group (T : Txt K mg A) : FnOk P w K mg base CX0 1 A.f_is_group A.d_is_group ["number"] (sp_num 15) := by
  refine T.is_group.F.ok sc_is_group (fun vs H Q E h => ?_) (fun cdv A' outer s H vs Q E hr h => ?_)
  · obtain ⟨n, rfl, _⟩ := h
    rfl
  · obtain ⟨n, rfl, q⟩ := h
    refine ⟨_, (pss_one (ps_ret (pe_chain op_le op_le pe_int (pv 0) (pe_glob (v := .int (15)) rfl T.g_LAST_GROUP ⟨_, rfl⟩)))), ?_⟩
    exact rd_ret (ev_to (ev_chain ev_c ev_var ev_c) (congrArg V.bl (chain_le n 15))) q
theorem ok_is_channel (T : Txt K mg A) : FnOk P w K mg base CX0 1 A.f_is_channel A.d_is_channel ["number"] (sp_num 63) := by
  refine T.is_channel.F.ok sc_is_channel (fun vs H Q E h => ?_) (fun cdv A' outer s H vs Q E hr h => ?_)
  · obtain ⟨n, rfl, _⟩ := h
    rfl
  · obtain ⟨n, rfl, q⟩ := h
    refine ⟨_, (pss_one (ps_ret (pe_chain op_le op_le pe_int (pv 0) (pe_glob (v := .int (63)) rfl T.g_LAST_CHANNEL ⟨_, rfl⟩)))), ?_⟩
    exact rd_ret (ev_to (ev_chain ev_c ev_var ev_c) (congrArg V.bl (chain_le n 63))) q
theorem ok_is_time (T : Txt K mg A) : FnOk P w K mg base CX0 1 A.f_is_time A.d_is_time ["number"] (sp_num TIME) := by
  refine T.is_time.F.ok sc_is_time (fun vs H Q E h => ?_) (fun cdv A' outer s H vs Q E hr h => ?_)
  · obtain ⟨n, rfl, _⟩ := h
    rfl
  · obtain ⟨n, rfl, q⟩ := h
    refine ⟨_, (pss_one (ps_ret (pe_chain op_le op_le pe_int (pv 0) (pe_glob (v := .int (4611686018427387904)) rfl T.g_LAST_TIME ⟨_, rfl⟩)))), ?_⟩
    exact rd_ret (ev_to (ev_chain ev_c ev_var ev_c) (congrArg V.bl (chain_le n TIME))) q
noncomputable def sp_is_gap : Sp := fun vs H Q _ => ∃ gap burst quick : Nat, vs = [.int (gap : Int), .int (burst : Int), .int (quick : Int)] ∧ 1 ≤ burst ∧ burst ≤ 16 ∧ Q (.bl (decide (1 ≤ gap ∧ (burst - 1) * gap < quick))) H
theorem ok_is_gap (T : Txt K mg A) : FnOk P w K mg base CX0 1 A.f_is_gap A.d_is_gap ["gap", "burst", "quick"] sp_is_gap := by
  refine T.is_gap.F.ok sc_is_gap (fun vs H Q E h => ?_) (fun cdv A' outer s H vs Q E hr h => ?_)
  · obtain ⟨gap, burst, quick, rfl, _⟩ := h
    rfl
  · obtain ⟨gap, burst, quick, rfl, h1, h2, q⟩ := h
    refine ⟨_, (pss_one (ps_ret (pe_and (pe_cmpR op_ge (pv 0) pe_int (nomark _)) (pe_one (pe_cmpR op_lt (pe_op op_mul (pe_op op_sub (pv 1) pe_int) (pv 0)) (pv 2) (nomark _)))))), ?_⟩
    refine rd_ret (ev_to (ev_and (ev_0 ev_var ev_c) fun _ => ev_0 (ev_1 (ev_0 ev_var ev_c) ev_var (.inl ⟨by omega, by omega⟩)) ev_var) (congrArg V.bl ?_)) q
    rw [show (burst : Int) - 1 = ((burst - 1 : Nat) : Int) by omega, ← Int.natCast_mul]
    generalize (burst - 1) * gap = z
    rw [Bool.eq_iff_iff, Bool.and_eq_true, decide_eq_true_eq, decide_eq_true_eq, decide_eq_true_eq]
    omega
noncomputable def sp_are_settings : Sp := fun vs H Q _ => ∃ x : Sq04.Set, vs = [.int (x.period : Int), .int (x.quick : Int), .int (x.phase : Int), .int (x.burst : Int), .int (x.gap : Int), .int (x.slack : Int)] ∧ Q (.bl x.ok) H
theorem ok_are_settings (T : Txt K mg A) : FnOk P w K mg base CX0 2 A.f_are_settings A.d_are_settings ["period", "quick", "phase", "burst", "gap", "slack"] sp_are_settings := by
  refine T.are_settings.F.ok sc_are_settings (fun vs H Q E h => ?_) (fun cdv A' outer s H vs Q E hr h => ?_)
  · obtain ⟨x, rfl, _⟩ := h
    rfl
  · obtain ⟨x, rfl, q⟩ := h
    have bad : ¬ SetOk x → x.ok = false := fun n => by
      cases e : x.ok with
      | false => rfl
      | true => exact absurd ((setOk_iff x).mp e) n
    refine ⟨_, (pss_cons (ps_if (pt_not (pt_chain op_le op_le (pe_glob (v := .int (1000)) rfl T.g_LEAST_PERIOD ⟨_, rfl⟩) (pv 0) (pe_glob (v := .int (86400000000)) rfl T.g_DAY ⟨_, rfl⟩))) (pss_one (ps_ret pe_bl)) pss_nil)
      (pss_cons (ps_if (pt_not (pt_chain op_le op_le (pe_glob (v := .int (1000)) rfl T.g_LEAST_PERIOD ⟨_, rfl⟩) (pv 1) (pv 0))) (pss_one (ps_ret pe_bl)) pss_nil)
      (pss_cons (ps_if (pt_not (pt_chain op_le op_lt pe_int (pv 2) (pe_glob (v := .int (86400000000)) rfl T.g_DAY ⟨_, rfl⟩))) (pss_one (ps_ret pe_bl)) pss_nil)
      (pss_cons (ps_if (pt_not (pt_chain op_le op_le pe_int (pv 3) (pe_glob (v := .int (16)) rfl T.g_MOST_READINGS ⟨_, rfl⟩))) (pss_one (ps_ret pe_bl)) pss_nil)
      (pss_cons (ps_if (pt_not (pt_val (pe_call (ok_is_gap T) (hr.mono (by decide)) rfl T.is_gap.m T.is_gap.F.kp T.is_gap.b .nil pass0 (pa_cons (pv 4) (pa_cons (pv 3) (pa_cons (pv 1) pa_nil)))))) (pss_one (ps_ret pe_bl)) pss_nil)
      (pss_one (ps_ret (pe_chain op_le op_lt pe_int (pv 5) (pv 1))))))))), ?_⟩
    try refine nx_mk ?_
    refine rq (sq_if1 (et_not (et_t (ev_chain ev_c ev_var ev_c))) (fun h0 => ?_) (fun h0 => ?_))
    · rw [bad fun s => not_and_true h0 ⟨decide_eq_true (by have := s.p1; omega), decide_eq_true (by have := s.p2; omega)⟩] at q
      exact rd_ret ev_c q
    refine rq (rq (sq_if1 (et_not (et_t (ev_chain ev_c ev_var ev_var))) (fun h1 => ?_) (fun h1 => ?_)))
    · rw [bad fun s => not_and_true h1 ⟨decide_eq_true (by have := s.q1; omega), decide_eq_true (by have := s.q2; omega)⟩] at q
      exact rd_ret ev_c q
    refine rq (rq (sq_if1 (et_not (et_t (ev_chain ev_c ev_var ev_c))) (fun h2 => ?_) (fun h2 => ?_)))
    · rw [bad fun s => not_and_true h2 ⟨decide_eq_true (by omega), decide_eq_true (by have := s.ph; omega)⟩] at q
      exact rd_ret ev_c q
    refine rq (rq (sq_if1 (et_not (et_t (ev_chain ev_c ev_var ev_c))) (fun h3 => ?_) (fun h3 => ?_)))
    · rw [bad fun s => not_and_true h3 ⟨decide_eq_true (by have := s.b1; omega), decide_eq_true (by have := s.b2; omega)⟩] at q
      exact rd_ret ev_c q
    obtain ⟨a1, a2⟩ := not_and_false h0
    obtain ⟨a3, a4⟩ := not_and_false h1
    obtain ⟨a5, a6⟩ := not_and_false h2
    obtain ⟨a7, a8⟩ := not_and_false h3
    have a1 := of_decide_eq_true a1
    have a2 := of_decide_eq_true a2
    have a3 := of_decide_eq_true a3
    have a4 := of_decide_eq_true a4
    have a6 := of_decide_eq_true a6
    have a7 := of_decide_eq_true a7
    have a8 := of_decide_eq_true a8
    refine rq (rq (sq_if1 (et_not (et_b (ev_call (v := .bl (decide (1 ≤ x.gap ∧ (x.burst - 1) * x.gap < x.quick))) (ea_cons ev_var (ea_cons ev_var (ea_cons ev_var ea_nil))) (fun Q q => ⟨x.gap, x.burst, x.quick, rfl, by omega, by omega, q⟩)))) (fun h4 => ?_) (fun h4 => ?_)))
    · rw [bad fun s => not_true h4 ⟨s.g1, s.g2⟩] at q
      exact rd_ret ev_c q
    have a9 := not_false' h4
    refine rq (rd_ret (ev_to (ev_chain ev_c ev_var ev_var) (congrArg V.bl ?_)) q)
    rw [Bool.eq_iff_iff, Bool.and_eq_true, decide_eq_true_eq, decide_eq_true_eq, setOk_iff]
    constructor
    · rintro ⟨_, b⟩
      exact ⟨by omega, by omega, by omega, by omega, by omega, by omega, by omega, a9.1, a9.2, by omega⟩
    · intro s
      have := s.sl
      exact ⟨by omega, by omega⟩
noncomputable def sp_refuse_time (CG CP : Addr) : Sp := fun vs H Q _ => ∃ (p : Addr) (st : Sq04.State) (now : Nat), vs = [.ref p, .int (now : Int)] ∧ PlanAt CG CP H p st ∧ Q (.int (refT st now)) H
theorem ok_refuse_time (T : Txt K mg A) : FnOk P w K mg base CX0 2 A.f_refuse_time A.d_refuse_time ["plan", "now"] (sp_refuse_time A.C_Group A.C_Plan) := by
  refine T.refuse_time.F.ok sc_refuse_time (fun vs H Q E h => ?_) (fun cdv A' outer s H vs Q E hr h => ?_)
  · obtain ⟨p, st, now, rfl, _⟩ := h
    rfl
  · obtain ⟨p, st, now, rfl, ⟨dx, dg, dm, gl, ml, h⟩, q⟩ := h
    refine ⟨_, (pss_cons (ps_if (pt_not (pt_val (pe_call (ok_is_time T) (hr.mono (by decide)) rfl T.is_time.m T.is_time.F.kp T.is_time.b .nil pass0 (pa_cons (pv 1) pa_nil)))) (pss_one (ps_ret (pe_glob (v := .int (-1)) rfl T.g_NOT_IN_RANGE ⟨_, rfl⟩))) pss_nil)
      (pss_cons (ps_if (pt_cmpR op_lt (pv 1) (pe_fld (pv 0) rfl) (nomark _)) (pss_one (ps_ret (pe_glob (v := .int (-4)) rfl T.g_TIME_BEFORE ⟨_, rfl⟩))) pss_nil)
      (pss_one (ps_ret (pe_glob (v := .int (0)) rfl T.g_NOT_REFUSED ⟨_, rfl⟩))))), ?_⟩
    try refine nx_mk ?_
    refine rq (sq_if1 (et_not (et_b (ev_call (v := .bl (decide (now ≤ TIME))) (ea_cons ev_var ea_nil) (fun Q q => ⟨now, rfl, q⟩)))) (fun h0 => ?_) (fun h0 => ?_))
    · rw [show refT st now = -1 from if_neg (not_true h0)] at q
      exact rd_ret ev_c q
    · have c := not_false' h0
      refine rq (rq (sq_if1 (et_t (ev_0 ev_var (ev_fld ev_var h.hp T.c_Plan T.n_Plan_now (p_now _ _ _)))) (fun h1 => ?_) (fun h1 => ?_)))
      · have d : now < st.now := by have := of_decide_eq_true h1; omega
        rw [show refT st now = -4 from (if_pos c).trans (if_pos d)] at q
        exact rd_ret ev_c q
      · have d : ¬ now < st.now := by have := of_decide_eq_false h1; omega
        rw [show refT st now = 0 from (if_pos c).trans (if_neg d)] at q
        exact rq (rd_ret ev_c q)
noncomputable def sp_refuse_group (CG CP : Addr) : Sp := fun vs H Q _ => ∃ (p : Addr) (st : Sq04.State) (g now : Nat), vs = [.ref p, .int (g : Int), .int (now : Int)] ∧ PlanAt CG CP H p st ∧ Q (.int (refG st g now)) H
theorem ok_refuse_group (T : Txt K mg A) : FnOk P w K mg base CX0 3 A.f_refuse_group A.d_refuse_group ["plan", "number", "now"] (sp_refuse_group A.C_Group A.C_Plan) := by
  refine T.refuse_group.F.ok sc_refuse_group (fun vs H Q E h => ?_) (fun cdv A' outer s H vs Q E hr h => ?_)
  · obtain ⟨p, st, g, now, rfl, _⟩ := h
    rfl
  · obtain ⟨p, st, g, now, rfl, hP, q⟩ := h
    have hP' := hP
    obtain ⟨dx, dg, dm, gl, ml, h⟩ := hP'
    have hu := hu_of hr
    refine ⟨_, (pss_cons (ps_if (PW.pt (pw_or (pt_not (pt_val (pe_call (ok_is_group T) (hr.mono (by decide)) rfl T.is_group.m T.is_group.F.kp T.is_group.b .nil pass0 (pa_cons (pv 1) pa_nil)))) (pw_or1 (pt_not (pt_val (pe_call (ok_is_time T) (hr.mono (by decide)) rfl T.is_time.m T.is_time.F.kp T.is_time.b .nil pass0 (pa_cons (pv 2) pa_nil))))))) (pss_one (ps_ret (pe_glob (v := .int (-1)) rfl T.g_NOT_IN_RANGE ⟨_, rfl⟩))) pss_nil)
      (pss_cons (ps_if (pt_cmp (pc_dnotin (by exact hu) (pv 1) (pe_fld (pv 0) rfl))) (pss_one (ps_ret (pe_glob (v := .int (-2)) rfl T.g_NO_SUCH_GROUP ⟨_, rfl⟩))) pss_nil)
      (pss_one (ps_ret (pe_call (ok_refuse_time T) (hr.mono (by decide)) rfl T.refuse_time.m T.refuse_time.F.kp T.refuse_time.b .nil pass0 (pa_cons (pv 0) (pa_cons (pv 2) pa_nil))))))), ?_⟩
    try refine nx_mk ?_
    refine rq (sq_if1 (et_or (et_not (et_b (ev_call (v := .bl (decide (g ≤ 15))) (ea_cons ev_var ea_nil) (fun Q q => ⟨g, rfl, q⟩)))) fun _ => et_not (et_b (ev_call (v := .bl (decide (now ≤ TIME))) (ea_cons ev_var ea_nil) (fun Q q => ⟨now, rfl, q⟩)))) (fun h0 => ?_) (fun h0 => ?_))
    · have c : ¬ (g < 16 ∧ now ≤ TIME) := fun z => by
        rw [decide_eq_true (show g ≤ 15 by omega), decide_eq_true z.2] at h0
        cases h0
      rw [show refG st g now = -1 from if_neg c] at q
      exact rd_ret ev_c q
    · have c : g < 16 ∧ now ≤ TIME := by
        rw [Bool.or_eq_false_iff] at h0
        have := not_false' h0.1
        exact ⟨by omega, not_false' h0.2⟩
      refine rq (rq (sq_if1 (et_b (ev_dnot (k := Sum.inl (g : Int)) ev_var (ev_fld ev_var h.hp T.c_Plan T.n_Plan_groups (p_groups _ _ _)) h.hg)) (fun h1 => ?_) (fun h1 => ?_)))
      · rw [h.gs.isSome] at h1
        have d : ¬ (st.group g).isSome = true := fun z => by rw [z] at h1; cases h1
        rw [show refG st g now = -2 from (if_pos c).trans (if_neg d)] at q
        exact rd_ret ev_c q
      · rw [h.gs.isSome] at h1
        have d : (st.group g).isSome = true := by
          cases e : (st.group g).isSome with
          | true => rfl
          | false => rw [e] at h1; cases h1
        rw [show refG st g now = refT st now from (if_pos c).trans (if_pos d)] at q
        exact rq (rd_ret (ev_call (v := .int (refT st now)) (ea_cons ev_var (ea_cons ev_var ea_nil)) (fun Q q => ⟨p, st, now, rfl, hP, q⟩)) q)
noncomputable def Done (CG CP : Addr) (H : Hp) (p : Addr) (r : Sq04.State × Sq04.Ans) (Q : VK) : Prop := ∀ (H' : Hp) (l : Addr), H' l = some (.lst (intsV (ansL r.2))) → PlanAt CG CP H' p r.1 → KeepQ H H' → H l = none → Q (.ref l) H'
theorem Done.says {CG CP : Addr} {H : Hp} {p : Addr} {r : Sq04.State × Sq04.Ans} {Q : VK} {st : Sq04.State} {z : Int} (q : Done CG CP H p r Q) (e : r = (st, Sq04.says z)) (hP : PlanAt CG CP H p st) (l : Addr) (n : H l = none) : Q (.ref l) (upd H l (.lst [.int z])) := by
  subst e
  exact q _ l upd_same (hP.same (same_new n)) (keepQ_same (same_new n)) n
theorem ret1 {σ : L2.St} {H : Hp} {D : Ends} {te : TE} {z : Int} (e : Ev te σ H (.int z)) (h : ∀ l, H l = none → D.rt (.ref l) (upd H l (.lst [.int z]))) : tRet (tLst (tCons te tNil)) D σ H := rd_ret' (rd_lst (ea_cons e ea_nil) (by show 1 ≤ sizeLine; decide) h)
theorem refused {σ : L2.St} {H : Hp} {D : Ends} {i : Nat} {z : Int} {u : TS} (hi : σ[i]? = some (some (.int z))) (h1 : z ≠ 0 → ∀ l, H l = none → D.rt (.ref l) (upd H l (.lst [.int z]))) (h2 : z = 0 → u D σ H) :
    tSeq (tIfS (tTest (tOp (rI0 fun i j => V.bl (!decide (i = j))) (tVar i) (tC (.int 0)))) (tRet (tLst (tCons (tVar i) tNil))) tNext) u D σ H := by
  try refine nx_mk ?_
  refine rq (sq_if1 (et_t (ev_0 (ev_var hi) ev_c)) (fun h0 => ?_) (fun h0 => ?_))
  · exact ret1 (ev_var hi) (h1 (not_true h0))
  · exact rq (h2 (not_false' h0))
noncomputable def sp_begin (CG CP : Addr) : Sp := fun vs H Q _ => ∃ (p : Addr) (st : Sq04.State), vs = [.ref p] ∧ PlanAt CG CP H p st ∧ Done CG CP H p (Sq04.step st .begin_) Q
theorem ok_begin (T : Txt K mg A) : FnOk P w K mg base CX0 2 A.f_begin A.d_begin ["plan"] (sp_begin A.C_Group A.C_Plan) := by
  refine T.begin.F.ok sc_begin (fun vs H Q E h => ?_) (fun cdv A' outer s H vs Q E hr h => ?_)
  · obtain ⟨p, st, rfl, _⟩ := h
    rfl
  · obtain ⟨p, st, rfl, ⟨dx, dg, dm, gl, ml, h⟩, q⟩ := h
    refine ⟨_, (pss_cons (ps_expr (pe_meth0 (pv 0) T.c_Plan T.Plan_reset.m (ok_Plan_reset T) (hr.mono (by decide)) T.Plan_reset.b .nil pass0))
      (pss_one (ps_ret (pe_lst (pa_cons pe_int pa_nil))))), ?_⟩
    refine rd_seq (rd_drop (rd_meth ev_var h.hp (p_no _ _ _ (by decide +kernel)) ea_nil ⟨p, dx, _, rfl, h.hp, .inr ⟨_, _, _, rfl⟩, fun H1 P1 b1 => ?_⟩))
    refine nx_mk (ret1 ev_c fun l nl => ?_)
    have k1 : KeepQ H H1 := by
      have P2 := P1
      obtain ⟨dx1, dg1, dm1, gl1, ml1, h1⟩ := P2
      exact keepQ_but h.hp b1 h1.hp
    exact q _ l upd_same (P1.same (same_new nl)) (k1.trans (keepQ_same (same_new nl))) (k1.free nl)
theorem plan_put {CG CP : Addr} {H H' : Hp} {p dx dg dm : Addr} {gl : List (Nat × Addr)} {ml : List (Nat × Nat)} {st : Sq04.State} {n : Nat} {a : Addr} {g' : Sq04.Group} (ok : SOk st) (hn : n < 16) (h : PlanIn CG CP H p dx dg dm gl ml st.now st.group (memb st))
    (mem : (n, a) ∈ gl) (hg : GrpAt CG H' a g') (b : ButL a H H') : PlanAt CG CP H' p (st.set n (some g')) := ⟨dx, dg, dm, gl, ml, h.grp (f' := (st.set n (some g')).group) mem hg b fun k => set_group ok hn _ k⟩
noncomputable def sp_set_group (CG CP : Addr) : Sp := fun vs H Q _ => ∃ (p : Addr) (st : Sq04.State) (g now : Nat) (x : Sq04.Set), vs = [.ref p, .int (g : Int), .int (x.period : Int), .int (x.quick : Int), .int (x.phase : Int), .int (x.burst : Int), .int (x.gap : Int), .int (x.slack : Int), .int (now : Int)] ∧
  PlanAt CG CP H p st ∧ SOk st ∧ Done CG CP H p (Sq04.step st (.group g x now)) Q
theorem ok_set_group (T : Txt K mg A) : FnOk P w K mg base CX0 7 A.f_set_group A.d_set_group ["plan", "number", "period", "quick", "phase", "burst", "gap", "slack", "now"] (sp_set_group A.C_Group A.C_Plan) := by
  refine T.set_group.F.ok sc_set_group (fun vs H Q E h => ?_) (fun cdv A' outer s H vs Q E hr h => ?_)
  · obtain ⟨p, st, g, now, x, rfl, _⟩ := h
    rfl
  · obtain ⟨p, st, g, now, x, rfl, hP, ok, q⟩ := h
    have hP' := hP
    obtain ⟨dx, dg, dm, gl, ml, h⟩ := hP'
    have hu := hu_of hr
    refine ⟨_, (pss_cons (ps_if (PW.pt (pw_or (pt_not (pt_val (pe_call (ok_is_group T) (hr.mono (by decide)) rfl T.is_group.m T.is_group.F.kp T.is_group.b .nil pass0 (pa_cons (pv 1) pa_nil)))) (pw_or1 (pt_not (pt_val (pe_call (ok_are_settings T) (hr.mono (by decide)) rfl T.are_settings.m T.are_settings.F.kp T.are_settings.b .nil pass0 (pa_cons (pv 2) (pa_cons (pv 3) (pa_cons (pv 4) (pa_cons (pv 5) (pa_cons (pv 6) (pa_cons (pv 7) pa_nil)))))))))))) (pss_one (ps_ret (pe_lst (pa_cons (pe_glob (v := .int (-1)) rfl T.g_NOT_IN_RANGE ⟨_, rfl⟩) pa_nil)))) pss_nil)
      (pss_cons (ps_set (i := 9) sc_set_group.nd rfl (Or.inl rfl) (pe_call (ok_refuse_time T) (hr.mono (by decide)) rfl T.refuse_time.m T.refuse_time.F.kp T.refuse_time.b .nil pass0 (pa_cons (pv 0) (pa_cons (pv 8) pa_nil))))
      (pss_cons (ps_if (pt_cmpR op_neI (pv 9) (pe_glob (v := .int (0)) rfl T.g_NOT_REFUSED ⟨_, rfl⟩) (nomark _)) (pss_one (ps_ret (pe_lst (pa_cons (pv 9) pa_nil)))) pss_nil)
      (pss_cons (ps_set (i := 10) sc_set_group.nd rfl (Or.inl rfl) (pe_meth (pv 0) T.c_Plan T.Plan_go_on.m (ok_Plan_go_on T) (hr.mono (by decide)) T.Plan_go_on.b .nil pass0 (pa_cons (pv 8) pa_nil)))
      (pss_cons (ps_dput (by exact hu) (pe_fld (pv 0) rfl) (pv 1) (pe_make T.mk_Group (ok_Group_init T) (hr.mono (by decide)) rfl T.g_Group T.Group_init.b .nil pass0 (pa_cons (pv 2) (pa_cons (pv 3) (pa_cons (pv 4) (pa_cons (pv 5) (pa_cons (pv 6) (pa_cons (pv 7) (pa_cons (pv 8) pa_nil)))))))) rfl)
      (pss_one (ps_ret (pv 10)))))))), ?_⟩
    try refine nx_mk ?_
    refine rq (sq_if1 (et_or (et_not (et_b (ev_call (v := .bl (decide (g ≤ 15))) (ea_cons ev_var ea_nil) (fun Q q => ⟨g, rfl, q⟩)))) fun _ => et_not (et_b (ev_call (v := .bl x.ok) (ea_cons ev_var (ea_cons ev_var (ea_cons ev_var (ea_cons ev_var (ea_cons ev_var (ea_cons ev_var ea_nil)))))) (fun Q q => ⟨x, rfl, q⟩)))) (fun h0 => ?_) (fun h0 => ?_))
    · have c : ¬ g < 16 ∨ x.ok = false := by
        by_cases d : g < 16
        · refine .inr ?_
          rw [decide_eq_true (show g ≤ 15 by omega)] at h0
          cases e : x.ok with
          | false => rfl
          | true => rw [e] at h0; cases h0
        · exact .inl d
      exact ret1 ev_c (q.says (group_bad c) hP)
    · rw [Bool.or_eq_false_iff] at h0
      have c1 : g < 16 := by have := not_false' h0.1; omega
      have c2 : x.ok = true := by
        have := h0.2
        cases e : x.ok with
        | true => rfl
        | false => rw [e] at this; cases this
      refine rq (rd_seq (rd_set (ev_call (v := .int (refT st now)) (ea_cons ev_var (ea_cons ev_var ea_nil)) (fun Q q => ⟨p, st, now, rfl, hP, q⟩)) ?_))
      refine refused rfl (fun z => q.says (group_ref c1 c2 z) hP) (fun z => ?_)
      obtain ⟨z1, z2⟩ := refT_zero z
      refine rd_seq (rd_set' (rd_meth ev_var h.hp (p_no _ _ _ (by decide +kernel)) (ea_cons ev_var ea_nil) ⟨p, st, now, rfl, hP, ok, z2, fun H1 l h1 P1 k1 n1 => ?_⟩))
      obtain ⟨dx1, dg1, dm1, gl1, ml1, p1⟩ := P1
      have ok1 := pass_ok ok z2
      unfold Done at q
      rw [group_go c1 c2 z, ansL_wanted] at q
      refine nx_mk (rd_seq (rd_dput' (rd_make (ea_cons ev_var (ea_cons ev_var (ea_cons ev_var (ea_cons ev_var (ea_cons ev_var (ea_cons ev_var (ea_cons ev_var ea_nil))))))) fun y dy ny ndy ney => ⟨y, dy, x, now, rfl, upd_same, rfl, ?_⟩)))
      rw [upd_upd]
      have s2 : Same H1 (upd (upd H1 dy (.own y)) y (.ins A.C_Group dy (gfs ⟨x, false, now + 1, now + 1, 0, 0⟩))) := fun b o e => by
        rw [upd_ne (ne_of_none e ny), upd_ne (ne_of_none e ndy)]
        exact e
      have hy : upd (upd H1 dy (.own y)) y (.ins A.C_Group dy (gfs ⟨x, false, now + 1, now + 1, 0, 0⟩)) y = some (.ins A.C_Group dy (gfs ⟨x, false, now + 1, now + 1, 0, 0⟩)) := upd_same
      generalize upd (upd H1 dy (.own y)) y (.ins A.C_Group dy (gfs ⟨x, false, now + 1, now + 1, 0, 0⟩)) = H2 at s2 hy ⊢
      have p2 := p1.same s2
      refine ev_fld ev_var p2.hp T.c_Plan T.n_Plan_groups (p_groups _ _ _) _ (rd_var rfl ⟨dg1, _, rfl, DPut.k (k := Sum.inl (g : Int)) p2.hg ?_, ?_⟩)
      · rw [kvOf_len]
        exact small1000 (by have := p1.gs.len ok1; omega)
      · rw [kvOf_put]
        have fr : ∀ k, (k, y) ∉ gl1 := fun k hk => by
          obtain ⟨u, _, dxu, hau⟩ := p1.gs.at_ k y hk
          rw [hau] at ny
          cases ny
        have p3 := p2.setG (p2.gs.put (f' := ((st.pass now).1.set g (some ⟨x, false, now + 1, now + 1, 0, 0⟩)).group) ⟨dy, hy⟩ fr fun k => set_group ok1 c1 _ k)
        have k3 := (keepQ_same s2).trans (keepQ_dK (o := .dK (gkv (putN gl1 g y))) p2.hg)
        exact rd_ret ev_var (q _ l (k3.lst h1) ⟨dx1, dg1, dm1, _, ml1, p3⟩ (k1.trans k3) n1)
noncomputable def sp_at (CG CP : Addr) (c : Nat → Nat → Sq04.Call) : Sp := fun vs H Q _ => ∃ (p : Addr) (st : Sq04.State) (g now : Nat), vs = [.ref p, .int (g : Int), .int (now : Int)] ∧ PlanAt CG CP H p st ∧ SOk st ∧ Done CG CP H p (Sq04.step st (c g now)) Q
theorem ok_switch_on (T : Txt K mg A) : FnOk P w K mg base CX0 7 A.f_switch_on A.d_switch_on ["plan", "number", "now"] (sp_at A.C_Group A.C_Plan Sq04.Call.on) := by
  refine T.switch_on.F.ok sc_switch_on (fun vs H Q E h => ?_) (fun cdv A' outer s H vs Q E hr h => ?_)
  · obtain ⟨p, st, g, now, rfl, _⟩ := h
    rfl
  · obtain ⟨p, st, g, now, rfl, hP, ok, q⟩ := h
    have hP' := hP
    obtain ⟨dx, dg, dm, gl, ml, h⟩ := hP'
    have hu := hu_of hr
    refine ⟨_, (pss_cons (ps_set (i := 3) sc_switch_on.nd rfl (Or.inl rfl) (pe_call (ok_refuse_group T) (hr.mono (by decide)) rfl T.refuse_group.m T.refuse_group.F.kp T.refuse_group.b .nil pass0 (pa_cons (pv 0) (pa_cons (pv 1) (pa_cons (pv 2) pa_nil)))))
      (pss_cons (ps_if (pt_cmpR op_neI (pv 3) (pe_glob (v := .int (0)) rfl T.g_NOT_REFUSED ⟨_, rfl⟩) (nomark _)) (pss_one (ps_ret (pe_lst (pa_cons (pv 3) pa_nil)))) pss_nil)
      (pss_cons (ps_set (i := 4) sc_switch_on.nd rfl (Or.inl rfl) (pe_meth (pv 0) T.c_Plan T.Plan_go_on.m (ok_Plan_go_on T) (hr.mono (by decide)) T.Plan_go_on.b .nil pass0 (pa_cons (pv 2) pa_nil)))
      (pss_cons (ps_set (i := 5) sc_switch_on.nd rfl (Or.inl rfl) (pe_dget (by exact hu) (pe_fld (pv 0) rfl) (pv 1) (fun _ _ => rfl)))
      (pss_cons (ps_expr (pe_meth (pv 5) T.c_Group T.Group_turn_on.m (ok_Group_turn_on T) (hr.mono (by decide)) T.Group_turn_on.b .nil pass0 (pa_cons (pv 2) pa_nil)))
      (pss_one (ps_ret (pv 4)))))))), ?_⟩
    refine rd_seq (rd_set (ev_call (v := .int (refG st g now)) (ea_cons ev_var (ea_cons ev_var (ea_cons ev_var ea_nil))) (fun Q q => ⟨p, st, g, now, rfl, hP, q⟩)) ?_)
    refine refused rfl (fun z => q.says (on_ref z) hP) (fun z => ?_)
    obtain ⟨z1, z2, z3, x, hx⟩ := refG_zero z
    refine rd_seq (rd_set' (rd_meth ev_var h.hp (p_no _ _ _ (by decide +kernel)) (ea_cons ev_var ea_nil) ⟨p, st, now, rfl, hP, ok, z3, fun H1 l h1 P1 k1 n1 => ?_⟩))
    obtain ⟨dx1, dg1, dm1, gl1, ml1, p1⟩ := P1
    have ok1 := pass_ok ok z3
    have e1 : (st.pass now).1.group g = some (gone now x) := by rw [pass_gone, hx]; rfl
    obtain ⟨a, mem, hv, dxa, ha⟩ := p1.gs.get e1
    unfold Done at q
    rw [on_go z hx, ansL_wanted] at q
    refine rd_seq (rd_set (ev_dget (k := Sum.inl (g : Int)) (ev_fld ev_var p1.hp T.c_Plan T.n_Plan_groups (p_groups _ _ _)) ev_var p1.hg hv) ?_)
    refine rd_seq (rd_drop (rd_meth ev_var ha (g_no _ (by decide +kernel)) (ea_cons ev_var ea_nil) ⟨a, dxa, gone now x, now, rfl, ha, fun on => ?_, fun off => ?_⟩))
    · rw [if_pos on] at q
      exact rd_ret ev_var (q _ l h1 (plan_put ok1 z1 p1 mem ⟨dxa, ha⟩ fun b o e _ _ => e) k1 n1)
    · rw [if_neg (by rw [off]; exact Bool.false_ne_true)] at q
      have k2 := keepQ_ins (o := .ins A.C_Group dxa (gfs { gone now x with on := true, from_ := now + 1, till := now + 1 })) ha
      exact rd_ret ev_var (q _ l (k2.lst h1) (plan_put ok1 z1 p1 mem ⟨dxa, upd_same⟩ But.upd.butL) (k1.trans k2) n1)
theorem ok_switch_off (T : Txt K mg A) : FnOk P w K mg base CX0 7 A.f_switch_off A.d_switch_off ["plan", "number", "now"] (sp_at A.C_Group A.C_Plan Sq04.Call.off) := by
  refine T.switch_off.F.ok sc_switch_off (fun vs H Q E h => ?_) (fun cdv A' outer s H vs Q E hr h => ?_)
  · obtain ⟨p, st, g, now, rfl, _⟩ := h
    rfl
  · obtain ⟨p, st, g, now, rfl, hP, ok, q⟩ := h
    have hP' := hP
    obtain ⟨dx, dg, dm, gl, ml, h⟩ := hP'
    have hu := hu_of hr
    refine ⟨_, (pss_cons (ps_set (i := 3) sc_switch_off.nd rfl (Or.inl rfl) (pe_call (ok_refuse_group T) (hr.mono (by decide)) rfl T.refuse_group.m T.refuse_group.F.kp T.refuse_group.b .nil pass0 (pa_cons (pv 0) (pa_cons (pv 1) (pa_cons (pv 2) pa_nil)))))
      (pss_cons (ps_if (pt_cmpR op_neI (pv 3) (pe_glob (v := .int (0)) rfl T.g_NOT_REFUSED ⟨_, rfl⟩) (nomark _)) (pss_one (ps_ret (pe_lst (pa_cons (pv 3) pa_nil)))) pss_nil)
      (pss_cons (ps_set (i := 4) sc_switch_off.nd rfl (Or.inl rfl) (pe_meth (pv 0) T.c_Plan T.Plan_go_on.m (ok_Plan_go_on T) (hr.mono (by decide)) T.Plan_go_on.b .nil pass0 (pa_cons (pv 2) pa_nil)))
      (pss_cons (ps_set (i := 5) sc_switch_off.nd rfl (Or.inl rfl) (pe_dget (by exact hu) (pe_fld (pv 0) rfl) (pv 1) (fun _ _ => rfl)))
      (pss_cons (ps_expr (pe_meth0 (pv 5) T.c_Group T.Group_turn_off.m (ok_Group_turn_off T) (hr.mono (by decide)) T.Group_turn_off.b .nil pass0))
      (pss_one (ps_ret (pv 4)))))))), ?_⟩
    refine rd_seq (rd_set (ev_call (v := .int (refG st g now)) (ea_cons ev_var (ea_cons ev_var (ea_cons ev_var ea_nil))) (fun Q q => ⟨p, st, g, now, rfl, hP, q⟩)) ?_)
    refine refused rfl (fun z => q.says (off_ref z) hP) (fun z => ?_)
    obtain ⟨z1, z2, z3, x, hx⟩ := refG_zero z
    refine rd_seq (rd_set' (rd_meth ev_var h.hp (p_no _ _ _ (by decide +kernel)) (ea_cons ev_var ea_nil) ⟨p, st, now, rfl, hP, ok, z3, fun H1 l h1 P1 k1 n1 => ?_⟩))
    obtain ⟨dx1, dg1, dm1, gl1, ml1, p1⟩ := P1
    have ok1 := pass_ok ok z3
    have e1 : (st.pass now).1.group g = some (gone now x) := by rw [pass_gone, hx]; rfl
    obtain ⟨a, mem, hv, dxa, ha⟩ := p1.gs.get e1
    unfold Done at q
    rw [off_go z hx, ansL_wanted] at q
    refine rd_seq (rd_set (ev_dget (k := Sum.inl (g : Int)) (ev_fld ev_var p1.hp T.c_Plan T.n_Plan_groups (p_groups _ _ _)) ev_var p1.hg hv) ?_)
    refine rd_seq (rd_drop (rd_meth ev_var ha (g_no _ (by decide +kernel)) ea_nil ⟨a, dxa, gone now x, rfl, ha, ?_⟩))
    have k2 := keepQ_ins (o := .ins A.C_Group dxa (gfs { gone now x with on := false })) ha
    exact rd_ret ev_var (q _ l (k2.lst h1) (plan_put ok1 z1 p1 mem ⟨dxa, upd_same⟩ But.upd.butL) (k1.trans k2) n1)
noncomputable def sp_make_quick (CG CP : Addr) : Sp := fun vs H Q _ => ∃ (p : Addr) (st : Sq04.State) (g now till : Nat), vs = [.ref p, .int (g : Int), .int (now : Int), .int (till : Int)] ∧ PlanAt CG CP H p st ∧ SOk st ∧ Done CG CP H p (Sq04.step st (.quick g now till)) Q
theorem ok_make_quick (T : Txt K mg A) : FnOk P w K mg base CX0 7 A.f_make_quick A.d_make_quick ["plan", "number", "now", "till"] (sp_make_quick A.C_Group A.C_Plan) := by
  refine T.make_quick.F.ok sc_make_quick (fun vs H Q E h => ?_) (fun cdv A' outer s H vs Q E hr h => ?_)
  · obtain ⟨p, st, g, now, till, rfl, _⟩ := h
    rfl
  · obtain ⟨p, st, g, now, till, rfl, hP, ok, q⟩ := h
    have hP' := hP
    obtain ⟨dx, dg, dm, gl, ml, h⟩ := hP'
    have hu := hu_of hr
    refine ⟨_, (pss_cons (ps_if (PW.pt (pw_or (pt_not (pt_val (pe_call (ok_is_time T) (hr.mono (by decide)) rfl T.is_time.m T.is_time.F.kp T.is_time.b .nil pass0 (pa_cons (pv 3) pa_nil)))) (pw_or1 (pt_cmpR op_le (pv 3) (pv 2) (nomark _))))) (pss_one (ps_ret (pe_lst (pa_cons (pe_glob (v := .int (-1)) rfl T.g_NOT_IN_RANGE ⟨_, rfl⟩) pa_nil)))) pss_nil)
      (pss_cons (ps_set (i := 4) sc_make_quick.nd rfl (Or.inl rfl) (pe_call (ok_refuse_group T) (hr.mono (by decide)) rfl T.refuse_group.m T.refuse_group.F.kp T.refuse_group.b .nil pass0 (pa_cons (pv 0) (pa_cons (pv 1) (pa_cons (pv 2) pa_nil)))))
      (pss_cons (ps_if (pt_cmpR op_neI (pv 4) (pe_glob (v := .int (0)) rfl T.g_NOT_REFUSED ⟨_, rfl⟩) (nomark _)) (pss_one (ps_ret (pe_lst (pa_cons (pv 4) pa_nil)))) pss_nil)
      (pss_cons (ps_set (i := 5) sc_make_quick.nd rfl (Or.inl rfl) (pe_meth (pv 0) T.c_Plan T.Plan_go_on.m (ok_Plan_go_on T) (hr.mono (by decide)) T.Plan_go_on.b .nil pass0 (pa_cons (pv 2) pa_nil)))
      (pss_cons (ps_set (i := 6) sc_make_quick.nd rfl (Or.inl rfl) (pe_dget (by exact hu) (pe_fld (pv 0) rfl) (pv 1) (fun _ _ => rfl)))
      (pss_cons (ps_fld (pv 6) (pv 3) rfl)
      (pss_one (ps_ret (pv 5))))))))), ?_⟩
    try refine nx_mk ?_
    refine rq (sq_if1 (et_or (et_not (et_b (ev_call (v := .bl (decide (till ≤ TIME))) (ea_cons ev_var ea_nil) (fun Q q => ⟨till, rfl, q⟩)))) fun _ => et_t (ev_0 ev_var ev_var)) (fun h0 => ?_) (fun h0 => ?_))
    · have c : ¬ till ≤ TIME ∨ till ≤ now := by
        rcases Bool.or_eq_true_iff.mp h0 with d | d
        · exact .inl (not_true d)
        · exact .inr (by have := of_decide_eq_true d; omega)
      exact ret1 ev_c (q.says (quick_bad c) hP)
    · rw [Bool.or_eq_false_iff] at h0
      have c1 : till ≤ TIME := not_false' h0.1
      have c2 : now < till := by have := of_decide_eq_false h0.2; omega
      refine rq (rd_seq (rd_set (ev_call (v := .int (refG st g now)) (ea_cons ev_var (ea_cons ev_var (ea_cons ev_var ea_nil))) (fun Q q => ⟨p, st, g, now, rfl, hP, q⟩)) ?_))
      refine refused rfl (fun z => q.says (quick_ref c1 c2 z) hP) (fun z => ?_)
      obtain ⟨z1, z2, z3, x, hx⟩ := refG_zero z
      refine rd_seq (rd_set' (rd_meth ev_var h.hp (p_no _ _ _ (by decide +kernel)) (ea_cons ev_var ea_nil) ⟨p, st, now, rfl, hP, ok, z3, fun H1 l h1 P1 k1 n1 => ?_⟩))
      obtain ⟨dx1, dg1, dm1, gl1, ml1, p1⟩ := P1
      have ok1 := pass_ok ok z3
      have e1 : (st.pass now).1.group g = some (gone now x) := by rw [pass_gone, hx]; rfl
      obtain ⟨a, mem, hv, dxa, ha⟩ := p1.gs.get e1
      unfold Done at q
      rw [quick_go c1 c2 z hx, ansL_wanted] at q
      refine rd_seq (rd_set (ev_dget (k := Sum.inl (g : Int)) (ev_fld ev_var p1.hp T.c_Plan T.n_Plan_groups (p_groups _ _ _)) ev_var p1.hg hv) ?_)
      refine rd_seq (rd_fld ev_var ev_var ha T.c_Group T.n_Group_till (by show 11 < 1000; decide) ?_)
      rw [g_put_till]
      have k2 := keepQ_ins (o := .ins A.C_Group dxa (gfs { gone now x with till := till })) ha
      exact rd_ret ev_var (q _ l (k2.lst h1) (plan_put ok1 z1 p1 mem ⟨dxa, upd_same⟩ But.upd.butL) (k1.trans k2) n1)
noncomputable def sp_pass_time (CG CP : Addr) : Sp := fun vs H Q _ => ∃ (p : Addr) (st : Sq04.State) (now : Nat), vs = [.ref p, .int (now : Int)] ∧ PlanAt CG CP H p st ∧ SOk st ∧ Done CG CP H p (Sq04.step st (.time now)) Q
theorem ok_pass_time (T : Txt K mg A) : FnOk P w K mg base CX0 7 A.f_pass_time A.d_pass_time ["plan", "now"] (sp_pass_time A.C_Group A.C_Plan) := by
  refine T.pass_time.F.ok sc_pass_time (fun vs H Q E h => ?_) (fun cdv A' outer s H vs Q E hr h => ?_)
  · obtain ⟨p, st, now, rfl, _⟩ := h
    rfl
  · obtain ⟨p, st, now, rfl, hP, ok, q⟩ := h
    have hP' := hP
    obtain ⟨dx, dg, dm, gl, ml, h⟩ := hP'
    refine ⟨_, (pss_cons (ps_set (i := 2) sc_pass_time.nd rfl (Or.inl rfl) (pe_call (ok_refuse_time T) (hr.mono (by decide)) rfl T.refuse_time.m T.refuse_time.F.kp T.refuse_time.b .nil pass0 (pa_cons (pv 0) (pa_cons (pv 1) pa_nil))))
      (pss_cons (ps_if (pt_cmpR op_neI (pv 2) (pe_glob (v := .int (0)) rfl T.g_NOT_REFUSED ⟨_, rfl⟩) (nomark _)) (pss_one (ps_ret (pe_lst (pa_cons (pv 2) pa_nil)))) pss_nil)
      (pss_one (ps_ret (pe_meth (pv 0) T.c_Plan T.Plan_go_on.m (ok_Plan_go_on T) (hr.mono (by decide)) T.Plan_go_on.b .nil pass0 (pa_cons (pv 1) pa_nil)))))), ?_⟩
    refine rd_seq (rd_set (ev_call (v := .int (refT st now)) (ea_cons ev_var (ea_cons ev_var ea_nil)) (fun Q q => ⟨p, st, now, rfl, hP, q⟩)) ?_)
    refine refused rfl (fun z => q.says (time_ref z) hP) (fun z => ?_)
    obtain ⟨z1, z2⟩ := refT_zero z
    unfold Done at q
    rw [time_go z, ansL_wanted] at q
    exact rd_ret' (rd_meth ev_var h.hp (p_no _ _ _ (by decide +kernel)) (ea_cons ev_var ea_nil) ⟨p, st, now, rfl, hP, ok, z2, q⟩)
noncomputable def sp_make_member (CG CP : Addr) : Sp := fun vs H Q _ => ∃ (p : Addr) (st : Sq04.State) (ch g now : Nat), vs = [.ref p, .int (ch : Int), .int (g : Int), .int (now : Int)] ∧ PlanAt CG CP H p st ∧ SOk st ∧ Done CG CP H p (Sq04.step st (.member ch g now)) Q
theorem ok_make_member (T : Txt K mg A) : FnOk P w K mg base CX0 7 A.f_make_member A.d_make_member ["plan", "channel", "number", "now"] (sp_make_member A.C_Group A.C_Plan) := by
  refine T.make_member.F.ok sc_make_member (fun vs H Q E h => ?_) (fun cdv A' outer s H vs Q E hr h => ?_)
  · obtain ⟨p, st, ch, g, now, rfl, _⟩ := h
    rfl
  · obtain ⟨p, st, ch, g, now, rfl, hP, ok, q⟩ := h
    have hP' := hP
    obtain ⟨dx, dg, dm, gl, ml, h⟩ := hP'
    have hu := hu_of hr
    refine ⟨_, (pss_cons (ps_if (pt_not (pt_val (pe_call (ok_is_channel T) (hr.mono (by decide)) rfl T.is_channel.m T.is_channel.F.kp T.is_channel.b .nil pass0 (pa_cons (pv 1) pa_nil)))) (pss_one (ps_ret (pe_lst (pa_cons (pe_glob (v := .int (-1)) rfl T.g_NOT_IN_RANGE ⟨_, rfl⟩) pa_nil)))) pss_nil)
      (pss_cons (ps_set (i := 4) sc_make_member.nd rfl (Or.inl rfl) (pe_call (ok_refuse_group T) (hr.mono (by decide)) rfl T.refuse_group.m T.refuse_group.F.kp T.refuse_group.b .nil pass0 (pa_cons (pv 0) (pa_cons (pv 2) (pa_cons (pv 3) pa_nil)))))
      (pss_cons (ps_if (pt_cmpR op_neI (pv 4) (pe_glob (v := .int (0)) rfl T.g_NOT_REFUSED ⟨_, rfl⟩) (nomark _)) (pss_one (ps_ret (pe_lst (pa_cons (pv 4) pa_nil)))) pss_nil)
      (pss_cons (ps_set (i := 5) sc_make_member.nd rfl (Or.inl rfl) (pe_meth (pv 0) T.c_Plan T.Plan_go_on.m (ok_Plan_go_on T) (hr.mono (by decide)) T.Plan_go_on.b .nil pass0 (pa_cons (pv 3) pa_nil)))
      (pss_cons (ps_dput (by exact hu) (pe_fld (pv 0) rfl) (pv 1) (pv 2) rfl)
      (pss_one (ps_ret (pv 5)))))))), ?_⟩
    try refine nx_mk ?_
    refine rq (sq_if1 (et_not (et_b (ev_call (v := .bl (decide (ch ≤ 63))) (ea_cons ev_var ea_nil) (fun Q q => ⟨ch, rfl, q⟩)))) (fun h0 => ?_) (fun h0 => ?_))
    · exact ret1 ev_c (q.says (member_bad (by have := not_true h0; omega)) hP)
    · have c1 : ch < 64 := by have := not_false' h0; omega
      refine rq (rd_seq (rd_set (ev_call (v := .int (refG st g now)) (ea_cons ev_var (ea_cons ev_var (ea_cons ev_var ea_nil))) (fun Q q => ⟨p, st, g, now, rfl, hP, q⟩)) ?_))
      refine refused rfl (fun z => q.says (member_ref c1 z) hP) (fun z => ?_)
      obtain ⟨z1, z2, z3, x, hx⟩ := refG_zero z
      refine rd_seq (rd_set' (rd_meth ev_var h.hp (p_no _ _ _ (by decide +kernel)) (ea_cons ev_var ea_nil) ⟨p, st, now, rfl, hP, ok, z3, fun H1 l h1 P1 k1 n1 => ?_⟩))
      obtain ⟨dx1, dg1, dm1, gl1, ml1, p1⟩ := P1
      have ok1 := pass_ok ok z3
      unfold Done at q
      rw [member_go c1 z, ansL_wanted] at q
      refine rd_seq (rd_dput (k := Sum.inl (ch : Int)) ev_var (ev_fld ev_var p1.hp T.c_Plan T.n_Plan_owners (p_owners _ _ _)) ev_var p1.hm (by rw [kvOf_len]; exact small1000 (by have := p1.ms.len ok1; omega)) ?_)
      rw [show putK (mkv ml1) (Sum.inl (ch : Int)) (V.int (g : Int)) = mkv (putN ml1 ch g) from kvOf_put (c := cN) ml1 ch g]
      have p3 := p1.setM (p1.ms.put (m' := memb { (st.pass now).1 with member := (st.pass now).1.member.set ch (some g) }) (c := ch) (g := g) fun k => memb_set ok1 c1 _ k)
      have k3 := keepQ_dK (o := .dK (mkv (putN ml1 ch g))) p1.hm
      exact rd_ret ev_var (q _ l (k3.lst h1) ⟨dx1, dg1, dm1, gl1, _, p3⟩ (k1.trans k3) n1)
theorem ok_make_alone (T : Txt K mg A) : FnOk P w K mg base CX0 7 A.f_make_alone A.d_make_alone ["plan", "channel", "now"] (sp_at A.C_Group A.C_Plan Sq04.Call.alone) := by
  refine T.make_alone.F.ok sc_make_alone (fun vs H Q E h => ?_) (fun cdv A' outer s H vs Q E hr h => ?_)
  · obtain ⟨p, st, ch, now, rfl, _⟩ := h
    rfl
  · obtain ⟨p, st, ch, now, rfl, hP, ok, q⟩ := h
    have hP' := hP
    obtain ⟨dx, dg, dm, gl, ml, h⟩ := hP'
    refine ⟨_, (pss_cons (ps_if (pt_not (pt_val (pe_call (ok_is_channel T) (hr.mono (by decide)) rfl T.is_channel.m T.is_channel.F.kp T.is_channel.b .nil pass0 (pa_cons (pv 1) pa_nil)))) (pss_one (ps_ret (pe_lst (pa_cons (pe_glob (v := .int (-1)) rfl T.g_NOT_IN_RANGE ⟨_, rfl⟩) pa_nil)))) pss_nil)
      (pss_cons (ps_set (i := 3) sc_make_alone.nd rfl (Or.inl rfl) (pe_call (ok_refuse_time T) (hr.mono (by decide)) rfl T.refuse_time.m T.refuse_time.F.kp T.refuse_time.b .nil pass0 (pa_cons (pv 0) (pa_cons (pv 2) pa_nil))))
      (pss_cons (ps_if (pt_cmpR op_neI (pv 3) (pe_glob (v := .int (0)) rfl T.g_NOT_REFUSED ⟨_, rfl⟩) (nomark _)) (pss_one (ps_ret (pe_lst (pa_cons (pv 3) pa_nil)))) pss_nil)
      (pss_cons (ps_set (i := 4) sc_make_alone.nd rfl (Or.inl rfl) (pe_meth (pv 0) T.c_Plan T.Plan_go_on.m (ok_Plan_go_on T) (hr.mono (by decide)) T.Plan_go_on.b .nil pass0 (pa_cons (pv 2) pa_nil)))
      (pss_cons (ps_expr (pe_meth (pv 0) T.c_Plan T.Plan_free_channel.m (ok_Plan_free_channel T) (hr.mono (by decide)) T.Plan_free_channel.b .nil pass0 (pa_cons (pv 1) pa_nil)))
      (pss_one (ps_ret (pv 4)))))))), ?_⟩
    try refine nx_mk ?_
    refine rq (sq_if1 (et_not (et_b (ev_call (v := .bl (decide (ch ≤ 63))) (ea_cons ev_var ea_nil) (fun Q q => ⟨ch, rfl, q⟩)))) (fun h0 => ?_) (fun h0 => ?_))
    · exact ret1 ev_c (q.says (alone_bad (by have := not_true h0; omega)) hP)
    · have c1 : ch < 64 := by have := not_false' h0; omega
      refine rq (rd_seq (rd_set (ev_call (v := .int (refT st now)) (ea_cons ev_var (ea_cons ev_var ea_nil)) (fun Q q => ⟨p, st, now, rfl, hP, q⟩)) ?_))
      refine refused rfl (fun z => q.says (alone_ref c1 z) hP) (fun z => ?_)
      obtain ⟨z1, z3⟩ := refT_zero z
      refine rd_seq (rd_set' (rd_meth ev_var h.hp (p_no _ _ _ (by decide +kernel)) (ea_cons ev_var ea_nil) ⟨p, st, now, rfl, hP, ok, z3, fun H1 l h1 P1 k1 n1 => ?_⟩))
      obtain ⟨dx1, dg1, dm1, gl1, ml1, p1⟩ := P1
      have ok1 := pass_ok ok z3
      unfold Done at q
      rw [alone_go c1 z, ansL_wanted] at q
      refine rd_seq (rd_drop (rd_meth ev_var p1.hp (p_no _ _ _ (by decide +kernel)) (ea_cons ev_var ea_nil) ⟨p, dx1, dg1, dm1, gl1, ml1, _, ch, _, _, memb { (st.pass now).1 with member := (st.pass now).1.member.set ch none }, rfl, p1, fun k => memb_set ok1 c1 _ k, fun H2 ml2 p2 k2 => ?_⟩))
      exact rd_ret ev_var (q _ l (k2.lst h1) ⟨dx1, dg1, dm1, gl1, _, p2⟩ (k1.trans k2) n1)
theorem ok_send_away (T : Txt K mg A) : FnOk P w K mg base CX0 7 A.f_send_away A.d_send_away ["plan", "number", "now"] (sp_at A.C_Group A.C_Plan Sq04.Call.away) := by
  refine T.send_away.F.ok sc_send_away (fun vs H Q E h => ?_) (fun cdv A' outer s H vs Q E hr h => ?_)
  · obtain ⟨p, st, g, now, rfl, _⟩ := h
    rfl
  · obtain ⟨p, st, g, now, rfl, hP, ok, q⟩ := h
    have hP' := hP
    obtain ⟨dx, dg, dm, gl, ml, h⟩ := hP'
    refine ⟨_, (pss_cons (ps_set (i := 3) sc_send_away.nd rfl (Or.inl rfl) (pe_call (ok_refuse_group T) (hr.mono (by decide)) rfl T.refuse_group.m T.refuse_group.F.kp T.refuse_group.b .nil pass0 (pa_cons (pv 0) (pa_cons (pv 1) (pa_cons (pv 2) pa_nil)))))
      (pss_cons (ps_if (pt_cmpR op_neI (pv 3) (pe_glob (v := .int (0)) rfl T.g_NOT_REFUSED ⟨_, rfl⟩) (nomark _)) (pss_one (ps_ret (pe_lst (pa_cons (pv 3) pa_nil)))) pss_nil)
      (pss_cons (ps_set (i := 4) sc_send_away.nd rfl (Or.inl rfl) (pe_meth (pv 0) T.c_Plan T.Plan_go_on.m (ok_Plan_go_on T) (hr.mono (by decide)) T.Plan_go_on.b .nil pass0 (pa_cons (pv 2) pa_nil)))
      (pss_cons (ps_expr (pe_dpop1 (pe_fld (pv 0) rfl) (pv 1) ⟨rfl, rfl, rfl, rfl⟩))
      (pss_cons (ps_for PassesOwn.never rfl (pi_list (pe_meth (pv 0) T.c_Plan T.Plan_channels_of.m (ok_Plan_channels_of T) (hr.mono (by decide)) T.Plan_channels_of.b .nil pass0 (pa_cons (pv 1) pa_nil))) (pg_name (i := 5) sc_send_away.nd rfl (Or.inl rfl))
        (pss_one (ps_expr (pe_meth (pv 0) T.c_Plan T.Plan_free_channel.m (ok_Plan_free_channel T) (hr.mono (by decide)) T.Plan_free_channel.b .nil pass0 (pa_cons (pv 5) pa_nil)))))
      (pss_one (ps_ret (pv 4)))))))), ?_⟩
    refine rd_seq (rd_set (ev_call (v := .int (refG st g now)) (ea_cons ev_var (ea_cons ev_var (ea_cons ev_var ea_nil))) (fun Q q => ⟨p, st, g, now, rfl, hP, q⟩)) ?_)
    refine refused rfl (fun z => q.says (away_ref z) hP) (fun z => ?_)
    obtain ⟨z1, z2, z3, x, hx⟩ := refG_zero z
    refine rd_seq (rd_set' (rd_meth ev_var h.hp (p_no _ _ _ (by decide +kernel)) (ea_cons ev_var ea_nil) ⟨p, st, now, rfl, hP, ok, z3, fun H1 l h1 P1 k1 n1 => ?_⟩))
    obtain ⟨dx1, dg1, dm1, gl1, ml1, p1⟩ := P1
    have ok1 := pass_ok ok z3
    have e1 : (st.pass now).1.group g = some (gone now x) := by rw [pass_gone, hx]; rfl
    obtain ⟨a, mem, hv, dxa, ha⟩ := p1.gs.get e1
    unfold Done at q
    rw [away_go z, ansL_wanted] at q
    generalize (st.pass now).1 = st1 at p1 ok1 e1 q
    refine rd_seq (rd_drop (rd_dpop (k := Sum.inl (g : Int)) (ev_fld ev_var p1.hp T.c_Plan T.n_Plan_groups (p_groups _ _ _)) ev_var p1.hg hv ?_))
    rw [kvOf_drop]
    have p2 := p1.setG (p1.gs.drop (f' := (st1.set g none).group) (n := g) fun k => set_group ok1 z1 _ k)
    have k2 := keepQ_dK (o := .dK (gkv (dropN gl1 g))) p1.hg
    have h2 := k2.lst h1
    have ok2 : SOk (st1.set g none) := set_ok ok1 fun _ z => by cases z
    generalize upd H1 dg1 (.dK (gkv (dropN gl1 g))) = H2 at p2 k2 h2 ⊢
    refine rd_seq (rd_for (rd_meth ev_var p2.hp (p_no _ _ _ (by decide +kernel)) (ea_cons ev_var ea_nil) ⟨p, st1.set g none, g, rfl, ⟨dx1, dg1, dm1, _, ml1, p2⟩, ok2, fun H3 lc hc s3 nc => ⟨lc, rfl, ⟨_, SqL.of hc⟩, ?_⟩⟩))
    refine forw_by (xs := nums ((st1.set g none).channels g)) (fun i σ H' => ∃ v5 ml' m', σ = [some (.ref p), some (.int (g : Int)), some (.int (now : Int)), some (.int (refG st g now)), some (.ref l), v5] ∧ PlanIn A.C_Group A.C_Plan H' p dx1 dg1 dm1 (dropN gl1 g) ml' st1.now (st1.set g none).group m' ∧ KeepQ H3 H' ∧
      ∀ k, m' k = if k ∈ ((st1.set g none).channels g).take i then none else memb st1 k) ⟨none, ml1, memb st1, rfl, p2.same s3, KeepQ.refl _, fun k => by rw [List.take_zero, if_neg (by simp)]⟩ (fun i σ H' _ ⟨_, _, _, _, _, kk, _⟩ => SqL.of (kk.lst hc)) ?_ ?_
    · rintro i y σ H' hi ⟨v5, ml', m', rfl, p4, k4, hm'⟩
      obtain ⟨ch, hch, rfl⟩ := map_at hi
      refine rd_name (rd_drop (rd_meth ev_var p4.hp (p_no _ _ _ (by decide +kernel)) (ea_cons ev_var ea_nil) ⟨p, dx1, dg1, dm1, _, ml', _, ch, _, m', fun k => if k = ch then none else m' k, rfl, p4, fun _ => rfl, fun H5 ml5 p5 k5 => ?_⟩))
      refine ⟨_, ml5, _, rfl, p5, k4.trans k5, fun k => ?_⟩
      rw [take_snoc' hch]
      show (if k = ch then none else m' k) = _
      rw [hm']
      by_cases d : k = ch
      · rw [if_pos d, if_pos (by rw [d]; simp)]
      · rw [if_neg d]
        by_cases e : k ∈ ((st1.set g none).channels g).take i
        · rw [if_pos e, if_pos (List.mem_append.mpr (.inl e))]
        · rw [if_neg e, if_neg fun z => by
            rcases List.mem_append.mp z with z | z
            · exact e z
            · exact d (List.mem_singleton.mp z)]
    · rintro σ H' ⟨v5, ml', m', rfl, p4, k4, hm'⟩
      rw [nums_len, List.take_length] at hm'
      have em : m' = memb { (st1.set g none) with member := st1.member.map fun m => if m = some g then none else m } := funext fun k => by
        rw [hm', memb_away]
        by_cases d : memb st1 k = some g
        · have hk : k < 64 := by
            by_cases e : k < 64
            · exact e
            · rw [memb_far ok1 (by omega)] at d; cases d
          have hin : k ∈ (st1.set g none).channels g := by
            unfold Sq04.State.channels
            rw [List.mem_filter, List.mem_range]
            refine ⟨hk, ?_⟩
            show (memb st1 k == some g) = true
            rw [d]
            simp
          rw [if_pos d, if_pos hin]
        · have hn : ¬ k ∈ (st1.set g none).channels g := fun z => d (channels_lt (s := st1) z).2
          rw [if_neg d, if_neg hn]
      rw [em] at p4
      have k6 := (keepQ_same s3).trans k4
      exact rd_ret ev_var (q _ l (k6.lst h2) ⟨dx1, dg1, dm1, _, ml', p4⟩ ((k1.trans k2).trans k6) n1)
theorem nums_snoc1 (l : List Nat) (y : Addr × Sq04.Group) : nums (l ++ [y].map fun x => nextOf x.2) = nums l ++ [V.int ((nextOf y.2 : Nat) : Int)] := nums_snoc l _
noncomputable def sp_tell_next (CG CP : Addr) : Sp := fun vs H Q _ => ∃ (p : Addr) (st : Sq04.State), vs = [.ref p] ∧ PlanAt CG CP H p st ∧ SOk st ∧ Done CG CP H p (Sq04.step st .next) Q
theorem ok_tell_next (T : Txt K mg A) : FnOk P w K mg base CX0 5 A.f_tell_next A.d_tell_next ["plan"] (sp_tell_next A.C_Group A.C_Plan) := by
  refine T.tell_next.F.ok sc_tell_next (fun vs H Q E h => ?_) (fun cdv A' outer s H vs Q E hr h => ?_)
  · obtain ⟨p, st, rfl, _⟩ := h
    rfl
  · obtain ⟨p, st, rfl, hP, ok, q⟩ := h
    have hP' := hP
    obtain ⟨dx, dg, dm, gl, ml, h⟩ := hP'
    refine ⟨_, (pss_cons (ps_setLc (i := 1) rfl sc_tell_next.nd rfl rfl (sw_true rfl rfl rfl rfl) (pi_list (pe_meth0 (pv 0) T.c_Plan T.Plan_groups_on.m (ok_Plan_groups_on T) (hr.mono (by decide)) T.Plan_groups_on.b .nil pass0)) (blkOk_by (N := ["plan", "times", "group"]) (sc := defScope s_tell_next) (own := [("group", 2)]) (by decide +kernel)) (fun _ _ _ _ _ => pg_name (i := 2) sc_tell_next.nd rfl (Or.inl rfl)) (fun _ _ _ _ _ => pts_nil) (fun _ _ _ _ _ => (pe_call (ok_next_reading T) (hr.mono (by decide)) rfl T.next_reading.m T.next_reading.F.kp T.next_reading.b .nil pass0 (pa_cons (pv 2) pa_nil))))
      (pss_cons (ps_if (pt_cmpR op_eqI (pe_callB call_len_seq (by rfl) T.b_len PySem.boot_len (pa_cons (pv 1) pa_nil)) pe_int (nomark _)) (pss_one (ps_ret (pe_lst (pa_cons (pe_glob (v := .int (-2)) rfl T.g_NO_SUCH_GROUP ⟨_, rfl⟩) pa_nil)))) pss_nil)
      (pss_one (ps_ret (pe_lst (pa_cons pe_int (pa_cons (pe_callB (cr_min rfl) (by rfl) T.b_min boot_min (pa_cons (pv 1) pa_nil)) pa_nil))))))), ?_⟩
    refine rd_seq (rd_set' (rd_lc (rd_meth ev_var h.hp (p_no _ _ _ (by decide +kernel)) ea_nil ⟨p, st, rfl, hP, ok, fun H1 l as h1 s1 n1 ea ga => ⟨l, rfl, ⟨_, SqL.of h1⟩, fun D nD => ?_⟩⟩)))
    have las : as.length ≤ 16 := by
      have z := congrArg List.length ea
      rw [List.length_map, List.length_map] at z
      have z2 : st.live.length ≤ 16 := by
        unfold Sq04.State.live
        exact Nat.le_trans (List.length_filterMap_le _ _) (by rw [List.length_range]; exact Nat.le_refl _)
      omega
    have en : (as.map fun x => nextOf x.2) = nexts st := by
      unfold nexts
      have z := congrArg (List.map nextOf) ea
      rw [List.map_map, List.map_map] at z
      exact z
    refine lcw_by (xs := as.map fun x => V.ref x.1) (fun i H' => Same H1 H' ∧ H' D = some (.lst (nums ((as.take i).map fun x => nextOf x.2)))) ⟨same_new nD, upd_same⟩ (fun i H' _ ⟨s', _⟩ => SqL.of (s' _ _ h1)) ?_ ?_
    · rintro i x H' hi ⟨s', hD⟩
      obtain ⟨y, hy, rfl⟩ := map_at hi
      have my := List.mem_of_getElem? hy
      have li : i < as.length := (List.getElem?_eq_some_iff.mp hy).1
      have sok : SetOk y.2.set := by
        have z : y.2 ∈ st.live.map (·.2) := by rw [← ea]; exact List.mem_map.mpr ⟨y, my, rfl⟩
        obtain ⟨v, hv, e⟩ := List.mem_map.mp z
        rw [← e]
        exact (live_gst ok hv).ok
      refine lct_yes rfl (rd_call (ea_cons ev_var ea_nil) ⟨y.1, y.2, rfl, ((ga y my).same s1).same s', sok, fun H2 s2 => ⟨_, s2 _ _ hD, ?_, ?_, ?_⟩⟩)
      · rw [nums_len, List.length_map, List.length_take]
        exact small1000 (by omega)
      · exact fun b o e => by
          rw [upd_ne (ne_of_none e nD)]
          exact s2 _ _ (s' _ _ e)
      · rw [upd_same, take_snoc' hy, List.map_append, nums_snoc1]
    · rintro H' ⟨s', hD⟩
      rw [List.length_map, List.take_length, en] at hD
      have sH := s1.trans s'
      have hP2 := hP.same sH
      try refine nx_mk ?_
      refine rq (sq_if1 (et_t (ev_0 (ev_len (ea_cons ev_var ea_nil) (SqL.of hD)) ev_c)) (fun h0 => ?_) (fun h0 => ?_))
      · have e := of_decide_eq_true h0
        have e0 : nexts st = [] := by
          rw [nums_len] at e
          exact List.eq_nil_of_length_eq_zero (by omega)
        refine ret1 ev_c fun l2 nl2 => ?_
        unfold Done at q
        rw [step_next_nil ok e0] at q
        exact q _ l2 upd_same (hP2.same (same_new nl2)) (keepQ_same (sH.trans (same_new nl2))) (sH.free nl2)
      · have hpos : 0 < (nexts st).length := by
          have e := of_decide_eq_false h0
          rw [nums_len] at e
          by_cases c : (nexts st).length = 0
          · exact absurd (by rw [c]; rfl) e
          · omega
        refine rq (rd_ret' (rd_lstN (rd_cons ev_c (rd_cons' (rd_minL (a := D) (ns := intsOf (nexts st)) ev_var (SqL.of (by rw [← nums_ints]; exact hD)) (by rw [ints_len]; exact hpos) fun m m1 m2 => ⟨by show 2 ≤ sizeLine; decide, fun l2 nl2 => ?_⟩)))))
        obtain ⟨n, rfl, m3, m4⟩ := least_of m1 m2
        unfold Done at q
        rw [step_next_min ok m3 m4] at q
        exact q _ l2 upd_same (hP2.same (same_new nl2)) (keepQ_same (sH.trans (same_new nl2))) (sH.free nl2)
noncomputable def sp_of (CG CP : Addr) (c : Nat → Sq04.Call) : Sp := fun vs H Q _ => ∃ (p : Addr) (st : Sq04.State) (g : Nat), vs = [.ref p, .int (g : Int)] ∧ PlanAt CG CP H p st ∧ SOk st ∧ Done CG CP H p (Sq04.step st (c g)) Q
theorem look_none {s : Sq04.State} {g : Nat} (h : s.group g = none) : Sq04.step s (.look g) = (s, Sq04.says (-2)) := by
  show (s, match s.group g with
    | none => Sq04.says (-2)
    | some x => ⟨0, [], [if x.on = true then 1 else 0, x.from_, x.till, x.wanted, x.missed]⟩) = _
  rw [h]
theorem look_some {s : Sq04.State} {g : Nat} {x : Sq04.Group} (h : s.group g = some x) : Sq04.step s (.look g) = (s, ⟨0, [], [if x.on = true then 1 else 0, x.from_, x.till, x.wanted, x.missed]⟩) := by
  show (s, match s.group g with
    | none => Sq04.says (-2)
    | some x => ⟨0, [], [if x.on = true then 1 else 0, x.from_, x.till, x.wanted, x.missed]⟩) = _
  rw [h]
theorem of_none {s : Sq04.State} {g : Nat} (h : s.group g = none) : Sq04.step s (.of_ g) = (s, Sq04.says (-2)) := by
  show (s, if (s.group g).isNone = true then Sq04.says (-2) else ⟨(s.channels g).length, [], s.channels g⟩) = _
  rw [h]
  rfl
theorem of_some {s : Sq04.State} {g : Nat} {x : Sq04.Group} (h : s.group g = some x) : Sq04.step s (.of_ g) = (s, ⟨(s.channels g).length, [], s.channels g⟩) := by
  show (s, if (s.group g).isNone = true then Sq04.says (-2) else ⟨(s.channels g).length, [], s.channels g⟩) = _
  rw [h]
  rfl
theorem isSome_not {α : Type} {o : Option α} (h : (!o.isSome) = true) : o = none := by
  cases o with
  | none => rfl
  | some x => cases h
theorem isSome_yes {α : Type} {o : Option α} (h : (!o.isSome) = false) : ∃ x, o = some x := by
  cases o with
  | none => cases h
  | some x => exact ⟨x, rfl⟩
theorem ok_look_at (T : Txt K mg A) : FnOk P w K mg base CX0 1 A.f_look_at A.d_look_at ["plan", "number"] (sp_of A.C_Group A.C_Plan Sq04.Call.look) := by
  refine T.look_at.F.ok sc_look_at (fun vs H Q E h => ?_) (fun cdv A' outer s H vs Q E hr h => ?_)
  · obtain ⟨p, st, g, rfl, _⟩ := h
    rfl
  · obtain ⟨p, st, g, rfl, hP, ok, q⟩ := h
    have hP' := hP
    obtain ⟨dx, dg, dm, gl, ml, h⟩ := hP'
    have hu := hu_of hr
    refine ⟨_, (pss_cons (ps_if (pt_cmp (pc_dnotin (by exact hu) (pv 1) (pe_fld (pv 0) rfl))) (pss_one (ps_ret (pe_lst (pa_cons (pe_glob (v := .int (-2)) rfl T.g_NO_SUCH_GROUP ⟨_, rfl⟩) pa_nil)))) pss_nil)
      (pss_cons (ps_set (i := 2) sc_look_at.nd rfl (Or.inl rfl) (pe_dget (by exact hu) (pe_fld (pv 0) rfl) (pv 1) (fun _ _ => rfl)))
      (pss_cons (ps_set (i := 3) sc_look_at.nd rfl (Or.inl rfl) (pe_ifExp (pt_val (pe_fld (pv 2) rfl)) pe_int pe_int))
      (pss_one (ps_ret (pe_lst (pa_cons pe_int (pa_cons (pv 3) (pa_cons (pe_fld (pv 2) rfl) (pa_cons (pe_fld (pv 2) rfl) (pa_cons (pe_fld (pv 2) rfl) (pa_cons (pe_fld (pv 2) rfl) pa_nil)))))))))))), ?_⟩
    try refine nx_mk ?_
    refine rq (sq_if1 (et_b (ev_dnot (k := Sum.inl (g : Int)) ev_var (ev_fld ev_var h.hp T.c_Plan T.n_Plan_groups (p_groups _ _ _)) h.hg)) (fun h1 => ?_) (fun h1 => ?_))
    · rw [h.gs.isSome] at h1
      exact ret1 ev_c (q.says (look_none (isSome_not h1)) hP)
    · rw [h.gs.isSome] at h1
      obtain ⟨x, hx⟩ := isSome_yes h1
      obtain ⟨a, mem, hv, dxa, ha⟩ := h.gs.get hx
      refine rq (rd_seq (rd_set (ev_dget (k := Sum.inl (g : Int)) (ev_fld ev_var h.hp T.c_Plan T.n_Plan_groups (p_groups _ _ _)) ev_var h.hg hv) ?_))
      refine rd_seq (rd_set (ev_if (et_b (ev_fld ev_var ha T.c_Group T.n_Group_active (g_active _))) (fun _ => ev_c) (fun _ => ev_c)) ?_)
      refine rd_ret' (rd_lst (ea_cons ev_c (ea_cons ev_var (ea_cons (ev_fld ev_var ha T.c_Group T.n_Group_since (g_since _)) (ea_cons (ev_fld ev_var ha T.c_Group T.n_Group_till (g_till _)) (ea_cons (ev_fld ev_var ha T.c_Group T.n_Group_wanted_in_all (g_wanted_in_all _)) (ea_cons (ev_fld ev_var ha T.c_Group T.n_Group_missed_in_all (g_missed_in_all _)) ea_nil)))))) (by show 6 ≤ sizeLine; decide) fun l nl => ?_)
      unfold Done at q
      rw [look_some hx] at q
      refine q _ l ?_ (hP.same (same_new nl)) (keepQ_same (same_new nl)) nl
      rw [upd_same]
      cases x.on <;> rfl
theorem ok_tell_channels (T : Txt K mg A) : FnOk P w K mg base CX0 2 A.f_tell_channels A.d_tell_channels ["plan", "number"] (sp_of A.C_Group A.C_Plan Sq04.Call.of_) := by
  refine T.tell_channels.F.ok sc_tell_channels (fun vs H Q E h => ?_) (fun cdv A' outer s H vs Q E hr h => ?_)
  · obtain ⟨p, st, g, rfl, _⟩ := h
    rfl
  · obtain ⟨p, st, g, rfl, hP, ok, q⟩ := h
    have hP' := hP
    obtain ⟨dx, dg, dm, gl, ml, h⟩ := hP'
    have hu := hu_of hr
    refine ⟨_, (pss_cons (ps_if (pt_cmp (pc_dnotin (by exact hu) (pv 1) (pe_fld (pv 0) rfl))) (pss_one (ps_ret (pe_lst (pa_cons (pe_glob (v := .int (-2)) rfl T.g_NO_SUCH_GROUP ⟨_, rfl⟩) pa_nil)))) pss_nil)
      (pss_cons (ps_set (i := 2) sc_tell_channels.nd rfl (Or.inl rfl) (pe_meth (pv 0) T.c_Plan T.Plan_channels_of.m (ok_Plan_channels_of T) (hr.mono (by decide)) T.Plan_channels_of.b .nil pass0 (pa_cons (pv 1) pa_nil)))
      (pss_one (ps_ret (pe_op op_cat (pe_lst (pa_cons (pe_callB call_len_seq (by rfl) T.b_len PySem.boot_len (pa_cons (pv 2) pa_nil)) pa_nil)) (pv 2)))))), ?_⟩
    try refine nx_mk ?_
    refine rq (sq_if1 (et_b (ev_dnot (k := Sum.inl (g : Int)) ev_var (ev_fld ev_var h.hp T.c_Plan T.n_Plan_groups (p_groups _ _ _)) h.hg)) (fun h1 => ?_) (fun h1 => ?_))
    · rw [h.gs.isSome] at h1
      exact ret1 ev_c (q.says (of_none (isSome_not h1)) hP)
    · rw [h.gs.isSome] at h1
      obtain ⟨x, hx⟩ := isSome_yes h1
      refine rq (rd_seq (rd_set' (rd_meth ev_var h.hp (p_no _ _ _ (by decide +kernel)) (ea_cons ev_var ea_nil) ⟨p, st, g, rfl, hP, ok, fun H1 c hc s1 n1 => ?_⟩)))
      refine rd_ret' (rd_opN (rd_lst (ea_cons (ev_len (ea_cons ev_var ea_nil) (SqL.of hc)) ea_nil) (by show 1 ≤ sizeLine; decide) fun l1 nl1 => rd_var rfl ⟨l1, c, _, _, rfl, rfl, upd_same, same_new nl1 _ _ hc, ?_, fun l2 nl2 => ?_⟩))
      · rw [nums_len]
        have := channels_len st g
        refine size_le ?_
        show 1 + (st.channels g).length ≤ 100000
        omega
      · unfold Done at q
        rw [of_some hx] at q
        have sH := (s1.trans (same_new (o := .lst [V.int ((nums (st.channels g)).length : Nat)]) nl1))
        refine q _ l2 ?_ ((hP.same sH).same (same_new nl2)) (keepQ_same (sH.trans (same_new nl2))) (sH.free nl2)
        rw [upd_same, nums_len]
        unfold ansL intsV nums
        rw [List.flatMap_nil, List.nil_append, List.map_cons, List.map_map]
        rfl
end
end RP
set_option Elab.async false
set_option linter.all false
set_option maxRecDepth 100000
set_option maxHeartbeats 4000000
namespace RP
open PySem PySem.Spec PyProof.Rows L2 RT
section
variable {P : Program} {w : World} {K : PySem.W.Frag} {mg : Str → Option Value} {base : Heap} {A : Adr}
noncomputable def sp_answer_group (CG CP : Addr) : Sp := fun vs H Q _ => ∃ (p ln : Addr) (st : Sq04.State) (g now : Nat) (x : Sq04.Set), vs = [.ref p, .ref ln] ∧
  H ln = some (.lst [.int (g : Int), .int (x.period : Int), .int (x.quick : Int), .int (x.phase : Int), .int (x.burst : Int), .int (x.gap : Int), .int (x.slack : Int), .int (now : Int)]) ∧
  PlanAt CG CP H p st ∧ SOk st ∧ Done CG CP H p (Sq04.step st (.group g x now)) Q
theorem ok_answer_group (T : Txt K mg A) : FnOk P w K mg base CX0 8 A.f_answer_group A.d_answer_group ["plan", "numbers"] (sp_answer_group A.C_Group A.C_Plan) := by
  refine T.answer_group.F.ok sc_answer_group (fun vs H Q E h => ?_) (fun cdv A' outer s H vs Q E hr h => ?_)
  · obtain ⟨p, ln, st, g, now, x, rfl, _⟩ := h
    rfl
  · obtain ⟨p, ln, st, g, now, x, rfl, hl, hP, ok, q⟩ := h
    have hS := SqL.of (K := K) hl
    refine ⟨_, (pss_one (ps_ret (pe_call (ok_set_group T) (hr.mono (by decide)) rfl T.set_group.m T.set_group.F.kp T.set_group.b .nil pass0 (pa_cons (pv 0) (pa_cons (pe_ix ix_list (pv 1) pe_int (fun _ _ => rfl)) (pa_cons (pe_ix ix_list (pv 1) pe_int (fun _ _ => rfl)) (pa_cons (pe_ix ix_list (pv 1) pe_int (fun _ _ => rfl)) (pa_cons (pe_ix ix_list (pv 1) pe_int (fun _ _ => rfl)) (pa_cons (pe_ix ix_list (pv 1) pe_int (fun _ _ => rfl)) (pa_cons (pe_ix ix_list (pv 1) pe_int (fun _ _ => rfl)) (pa_cons (pe_ix ix_list (pv 1) pe_int (fun _ _ => rfl)) (pa_cons (pe_ix ix_list (pv 1) pe_int (fun _ _ => rfl)) pa_nil)))))))))))), ?_⟩
    exact rd_ret' (rd_call (ea_cons ev_var (ea_cons (ev_ixL (j := 0) ev_var ev_c hS rfl) (ea_cons (ev_ixL (j := 1) ev_var ev_c hS rfl) (ea_cons (ev_ixL (j := 2) ev_var ev_c hS rfl) (ea_cons (ev_ixL (j := 3) ev_var ev_c hS rfl) (ea_cons (ev_ixL (j := 4) ev_var ev_c hS rfl)
      (ea_cons (ev_ixL (j := 5) ev_var ev_c hS rfl) (ea_cons (ev_ixL (j := 6) ev_var ev_c hS rfl) (ea_cons (ev_ixL (j := 7) ev_var ev_c hS rfl) ea_nil))))))))) ⟨p, st, g, now, x, rfl, hP, ok, q⟩)
theorem call_skip {σ : L2.St} {H : Hp} {D : Ends} {z n : Int} {t u : TS} (hi : σ[1]? = some (some (.int z))) (hn : z ≠ n) (h : u D σ H) : tSeq (tIfS (tTest (tOp (rI0 fun i j => V.bl (decide (i = j))) (tVar 1) (tC (.int n)))) t tNext) u D σ H :=
  rd_seq (if_of (et_t (ev_0 (ev_var hi) ev_c)) (fun h0 => absurd (of_decide_eq_true h0) hn) (fun _ => rd_nil h))
theorem call_take {σ : L2.St} {H : Hp} {D : Ends} {n : Int} {t u : TS} (hi : σ[1]? = some (some (.int n))) (h : t { D with nx := u D } σ H) : tSeq (tIfS (tTest (tOp (rI0 fun i j => V.bl (decide (i = j))) (tVar 1) (tC (.int n)))) t tNext) u D σ H :=
  rd_seq (if_of (et_t (ev_0 (ev_var hi) ev_c)) (fun _ => h) (fun h0 => absurd rfl (of_decide_eq_false h0)))
noncomputable def sp_answer_call (CG CP : Addr) : Sp := fun vs H Q _ => ∃ (p ln : Addr) (st : Sq04.State) (k : Int) (args : List Int) (c : Sq04.Call), vs = [.ref p, .int k, .ref ln] ∧ H ln = some (.lst (intsV args)) ∧ PlanAt CG CP H p st ∧ SOk st ∧ IsCall k args c ∧ Done CG CP H p (Sq04.step st c) Q
theorem ok_answer_call (T : Txt K mg A) : FnOk P w K mg base CX0 9 A.f_answer_call A.d_answer_call ["plan", "call", "numbers"] (sp_answer_call A.C_Group A.C_Plan) := by
  refine T.answer_call.F.ok sc_answer_call (fun vs H Q E h => ?_) (fun cdv A' outer s H vs Q E hr h => ?_)
  · obtain ⟨p, ln, st, k, args, c, rfl, _⟩ := h
    rfl
  · obtain ⟨p, ln, st, k, args, c, rfl, hl, hP, ok, ic, q⟩ := h
    have hS := SqL.of (K := K) hl
    refine ⟨_, (pss_cons (ps_if (pt_cmpR op_eqI (pv 1) (pe_glob (v := .int (1)) rfl T.g_BEGIN ⟨_, rfl⟩) (nomark _)) (pss_one (ps_ret (pe_call (ok_begin T) (hr.mono (by decide)) rfl T.begin.m T.begin.F.kp T.begin.b .nil pass0 (pa_cons (pv 0) pa_nil)))) pss_nil)
      (pss_cons (ps_if (pt_cmpR op_eqI (pv 1) (pe_glob (v := .int (2)) rfl T.g_GROUP ⟨_, rfl⟩) (nomark _)) (pss_one (ps_ret (pe_call (ok_answer_group T) (hr.mono (by decide)) rfl T.answer_group.m T.answer_group.F.kp T.answer_group.b .nil pass0 (pa_cons (pv 0) (pa_cons (pv 2) pa_nil))))) pss_nil)
      (pss_cons (ps_if (pt_cmpR op_eqI (pv 1) (pe_glob (v := .int (3)) rfl T.g_AWAY ⟨_, rfl⟩) (nomark _)) (pss_one (ps_ret (pe_call (ok_send_away T) (hr.mono (by decide)) rfl T.send_away.m T.send_away.F.kp T.send_away.b .nil pass0 (pa_cons (pv 0) (pa_cons (pe_ix ix_list (pv 2) pe_int (fun _ _ => rfl)) (pa_cons (pe_ix ix_list (pv 2) pe_int (fun _ _ => rfl)) pa_nil)))))) pss_nil)
      (pss_cons (ps_if (pt_cmpR op_eqI (pv 1) (pe_glob (v := .int (4)) rfl T.g_MEMBER ⟨_, rfl⟩) (nomark _)) (pss_one (ps_ret (pe_call (ok_make_member T) (hr.mono (by decide)) rfl T.make_member.m T.make_member.F.kp T.make_member.b .nil pass0 (pa_cons (pv 0) (pa_cons (pe_ix ix_list (pv 2) pe_int (fun _ _ => rfl)) (pa_cons (pe_ix ix_list (pv 2) pe_int (fun _ _ => rfl)) (pa_cons (pe_ix ix_list (pv 2) pe_int (fun _ _ => rfl)) pa_nil))))))) pss_nil)
      (pss_cons (ps_if (pt_cmpR op_eqI (pv 1) (pe_glob (v := .int (5)) rfl T.g_ALONE ⟨_, rfl⟩) (nomark _)) (pss_one (ps_ret (pe_call (ok_make_alone T) (hr.mono (by decide)) rfl T.make_alone.m T.make_alone.F.kp T.make_alone.b .nil pass0 (pa_cons (pv 0) (pa_cons (pe_ix ix_list (pv 2) pe_int (fun _ _ => rfl)) (pa_cons (pe_ix ix_list (pv 2) pe_int (fun _ _ => rfl)) pa_nil)))))) pss_nil)
      (pss_cons (ps_if (pt_cmpR op_eqI (pv 1) (pe_glob (v := .int (6)) rfl T.g_ON ⟨_, rfl⟩) (nomark _)) (pss_one (ps_ret (pe_call (ok_switch_on T) (hr.mono (by decide)) rfl T.switch_on.m T.switch_on.F.kp T.switch_on.b .nil pass0 (pa_cons (pv 0) (pa_cons (pe_ix ix_list (pv 2) pe_int (fun _ _ => rfl)) (pa_cons (pe_ix ix_list (pv 2) pe_int (fun _ _ => rfl)) pa_nil)))))) pss_nil)
      (pss_cons (ps_if (pt_cmpR op_eqI (pv 1) (pe_glob (v := .int (7)) rfl T.g_OFF ⟨_, rfl⟩) (nomark _)) (pss_one (ps_ret (pe_call (ok_switch_off T) (hr.mono (by decide)) rfl T.switch_off.m T.switch_off.F.kp T.switch_off.b .nil pass0 (pa_cons (pv 0) (pa_cons (pe_ix ix_list (pv 2) pe_int (fun _ _ => rfl)) (pa_cons (pe_ix ix_list (pv 2) pe_int (fun _ _ => rfl)) pa_nil)))))) pss_nil)
      (pss_cons (ps_if (pt_cmpR op_eqI (pv 1) (pe_glob (v := .int (8)) rfl T.g_QUICK ⟨_, rfl⟩) (nomark _)) (pss_one (ps_ret (pe_call (ok_make_quick T) (hr.mono (by decide)) rfl T.make_quick.m T.make_quick.F.kp T.make_quick.b .nil pass0 (pa_cons (pv 0) (pa_cons (pe_ix ix_list (pv 2) pe_int (fun _ _ => rfl)) (pa_cons (pe_ix ix_list (pv 2) pe_int (fun _ _ => rfl)) (pa_cons (pe_ix ix_list (pv 2) pe_int (fun _ _ => rfl)) pa_nil))))))) pss_nil)
      (pss_cons (ps_if (pt_cmpR op_eqI (pv 1) (pe_glob (v := .int (9)) rfl T.g_TIME ⟨_, rfl⟩) (nomark _)) (pss_one (ps_ret (pe_call (ok_pass_time T) (hr.mono (by decide)) rfl T.pass_time.m T.pass_time.F.kp T.pass_time.b .nil pass0 (pa_cons (pv 0) (pa_cons (pe_ix ix_list (pv 2) pe_int (fun _ _ => rfl)) pa_nil))))) pss_nil)
      (pss_cons (ps_if (pt_cmpR op_eqI (pv 1) (pe_glob (v := .int (10)) rfl T.g_NEXT ⟨_, rfl⟩) (nomark _)) (pss_one (ps_ret (pe_call (ok_tell_next T) (hr.mono (by decide)) rfl T.tell_next.m T.tell_next.F.kp T.tell_next.b .nil pass0 (pa_cons (pv 0) pa_nil)))) pss_nil)
      (pss_cons (ps_if (pt_cmpR op_eqI (pv 1) (pe_glob (v := .int (11)) rfl T.g_LOOK ⟨_, rfl⟩) (nomark _)) (pss_one (ps_ret (pe_call (ok_look_at T) (hr.mono (by decide)) rfl T.look_at.m T.look_at.F.kp T.look_at.b .nil pass0 (pa_cons (pv 0) (pa_cons (pe_ix ix_list (pv 2) pe_int (fun _ _ => rfl)) pa_nil))))) pss_nil)
      (pss_one (ps_ret (pe_call (ok_tell_channels T) (hr.mono (by decide)) rfl T.tell_channels.m T.tell_channels.F.kp T.tell_channels.b .nil pass0 (pa_cons (pv 0) (pa_cons (pe_ix ix_list (pv 2) pe_int (fun _ _ => rfl)) pa_nil)))))))))))))))), ?_⟩
    cases ic with
    | begin_ =>
      refine call_take rfl ?_
      exact rd_ret' (rd_call (ea_cons ev_var ea_nil) ⟨p, st, rfl, hP, q⟩)
    | group g pe qu ph b ga sl now =>
      refine call_skip rfl (by decide) (call_take rfl ?_)
      exact rd_ret' (rd_call (ea_cons ev_var (ea_cons ev_var ea_nil)) ⟨p, ln, st, g, now, ⟨pe, qu, ph, b, ga, sl⟩, rfl, hl, hP, ok, q⟩)
    | away g t =>
      refine call_skip rfl (by decide) (call_skip rfl (by decide) (call_take rfl ?_))
      exact rd_ret' (rd_call (ea_cons ev_var (ea_cons (ev_ixL (j := 0) ev_var ev_c hS rfl) (ea_cons (ev_ixL (j := 1) ev_var ev_c hS rfl) ea_nil))) ⟨p, st, g, t, rfl, hP, ok, q⟩)
    | member c g t =>
      refine call_skip rfl (by decide) (call_skip rfl (by decide) (call_skip rfl (by decide) (call_take rfl ?_)))
      exact rd_ret' (rd_call (ea_cons ev_var (ea_cons (ev_ixL (j := 0) ev_var ev_c hS rfl) (ea_cons (ev_ixL (j := 1) ev_var ev_c hS rfl) (ea_cons (ev_ixL (j := 2) ev_var ev_c hS rfl) ea_nil)))) ⟨p, st, c, g, t, rfl, hP, ok, q⟩)
    | alone c t =>
      refine call_skip rfl (by decide) (call_skip rfl (by decide) (call_skip rfl (by decide) (call_skip rfl (by decide) (call_take rfl ?_))))
      exact rd_ret' (rd_call (ea_cons ev_var (ea_cons (ev_ixL (j := 0) ev_var ev_c hS rfl) (ea_cons (ev_ixL (j := 1) ev_var ev_c hS rfl) ea_nil))) ⟨p, st, c, t, rfl, hP, ok, q⟩)
    | on g t =>
      refine call_skip rfl (by decide) (call_skip rfl (by decide) (call_skip rfl (by decide) (call_skip rfl (by decide) (call_skip rfl (by decide) (call_take rfl ?_)))))
      exact rd_ret' (rd_call (ea_cons ev_var (ea_cons (ev_ixL (j := 0) ev_var ev_c hS rfl) (ea_cons (ev_ixL (j := 1) ev_var ev_c hS rfl) ea_nil))) ⟨p, st, g, t, rfl, hP, ok, q⟩)
    | off g t =>
      refine call_skip rfl (by decide) (call_skip rfl (by decide) (call_skip rfl (by decide) (call_skip rfl (by decide) (call_skip rfl (by decide) (call_skip rfl (by decide) (call_take rfl ?_))))))
      exact rd_ret' (rd_call (ea_cons ev_var (ea_cons (ev_ixL (j := 0) ev_var ev_c hS rfl) (ea_cons (ev_ixL (j := 1) ev_var ev_c hS rfl) ea_nil))) ⟨p, st, g, t, rfl, hP, ok, q⟩)
    | quick g t u =>
      refine call_skip rfl (by decide) (call_skip rfl (by decide) (call_skip rfl (by decide) (call_skip rfl (by decide) (call_skip rfl (by decide) (call_skip rfl (by decide) (call_skip rfl (by decide) (call_take rfl ?_)))))))
      exact rd_ret' (rd_call (ea_cons ev_var (ea_cons (ev_ixL (j := 0) ev_var ev_c hS rfl) (ea_cons (ev_ixL (j := 1) ev_var ev_c hS rfl) (ea_cons (ev_ixL (j := 2) ev_var ev_c hS rfl) ea_nil)))) ⟨p, st, g, t, u, rfl, hP, ok, q⟩)
    | time t =>
      refine call_skip rfl (by decide) (call_skip rfl (by decide) (call_skip rfl (by decide) (call_skip rfl (by decide) (call_skip rfl (by decide) (call_skip rfl (by decide) (call_skip rfl (by decide) (call_skip rfl (by decide) (call_take rfl ?_))))))))
      exact rd_ret' (rd_call (ea_cons ev_var (ea_cons (ev_ixL (j := 0) ev_var ev_c hS rfl) ea_nil)) ⟨p, st, t, rfl, hP, ok, q⟩)
    | next =>
      refine call_skip rfl (by decide) (call_skip rfl (by decide) (call_skip rfl (by decide) (call_skip rfl (by decide) (call_skip rfl (by decide) (call_skip rfl (by decide) (call_skip rfl (by decide) (call_skip rfl (by decide) (call_skip rfl (by decide) (call_take rfl ?_)))))))))
      exact rd_ret' (rd_call (ea_cons ev_var ea_nil) ⟨p, st, rfl, hP, ok, q⟩)
    | look g =>
      refine call_skip rfl (by decide) (call_skip rfl (by decide) (call_skip rfl (by decide) (call_skip rfl (by decide) (call_skip rfl (by decide) (call_skip rfl (by decide) (call_skip rfl (by decide) (call_skip rfl (by decide) (call_skip rfl (by decide) (call_skip rfl (by decide) (call_take rfl ?_))))))))))
      exact rd_ret' (rd_call (ea_cons ev_var (ea_cons (ev_ixL (j := 0) ev_var ev_c hS rfl) ea_nil)) ⟨p, st, g, rfl, hP, ok, q⟩)
    | of_ g =>
      refine call_skip rfl (by decide) (call_skip rfl (by decide) (call_skip rfl (by decide) (call_skip rfl (by decide) (call_skip rfl (by decide) (call_skip rfl (by decide) (call_skip rfl (by decide) (call_skip rfl (by decide) (call_skip rfl (by decide) (call_skip rfl (by decide) (call_skip rfl (by decide) ?_))))))))))
      exact rd_ret' (rd_call (ea_cons ev_var (ea_cons (ev_ixL (j := 0) ev_var ev_c hS rfl) ea_nil)) ⟨p, st, g, rfl, hP, ok, q⟩)
theorem PlanIn.setL {CG CP : Addr} {H : Hp} {p dx dg dm lt : Addr} {gl : List (Nat × Addr)} {ml : List (Nat × Nat)} {now : Nat} {f : Nat → Option Sq04.Group} {m : Nat → Option Nat} {xs : List V} {o : HO} (h : PlanIn CG CP H p dx dg dm gl ml now f m) (e : H lt = some (.lst xs)) :
    PlanIn CG CP (upd H lt o) p dx dg dm gl ml now f m := ⟨by rw [upd_ne (ne_of h.hp e (by intro z; cases z))]; exact h.hp, by rw [upd_ne (ne_of h.hg e (by intro z; cases z))]; exact h.hg, by rw [upd_ne (ne_of h.hm e (by intro z; cases z))]; exact h.hm, h.ne,
  h.gs.same fun _ _ _ _ ⟨dxu, hu⟩ => ⟨dxu, by rw [upd_ne (ne_of hu e (by intro z; cases z))]; exact hu⟩, h.ms⟩
theorem tab_of {k : Int} {n : Nat} (h : PySq04.shape k = some (n, 0)) : tab_NUMBERS_BEHIND k = some (n : Int) := by
  cases (shape_cases h).2 <;> rfl
theorem drop_cons {α : Type} : ∀ {l : List α} {i : Nat}, i < l.length → ∃ k r, l.drop i = k :: r ∧ l[i]? = some k ∧ r = l.drop (i + 1)
  | [], _, h => by cases h
  | a :: l, 0, _ => ⟨a, l, rfl, rfl, rfl⟩
  | a :: l, i + 1, h => by
    obtain ⟨k, r, h1, h2, h3⟩ := drop_cons (l := l) (i := i) (by simpa using h)
    exact ⟨k, r, h1, by simpa using h2, h3⟩
noncomputable def far3 (n : Nat) (σ : L2.St) : Nat := match σ[3]? with
  | some (some (V.int z)) => ((n : Int) - z).toNat
  | _ => 0
noncomputable def sp_answers (K : PySem.W.Frag) : Sp := fun vs H Q _ => ∃ (a : Addr) (ns : List Int), vs = [.ref a] ∧ SqL K H a (ns.map V.int) ∧ PySq04.answers_asked ns = true ∧ ∀ (H' : Hp) (l : Addr), H' l = some (.lst ((PySq04.answers ns).map V.int)) → Q (.ref l) H'
theorem ok_answers (T : Txt K mg A) : FnOk P w K mg base CX0 10 A.f_answers A.d_answers ["calls"] (sp_answers K) := by
  refine T.answers.F.ok sc_answers (fun vs H Q E h => ?_) (fun cdv A' outer s H vs Q E hr h => ?_)
  · obtain ⟨a, ns, rfl, _⟩ := h
    rfl
  · obtain ⟨a, ns, rfl, hS, hask, q⟩ := h
    obtain ⟨all, hcalls, hlen, hone, houts, hans⟩ := asked_of hask
    rw [hans] at q
    refine ⟨_, (pss_cons (ps_set (i := 1) sc_answers.nd rfl (Or.inl rfl) (pe_make0 T.mk_Plan (ok_Plan_init T) (hr.mono (by decide)) rfl T.g_Plan T.Plan_init.b .nil pass0))
      (pss_cons (ps_set (i := 2) sc_answers.nd rfl (Or.inl rfl) (pe_lst pa_nil))
      (pss_cons (ps_set (i := 3) sc_answers.nd rfl (Or.inl rfl) pe_int)
      (pss_cons (ps_while PassesOwn.never (pt_cmpR op_lt (pv 3) (pe_callB call_len_seq (by rfl) T.b_len PySem.boot_len (pa_cons (pv 0) pa_nil)) (nomark _))
        (pss_cons (ps_set (i := 4) sc_answers.nd rfl (Or.inl rfl) (pe_op op_add (pv 3) pe_int))
      (pss_cons (ps_set (i := 5) sc_answers.nd rfl (Or.inl rfl) (pe_op op_add (pv 4) (pe_gdget T.gd_NUMBERS_BEHIND (pe_glob rfl T.g_NUMBERS_BEHIND rfl) (pe_ix ix_list (pv 0) (pv 3) (fun _ _ => rfl)) (fun _ _ => rfl))))
      (pss_cons (ps_set (i := 6) sc_answers.nd rfl (Or.inl rfl) (pe_call (ok_answer_call T) (hr.mono (by decide)) rfl T.answer_call.m T.answer_call.F.kp T.answer_call.b .nil pass0 (pa_cons (pv 1) (pa_cons (pe_ix ix_list (pv 0) (pv 3) (fun _ _ => rfl)) (pa_cons (pe_slice sl_list (pv 0) (po_some (pv 4)) (po_some (pv 5))) pa_nil)))))
      (pss_cons (ps_expr (pe_bm PySem.F.plainAttrs_list PySem.F.slot_list_append PySem.F.type_list_append mt_append (pv 2) (pa_cons (pe_callB call_len_seq (by rfl) T.b_len PySem.boot_len (pa_cons (pv 6) pa_nil)) pa_nil)))
      (pss_cons (ps_expr (pe_bm PySem.F.plainAttrs_list PySem.F.slot_list_extend PySem.F.type_list_extend mt_extend (pv 2) (pa_cons (pv 6) pa_nil)))
      (pss_one (ps_set (i := 3) sc_answers.nd rfl (Or.inl rfl) (pv 5)))))))))
      (pss_one (ps_ret (pv 2))))))), ?_⟩
    refine rd_seq (rd_set' (rd_make ea_nil fun p dp np ndp nep => ⟨p, dp, rfl, upd_same, fun H1 P1 b1 => ⟨rfl, ?_⟩⟩))
    have s1 : Same H H1 := Same.made np ndp b1
    refine rd_seq (rd_set' (rd_lst ea_nil (Nat.zero_le _) fun lt nlt => ?_))
    have s2 : Same H (upd H1 lt (.lst [])) := s1.trans (same_new nlt)
    have flt : H lt = none := s1.free nlt
    refine rd_seq (rd_set ev_c ?_)
    refine rd_seq (while_by (fun σ H' => ∃ (done rest : List NCall) (pos f : Nat) (v4 v5 v6 : Option V), σ = [some (.ref a), some (.ref p), some (.ref lt), some (.int (pos : Int)), v4, v5, v6] ∧ KeepQ H H' ∧ PlanAt A.C_Group A.C_Plan H' p (after Sq04Neutral.start done) ∧ SOk (after Sq04Neutral.start done) ∧
        H' lt = some (.lst (intsV (toldOf done))) ∧ pos ≤ ns.length ∧ PyFlat.calls PySq04.shape f (ns.drop pos) = some rest ∧ all = done ++ rest) (fun σ _ => far3 ns.length σ)
      ⟨[], all, 0, ns.length, none, none, none, rfl, keepQ_same s2, P1.same (same_new nlt), fresh_ok, upd_same, Nat.zero_le _, hcalls, rfl⟩ ?_ ?_)
    · rintro σ H' ⟨done, rest, pos, f, v4, v5, v6, rfl, kq, hP, ok, hlt, hpos, hrest, hall⟩
      have hS' := kq.seq hS
      refine et_t (ev_0 ev_var (ev_len (ea_cons ev_var ea_nil) hS')) _ ?_
      rw [List.length_map]
      by_cases c : pos < ns.length
      · rw [if_pos (show decide ((pos : Int) < (ns.length : Nat)) = true from decide_eq_true (by omega))]
        obtain ⟨k, r, hd, hk, hr'⟩ := drop_cons c
        rw [hd] at hrest
        obtain ⟨n, f', cs', hsh, hn, hcs, hrest'⟩ := calls_cons hrest
        have hnl : pos + 1 + n ≤ ns.length := by
          rw [hr', List.length_drop] at hn
          omega
        have mem : [k :: r.take n] ∈ all := by rw [hall, hcs]; exact List.mem_append.mpr (.inr List.mem_cons_self)
        obtain ⟨cl, ic, hstep⟩ := call_of hsh (by rw [List.length_take]; omega) (hone _ mem)
        have hkV : (ns.map V.int)[pos]? = some (.int k) := by rw [List.getElem?_map, hk]; rfl
        have hlen2 : (toldOf (done ++ [[k :: r.take n]])).length ≤ 1000300 := by
          unfold toldOf
          rw [told_length]
          have e : all = (done ++ [[k :: r.take n]]) ++ cs' := by rw [hall, hcs, List.append_assoc]; rfl
          have o1 := outs_append (done ++ [[k :: r.take n]]) cs' Sq04Neutral.start
          rw [← e] at o1
          have o2 : (done ++ [[k :: r.take n]]).length ≤ all.length := by
            have o3 := congrArg List.length e
            simp only [List.length_append, List.length_cons, List.length_nil] at o3 ⊢
            omega
          omega
        rw [toldOf_snoc, hstep] at hlen2
        dsimp only at hlen2
        refine rd_seq (rd_set (ev_to (ev_0 ev_var ev_c) (show V.int ((pos : Int) + 1) = V.int ((pos + 1 : Nat) : Int) by rw [Int.natCast_add]; rfl)) ?_)
        refine rd_seq (rd_set (ev_to (ev_0 ev_var (ev_gd (ev_ixL (j := pos) ev_var ev_var hS' hkV) (tab_of hsh))) (show V.int (((pos + 1 : Nat) : Int) + (n : Int)) = V.int ((pos + 1 + n : Nat) : Int) by rw [← Int.natCast_add])) ?_)
        refine rd_seq (rd_set' (rd_callN (rd_cons ev_var (rd_cons (ev_ixL (j := pos) ev_var ev_var hS' hkV) (rd_cons' (rd_slice ev_var ev_var ev_var hS' fun ln nln => ?_))))))
        rw [cut_at (by omega) (by rw [List.length_map]; exact hnl), ← List.map_drop, show pos + 1 + n - (pos + 1) = n by omega, ← List.map_take, ← hr']
        have s3 := same_new (o := .lst ((r.take n).map V.int)) nln
        refine ⟨p, ln, _, k, r.take n, cl, rfl, upd_same, hP.same s3, ok, ic, fun H2 l h2 P2 k2 n2 => ?_⟩
        have k3 := (keepQ_same s3).trans k2
        have hlt2 := k3.lst hlt
        have nl : l ≠ lt := fun z => by
          rw [z, s3 _ _ hlt] at n2
          cases n2
        refine rd_seq (rd_drop (rd_app ev_var hlt2 (ea_cons (ev_len (ea_cons ev_var ea_nil) (SqL.of h2)) ea_nil) ?_ ?_))
        · rw [intsV_len, sizeLine_eq]
          rw [List.length_append, List.length_cons] at hlen2
          omega
        refine rd_seq (rd_drop (rd_extE ev_var ev_var upd_same (by rw [upd_ne nl]; exact h2) ?_ ?_))
        · rw [List.length_append, intsV_len, intsV_len, sizeLine_eq]
          rw [List.length_append, List.length_cons] at hlen2
          simp only [List.length_cons, List.length_nil]
          omega
        refine rd_set ev_var ⟨⟨done ++ [[k :: r.take n]], cs', pos + 1 + n, f', _, _, _, rfl, ?_, ?_, ?_, ?_, hnl, ?_, ?_⟩, ?_⟩
        · refine ⟨fun b o e y z => ?_, fun b o e => ?_⟩
          · rw [upd_ne (ne_of_none e flt), upd_ne (ne_of_none e flt)]
            exact (kq.trans k3).k b o e y z
          · rw [upd_ne (ne_of_none e flt), upd_ne (ne_of_none e flt)]
            exact (kq.trans k3).t b o e
        · rw [after_snoc, hstep]
          obtain ⟨dx, dg, dm, gl, ml, h5⟩ := P2
          exact ⟨dx, dg, dm, gl, ml, (h5.setL hlt2).setL upd_same⟩
        · rw [after_snoc, hstep]
          exact step_ok ok cl
        · rw [upd_same, toldOf_snoc, hstep, intsV_append, intsV_len]
          unfold intsV
          rw [List.append_assoc]
          rfl
        · rw [hr', List.drop_drop] at hrest'
          exact hrest'
        · rw [hall, hcs, List.append_assoc]
          rfl
        · show ((ns.length : Int) - ((pos + 1 + n : Nat) : Int)).toNat < ((ns.length : Int) - (pos : Int)).toNat
          omega
      · rw [if_neg (show ¬ decide ((pos : Int) < (ns.length : Nat)) = true from fun z => c (by have := of_decide_eq_true z; omega))]
        rw [List.drop_eq_nil_of_le (by omega)] at hrest
        have e := calls_nil hrest
        subst e
        rw [List.append_nil] at hall
        subst hall
        exact rd_ret ev_var (q H' lt hlt)
    · intro σ H Q Q' m h
      obtain ⟨v, e, v0, e0, p1, ys, r0, sq, i, j, r1, r2, k, r3, q1⟩ := h
      exact ⟨v, e, v0, e0, p1, ys, r0, sq, i, j, r1, r2, k, r3, m _ _ q1⟩
end
end RP
set_option Elab.async false
set_option linter.all false
set_option maxRecDepth 100000
set_option maxHeartbeats 4000000
namespace RP
open PySem PySem.Spec PyProof.Rows L2 RT
section
variable {K : PySem.W.Frag} {h : Heap} {mg : Str → Option Value} {C f : Addr} {oc : Value} {od an : Option Addr} {osl : Array (Option Value)} {kV doc pm cdv ct : Value} {st : Stmt} {ps : List Str} {x qual : Str}
theorem fnT_mk (X : K.In h) (G : h.Ns mainGlobals mg) (a : PySem.W.nsIn K mainGlobals x = some (some (.ref f))) (l : K.lookup f = some ⟨oc, od, .func (PySem.W.fnOf x x (defArgs st) (defBody st) (defScope st) .none kV doc pm an cdv ct), osl⟩)
    (c : PySem.W.codeIn K cdv x = true) (k : PySem.W.keepIn K (.ref f) = true)
    (hb : ∀ (kV doc pm : Value) (an : Option Addr) (cdv ct : Value) (us : List Value), us.length = ps.length → bindArgs (PySem.W.fnOf x x (defArgs st) (defBody st) (defScope st) .none kV doc pm an cdv ct) ⟨us, []⟩ = pure (ps.zip us)) :
    FnT K mg x st ps f (PySem.W.fnOf x x (defArgs st) (defBody st) (defScope st) .none kV doc pm an cdv ct) := ⟨fun_mk l c k, (fun_mk l c k).binds hb, PySem.W.mg_of X G a⟩
theorem mtT_mk (a : PySem.W.findIn K (.ref C) x = some (some (.ref f))) (i : PySem.W.isFn K (.ref f) = true) (l : K.lookup f = some ⟨oc, od, .func (PySem.W.fnOf x qual (defArgs st) (defBody st) (defScope st) .none kV doc pm an cdv ct), osl⟩)
    (c : PySem.W.codeIn K cdv qual = true) (k : PySem.W.keepIn K (.ref f) = true)
    (hb : ∀ (kV doc pm : Value) (an : Option Addr) (cdv ct : Value) (us : List Value), us.length = ps.length → bindArgs (PySem.W.fnOf x qual (defArgs st) (defBody st) (defScope st) .none kV doc pm an cdv ct) ⟨us, []⟩ = pure (ps.zip us)) :
    MtT K C x qual st ps f (PySem.W.fnOf x qual (defArgs st) (defBody st) (defScope st) .none kV doc pm an cdv ct) := ⟨fun_mk l c k, (fun_mk l c k).binds hb, ⟨a, i, k⟩⟩
theorem inT_mk (l : K.lookup f = some ⟨oc, od, .func (PySem.W.fnOf "__init__" qual (defArgs st) (defBody st) (defScope st) .none kV doc pm an cdv ct), osl⟩)
    (c : PySem.W.codeIn K cdv qual = true) (k : PySem.W.keepIn K (.ref f) = true)
    (hb : ∀ (kV doc pm : Value) (an : Option Addr) (cdv ct : Value) (us : List Value), us.length = ps.length → bindArgs (PySem.W.fnOf "__init__" qual (defArgs st) (defBody st) (defScope st) .none kV doc pm an cdv ct) ⟨us, []⟩ = pure (ps.zip us)) :
    InT K qual st ps f (PySem.W.fnOf "__init__" qual (defArgs st) (defBody st) (defScope st) .none kV doc pm an cdv ct) := ⟨fun_mk l c k, (fun_mk l c k).binds hb⟩
end
theorem all0 {Pr : List Value → Prop} (h : Pr []) (us : List Value) (hl : us.length = 0) : Pr us := by
  rw [List.eq_nil_of_length_eq_zero hl]
  exact h
theorem allS {n : Nat} {Pr : List Value → Prop} (h : ∀ a us, us.length = n → Pr (a :: us)) (us : List Value) (hl : us.length = n + 1) : Pr us := by
  obtain ⟨a, r, e, hr⟩ := len_cons hl
  rw [e]
  exact h a r hr
theorem kc_mk {K : PySem.W.Frag} {h : Heap} {mg : Str → Option Value} {x : Str} {i : Int} {t : Tok} (X : K.In h) (G : h.Ns mainGlobals mg) (e : PySem.W.nsIn K mainGlobals x = some (some (.int i t))) : ∃ t, mg x = some (.int i t) := ⟨t, PySem.W.mg_of X G e⟩
theorem yd_mk {K : PySem.W.Frag} {h : Heap} {mg : Str → Option Value} {x : Str} {d : Addr} {f : Int → Option Int} (X : K.In h) (G : h.Ns mainGlobals mg) (e : PySem.W.nsIn K mainGlobals x = some (some (.ref d))) (g : GD K d f) : ∃ d, mg x = some (.ref d) ∧ GD K d f := ⟨d, PySem.W.mg_of X G e, g⟩
theorem na_mk {K : PySem.W.Frag} {C : Addr} {f : Str} (e : PySem.W.findIn K (.ref C) f = some none) : NoAttr K C f := e
theorem gd_mk {K : PySem.W.Frag} {d : Addr} {f : Int → Option Int} {es : Array DictEntry} {n : Nat} (l : K.lookup d = some ⟨.type "dict", none, .dict es n, #[]⟩)
    (ks : (es.toList.all fun e => match e.key with
      | .int k _ => e.hash == hashInt k
      | _ => false) = true)
    (fs : ∀ i v, f i = some v → ∃ t, findBy Value.isInt es i = some (.int v t)) : GD K d f := by
  refine ⟨es, n, l, fun e he => ?_, fs⟩
  have q := List.all_eq_true.mp ks e he
  cases hk : e.key with
  | int k t =>
    rw [hk] at q
    exact ⟨k, t, rfl, eq_of_beq q⟩
  | _ => rw [hk] at q; cases q
theorem lookup_mem : ∀ {L : List (Int × Int)} {i v : Int}, L.lookup i = some v → (i, v) ∈ L
  | [], _, _, h => by cases h
  | (a, b) :: L, i, v, h => by
    rw [List.lookup_cons] at h
    by_cases c : i = a
    · subst c
      rw [beq_self_eq_true] at h
      have e : b = v := Option.some.inj h
      rw [e]
      exact List.mem_cons_self
    · rw [beq_eq_false_iff_ne.mpr c] at h
      exact List.mem_cons_of_mem _ (lookup_mem h)
theorem tab_shown {L : List (Int × Int)} {es : Array DictEntry} (h : (L.all fun x => match findBy Value.isInt es x.1 with
      | some (.int u _) => u == x.2
      | _ => false) = true) : ∀ i v, L.lookup i = some v → ∃ t, findBy Value.isInt es i = some (.int v t) := fun i v e => by
  have q := List.all_eq_true.mp h _ (lookup_mem e)
  dsimp only at q
  split at q
  · rename_i u t hf
    rw [hf, eq_of_beq q]
    exact ⟨t, rfl⟩
  · cases q
structure ClGroup (K : PySem.W.Frag) (mg : Str → Option Value) (C f_Group_init f_Group_start_behind f_Group_turn_on f_Group_turn_off f_Group_take_missed f_Group_take_wanted : Addr) (d_Group_init d_Group_start_behind d_Group_turn_on d_Group_turn_off d_Group_take_missed d_Group_take_wanted : FuncData) : Prop where
  c : Cls K C
  g : mg "Group" = some (.ref C)
  mk_ : Mk K C f_Group_init
  n_period : NoAttr K C "period"
  n_quick : NoAttr K C "quick"
  n_phase : NoAttr K C "phase"
  n_burst : NoAttr K C "burst"
  n_gap : NoAttr K C "gap"
  n_slack : NoAttr K C "slack"
  n_wanted_in_all : NoAttr K C "wanted_in_all"
  n_missed_in_all : NoAttr K C "missed_in_all"
  n_active : NoAttr K C "active"
  n_since : NoAttr K C "since"
  n_till : NoAttr K C "till"
  Group_init : InT K "Group.__init__" s_Group_init ["self", "period", "quick", "phase", "burst", "gap", "slack", "now"] f_Group_init d_Group_init
  Group_start_behind : MtT K C "start_behind" "Group.start_behind" s_Group_start_behind ["self", "now"] f_Group_start_behind d_Group_start_behind
  Group_turn_on : MtT K C "turn_on" "Group.turn_on" s_Group_turn_on ["self", "now"] f_Group_turn_on d_Group_turn_on
  Group_turn_off : MtT K C "turn_off" "Group.turn_off" s_Group_turn_off ["self"] f_Group_turn_off d_Group_turn_off
  Group_take_missed : MtT K C "take_missed" "Group.take_missed" s_Group_take_missed ["self", "now"] f_Group_take_missed d_Group_take_missed
  Group_take_wanted : MtT K C "take_wanted" "Group.take_wanted" s_Group_take_wanted ["self", "now"] f_Group_take_wanted d_Group_take_wanted
structure ClPlan (K : PySem.W.Frag) (mg : Str → Option Value) (C f_Plan_init f_Plan_reset f_Plan_channels_of f_Plan_free_channel f_Plan_groups_on f_Plan_go_on f_Plan_tell : Addr) (d_Plan_init d_Plan_reset d_Plan_channels_of d_Plan_free_channel d_Plan_groups_on d_Plan_go_on d_Plan_tell : FuncData) : Prop where
  c : Cls K C
  g : mg "Plan" = some (.ref C)
  mk_ : Mk K C f_Plan_init
  n_now : NoAttr K C "now"
  n_groups : NoAttr K C "groups"
  n_owners : NoAttr K C "owners"
  n_since : NoAttr K C "since"
  Plan_init : InT K "Plan.__init__" s_Plan_init ["self"] f_Plan_init d_Plan_init
  Plan_reset : MtT K C "reset" "Plan.reset" s_Plan_reset ["self"] f_Plan_reset d_Plan_reset
  Plan_channels_of : MtT K C "channels_of" "Plan.channels_of" s_Plan_channels_of ["self", "number"] f_Plan_channels_of d_Plan_channels_of
  Plan_free_channel : MtT K C "free_channel" "Plan.free_channel" s_Plan_free_channel ["self", "channel"] f_Plan_free_channel d_Plan_free_channel
  Plan_groups_on : MtT K C "groups_on" "Plan.groups_on" s_Plan_groups_on ["self"] f_Plan_groups_on d_Plan_groups_on
  Plan_go_on : MtT K C "go_on" "Plan.go_on" s_Plan_go_on ["self", "now"] f_Plan_go_on d_Plan_go_on
  Plan_tell : MtT K C "tell" "Plan.tell" s_Plan_tell ["self", "late", "wanted"] f_Plan_tell d_Plan_tell
end RP
open PySem PySem.W PyProof.Rows
set_option maxRecDepth 100000 in
set_option maxHeartbeats 0 in
theorem PySem.Challenge.cw_readtimes_s01_answers_holds : PySem.Challenge.rw_readtimes_s01_answers.Holds := by
  w_on; k_headS; (case hw => exact ⟨[.list [.int 10]], by decide +kernel, by decide +kernel⟩)
  k_fillS
  refine L2.walk_specK (r := PySem.Challenge.rw_readtimes_s01_answers) (k := 10) (CX := L2.CX0) (ps := ["calls"]) (sp := RP.sp_answers) (by decide +kernel) rfl rfl ⟨rfl, by decide, by decide⟩ (fun w h Y => PySem.W.kIn_of Y) ?F ?S (fun _ _ _ _ z => z)
  case F =>
    intro w mg fa h Y KX G hmg
    have cGroup : ∃ C f0 f1 f2 f3 f4 f5 d0 d1 d2 d3 d4 d5, RP.ClGroup (L2.KOf KX) mg C f0 f1 f2 f3 f4 f5 d0 d1 d2 d3 d4 d5 := by
      dsimp only [L2.KOf]
      refine' ⟨_, _, _, _, _, _, _, _, _, _, _, _, _, ⟨⟨?pg, ?hd, ?po, ?sa⟩, PySem.W.mg_of KX G ?aC, ⟨?mk, ?a0, ?i0, ?kc⟩, RP.na_mk ?n_period, RP.na_mk ?n_quick, RP.na_mk ?n_phase, RP.na_mk ?n_burst, RP.na_mk ?n_gap, RP.na_mk ?n_slack, RP.na_mk ?n_wanted_in_all, RP.na_mk ?n_missed_in_all, RP.na_mk ?n_active, RP.na_mk ?n_since, RP.na_mk ?n_till, RP.inT_mk ?l0 ?c0 ?k0 (fun _ _ _ _ _ _ => RP.allS fun _ => RP.allS fun _ => RP.allS fun _ => RP.allS fun _ => RP.allS fun _ => RP.allS fun _ => RP.allS fun _ => RP.allS fun _ => RP.all0 rfl), RP.mtT_mk ?a1 ?i1 ?l1 ?c1 ?k1 (fun _ _ _ _ _ _ => RP.allS fun _ => RP.allS fun _ => RP.all0 rfl), RP.mtT_mk ?a2 ?i2 ?l2 ?c2 ?k2 (fun _ _ _ _ _ _ => RP.allS fun _ => RP.allS fun _ => RP.all0 rfl), RP.mtT_mk ?a3 ?i3 ?l3 ?c3 ?k3 (fun _ _ _ _ _ _ => RP.allS fun _ => RP.all0 rfl), RP.mtT_mk ?a4 ?i4 ?l4 ?c4 ?k4 (fun _ _ _ _ _ _ => RP.allS fun _ => RP.allS fun _ => RP.all0 rfl), RP.mtT_mk ?a5 ?i5 ?l5 ?c5 ?k5 (fun _ _ _ _ _ _ => RP.allS fun _ => RP.allS fun _ => RP.all0 rfl)⟩⟩
      (case aC => k_is); (case pg => k_is); (case hd => k_is); (case po => k_is); (case sa => k_is); (case mk => k_is); (case kc => k_is); (case a0 => k_is); (case i0 => k_is); (case l0 => k_is); (case c0 => k_is); (case k0 => k_is); (case a1 => k_is); (case i1 => k_is); (case l1 => k_is); (case c1 => k_is); (case k1 => k_is); (case a2 => k_is); (case i2 => k_is); (case l2 => k_is); (case c2 => k_is); (case k2 => k_is); (case a3 => k_is); (case i3 => k_is); (case l3 => k_is); (case c3 => k_is); (case k3 => k_is); (case a4 => k_is); (case i4 => k_is); (case l4 => k_is); (case c4 => k_is); (case k4 => k_is); (case a5 => k_is); (case i5 => k_is); (case l5 => k_is); (case c5 => k_is); (case k5 => k_is); (case n_period => k_is); (case n_quick => k_is); (case n_phase => k_is); (case n_burst => k_is); (case n_gap => k_is); (case n_slack => k_is); (case n_wanted_in_all => k_is); (case n_missed_in_all => k_is); (case n_active => k_is); (case n_since => k_is); (case n_till => k_is)
    have cPlan : ∃ C f0 f1 f2 f3 f4 f5 f6 d0 d1 d2 d3 d4 d5 d6, RP.ClPlan (L2.KOf KX) mg C f0 f1 f2 f3 f4 f5 f6 d0 d1 d2 d3 d4 d5 d6 := by
      dsimp only [L2.KOf]
      refine' ⟨_, _, _, _, _, _, _, _, _, _, _, _, _, _, _, ⟨⟨?pg, ?hd, ?po, ?sa⟩, PySem.W.mg_of KX G ?aC, ⟨?mk, ?a0, ?i0, ?kc⟩, RP.na_mk ?n_now, RP.na_mk ?n_groups, RP.na_mk ?n_owners, RP.na_mk ?n_since, RP.inT_mk ?l0 ?c0 ?k0 (fun _ _ _ _ _ _ => RP.allS fun _ => RP.all0 rfl), RP.mtT_mk ?a1 ?i1 ?l1 ?c1 ?k1 (fun _ _ _ _ _ _ => RP.allS fun _ => RP.all0 rfl), RP.mtT_mk ?a2 ?i2 ?l2 ?c2 ?k2 (fun _ _ _ _ _ _ => RP.allS fun _ => RP.allS fun _ => RP.all0 rfl), RP.mtT_mk ?a3 ?i3 ?l3 ?c3 ?k3 (fun _ _ _ _ _ _ => RP.allS fun _ => RP.allS fun _ => RP.all0 rfl), RP.mtT_mk ?a4 ?i4 ?l4 ?c4 ?k4 (fun _ _ _ _ _ _ => RP.allS fun _ => RP.all0 rfl), RP.mtT_mk ?a5 ?i5 ?l5 ?c5 ?k5 (fun _ _ _ _ _ _ => RP.allS fun _ => RP.allS fun _ => RP.all0 rfl), RP.mtT_mk ?a6 ?i6 ?l6 ?c6 ?k6 (fun _ _ _ _ _ _ => RP.allS fun _ => RP.allS fun _ => RP.allS fun _ => RP.all0 rfl)⟩⟩
      (case aC => k_is); (case pg => k_is); (case hd => k_is); (case po => k_is); (case sa => k_is); (case mk => k_is); (case kc => k_is); (case a0 => k_is); (case i0 => k_is); (case l0 => k_is); (case c0 => k_is); (case k0 => k_is); (case a1 => k_is); (case i1 => k_is); (case l1 => k_is); (case c1 => k_is); (case k1 => k_is); (case a2 => k_is); (case i2 => k_is); (case l2 => k_is); (case c2 => k_is); (case k2 => k_is); (case a3 => k_is); (case i3 => k_is); (case l3 => k_is); (case c3 => k_is); (case k3 => k_is); (case a4 => k_is); (case i4 => k_is); (case l4 => k_is); (case c4 => k_is); (case k4 => k_is); (case a5 => k_is); (case i5 => k_is); (case l5 => k_is); (case c5 => k_is); (case k5 => k_is); (case a6 => k_is); (case i6 => k_is); (case l6 => k_is); (case c6 => k_is); (case k6 => k_is); (case n_now => k_is); (case n_groups => k_is); (case n_owners => k_is); (case n_since => k_is)
    have t_count_readings : ∃ f fd, RP.FnT (L2.KOf KX) mg "count_readings" RP.s_count_readings ["group", "first", "last"] f fd := by
      dsimp only [L2.KOf]
      refine' ⟨_, _, RP.fnT_mk KX G ?a ?l ?c ?k (fun _ _ _ _ _ _ => RP.allS fun _ => RP.allS fun _ => RP.allS fun _ => RP.all0 rfl)⟩
      (case a => k_is); (case l => k_is); (case c => k_is); (case k => k_is)
    have t_count_with_period : ∃ f fd, RP.FnT (L2.KOf KX) mg "count_with_period" RP.s_count_with_period ["group", "period", "first", "last"] f fd := by
      dsimp only [L2.KOf]
      refine' ⟨_, _, RP.fnT_mk KX G ?a ?l ?c ?k (fun _ _ _ _ _ _ => RP.allS fun _ => RP.allS fun _ => RP.allS fun _ => RP.allS fun _ => RP.all0 rfl)⟩
      (case a => k_is); (case l => k_is); (case c => k_is); (case k => k_is)
    have t_count_up_to : ∃ f fd, RP.FnT (L2.KOf KX) mg "count_up_to" RP.s_count_up_to ["group", "period", "last"] f fd := by
      dsimp only [L2.KOf]
      refine' ⟨_, _, RP.fnT_mk KX G ?a ?l ?c ?k (fun _ _ _ _ _ _ => RP.allS fun _ => RP.allS fun _ => RP.allS fun _ => RP.all0 rfl)⟩
      (case a => k_is); (case l => k_is); (case c => k_is); (case k => k_is)
    have t_reading_times : ∃ f fd, RP.FnT (L2.KOf KX) mg "reading_times" RP.s_reading_times ["group", "first", "last"] f fd := by
      dsimp only [L2.KOf]
      refine' ⟨_, _, RP.fnT_mk KX G ?a ?l ?c ?k (fun _ _ _ _ _ _ => RP.allS fun _ => RP.allS fun _ => RP.allS fun _ => RP.all0 rfl)⟩
      (case a => k_is); (case l => k_is); (case c => k_is); (case k => k_is)
    have t_times_with_period : ∃ f fd, RP.FnT (L2.KOf KX) mg "times_with_period" RP.s_times_with_period ["group", "period", "first", "last"] f fd := by
      dsimp only [L2.KOf]
      refine' ⟨_, _, RP.fnT_mk KX G ?a ?l ?c ?k (fun _ _ _ _ _ _ => RP.allS fun _ => RP.allS fun _ => RP.allS fun _ => RP.allS fun _ => RP.all0 rfl)⟩
      (case a => k_is); (case l => k_is); (case c => k_is); (case k => k_is)
    have t_next_reading : ∃ f fd, RP.FnT (L2.KOf KX) mg "next_reading" RP.s_next_reading ["group"] f fd := by
      dsimp only [L2.KOf]
      refine' ⟨_, _, RP.fnT_mk KX G ?a ?l ?c ?k (fun _ _ _ _ _ _ => RP.allS fun _ => RP.all0 rfl)⟩
      (case a => k_is); (case l => k_is); (case c => k_is); (case k => k_is)
    have t_first_with_period : ∃ f fd, RP.FnT (L2.KOf KX) mg "first_with_period" RP.s_first_with_period ["group", "period", "first"] f fd := by
      dsimp only [L2.KOf]
      refine' ⟨_, _, RP.fnT_mk KX G ?a ?l ?c ?k (fun _ _ _ _ _ _ => RP.allS fun _ => RP.allS fun _ => RP.allS fun _ => RP.all0 rfl)⟩
      (case a => k_is); (case l => k_is); (case c => k_is); (case k => k_is)
    have t_first_of_place : ∃ f fd, RP.FnT (L2.KOf KX) mg "first_of_place" RP.s_first_of_place ["group", "period", "place", "first"] f fd := by
      dsimp only [L2.KOf]
      refine' ⟨_, _, RP.fnT_mk KX G ?a ?l ?c ?k (fun _ _ _ _ _ _ => RP.allS fun _ => RP.allS fun _ => RP.allS fun _ => RP.allS fun _ => RP.all0 rfl)⟩
      (case a => k_is); (case l => k_is); (case c => k_is); (case k => k_is)
    have t_burst_place : ∃ f fd, RP.FnT (L2.KOf KX) mg "burst_place" RP.s_burst_place ["group", "place"] f fd := by
      dsimp only [L2.KOf]
      refine' ⟨_, _, RP.fnT_mk KX G ?a ?l ?c ?k (fun _ _ _ _ _ _ => RP.allS fun _ => RP.allS fun _ => RP.all0 rfl)⟩
      (case a => k_is); (case l => k_is); (case c => k_is); (case k => k_is)
    have t_is_group : ∃ f fd, RP.FnT (L2.KOf KX) mg "is_group" RP.s_is_group ["number"] f fd := by
      dsimp only [L2.KOf]
      refine' ⟨_, _, RP.fnT_mk KX G ?a ?l ?c ?k (fun _ _ _ _ _ _ => RP.allS fun _ => RP.all0 rfl)⟩
      (case a => k_is); (case l => k_is); (case c => k_is); (case k => k_is)
    have t_is_channel : ∃ f fd, RP.FnT (L2.KOf KX) mg "is_channel" RP.s_is_channel ["number"] f fd := by
      dsimp only [L2.KOf]
      refine' ⟨_, _, RP.fnT_mk KX G ?a ?l ?c ?k (fun _ _ _ _ _ _ => RP.allS fun _ => RP.all0 rfl)⟩
      (case a => k_is); (case l => k_is); (case c => k_is); (case k => k_is)
    have t_is_time : ∃ f fd, RP.FnT (L2.KOf KX) mg "is_time" RP.s_is_time ["number"] f fd := by
      dsimp only [L2.KOf]
      refine' ⟨_, _, RP.fnT_mk KX G ?a ?l ?c ?k (fun _ _ _ _ _ _ => RP.allS fun _ => RP.all0 rfl)⟩
      (case a => k_is); (case l => k_is); (case c => k_is); (case k => k_is)
    have t_is_gap : ∃ f fd, RP.FnT (L2.KOf KX) mg "is_gap" RP.s_is_gap ["gap", "burst", "quick"] f fd := by
      dsimp only [L2.KOf]
      refine' ⟨_, _, RP.fnT_mk KX G ?a ?l ?c ?k (fun _ _ _ _ _ _ => RP.allS fun _ => RP.allS fun _ => RP.allS fun _ => RP.all0 rfl)⟩
      (case a => k_is); (case l => k_is); (case c => k_is); (case k => k_is)
    have t_are_settings : ∃ f fd, RP.FnT (L2.KOf KX) mg "are_settings" RP.s_are_settings ["period", "quick", "phase", "burst", "gap", "slack"] f fd := by
      dsimp only [L2.KOf]
      refine' ⟨_, _, RP.fnT_mk KX G ?a ?l ?c ?k (fun _ _ _ _ _ _ => RP.allS fun _ => RP.allS fun _ => RP.allS fun _ => RP.allS fun _ => RP.allS fun _ => RP.allS fun _ => RP.all0 rfl)⟩
      (case a => k_is); (case l => k_is); (case c => k_is); (case k => k_is)
    have t_refuse_time : ∃ f fd, RP.FnT (L2.KOf KX) mg "refuse_time" RP.s_refuse_time ["plan", "now"] f fd := by
      dsimp only [L2.KOf]
      refine' ⟨_, _, RP.fnT_mk KX G ?a ?l ?c ?k (fun _ _ _ _ _ _ => RP.allS fun _ => RP.allS fun _ => RP.all0 rfl)⟩
      (case a => k_is); (case l => k_is); (case c => k_is); (case k => k_is)
    have t_refuse_group : ∃ f fd, RP.FnT (L2.KOf KX) mg "refuse_group" RP.s_refuse_group ["plan", "number", "now"] f fd := by
      dsimp only [L2.KOf]
      refine' ⟨_, _, RP.fnT_mk KX G ?a ?l ?c ?k (fun _ _ _ _ _ _ => RP.allS fun _ => RP.allS fun _ => RP.allS fun _ => RP.all0 rfl)⟩
      (case a => k_is); (case l => k_is); (case c => k_is); (case k => k_is)
    have t_begin : ∃ f fd, RP.FnT (L2.KOf KX) mg "begin" RP.s_begin ["plan"] f fd := by
      dsimp only [L2.KOf]
      refine' ⟨_, _, RP.fnT_mk KX G ?a ?l ?c ?k (fun _ _ _ _ _ _ => RP.allS fun _ => RP.all0 rfl)⟩
      (case a => k_is); (case l => k_is); (case c => k_is); (case k => k_is)
    have t_set_group : ∃ f fd, RP.FnT (L2.KOf KX) mg "set_group" RP.s_set_group ["plan", "number", "period", "quick", "phase", "burst", "gap", "slack", "now"] f fd := by
      dsimp only [L2.KOf]
      refine' ⟨_, _, RP.fnT_mk KX G ?a ?l ?c ?k (fun _ _ _ _ _ _ => RP.allS fun _ => RP.allS fun _ => RP.allS fun _ => RP.allS fun _ => RP.allS fun _ => RP.allS fun _ => RP.allS fun _ => RP.allS fun _ => RP.allS fun _ => RP.all0 rfl)⟩
      (case a => k_is); (case l => k_is); (case c => k_is); (case k => k_is)
    have t_send_away : ∃ f fd, RP.FnT (L2.KOf KX) mg "send_away" RP.s_send_away ["plan", "number", "now"] f fd := by
      dsimp only [L2.KOf]
      refine' ⟨_, _, RP.fnT_mk KX G ?a ?l ?c ?k (fun _ _ _ _ _ _ => RP.allS fun _ => RP.allS fun _ => RP.allS fun _ => RP.all0 rfl)⟩
      (case a => k_is); (case l => k_is); (case c => k_is); (case k => k_is)
    have t_make_member : ∃ f fd, RP.FnT (L2.KOf KX) mg "make_member" RP.s_make_member ["plan", "channel", "number", "now"] f fd := by
      dsimp only [L2.KOf]
      refine' ⟨_, _, RP.fnT_mk KX G ?a ?l ?c ?k (fun _ _ _ _ _ _ => RP.allS fun _ => RP.allS fun _ => RP.allS fun _ => RP.allS fun _ => RP.all0 rfl)⟩
      (case a => k_is); (case l => k_is); (case c => k_is); (case k => k_is)
    have t_make_alone : ∃ f fd, RP.FnT (L2.KOf KX) mg "make_alone" RP.s_make_alone ["plan", "channel", "now"] f fd := by
      dsimp only [L2.KOf]
      refine' ⟨_, _, RP.fnT_mk KX G ?a ?l ?c ?k (fun _ _ _ _ _ _ => RP.allS fun _ => RP.allS fun _ => RP.allS fun _ => RP.all0 rfl)⟩
      (case a => k_is); (case l => k_is); (case c => k_is); (case k => k_is)
    have t_switch_on : ∃ f fd, RP.FnT (L2.KOf KX) mg "switch_on" RP.s_switch_on ["plan", "number", "now"] f fd := by
      dsimp only [L2.KOf]
      refine' ⟨_, _, RP.fnT_mk KX G ?a ?l ?c ?k (fun _ _ _ _ _ _ => RP.allS fun _ => RP.allS fun _ => RP.allS fun _ => RP.all0 rfl)⟩
      (case a => k_is); (case l => k_is); (case c => k_is); (case k => k_is)
    have t_switch_off : ∃ f fd, RP.FnT (L2.KOf KX) mg "switch_off" RP.s_switch_off ["plan", "number", "now"] f fd := by
      dsimp only [L2.KOf]
      refine' ⟨_, _, RP.fnT_mk KX G ?a ?l ?c ?k (fun _ _ _ _ _ _ => RP.allS fun _ => RP.allS fun _ => RP.allS fun _ => RP.all0 rfl)⟩
      (case a => k_is); (case l => k_is); (case c => k_is); (case k => k_is)
    have t_make_quick : ∃ f fd, RP.FnT (L2.KOf KX) mg "make_quick" RP.s_make_quick ["plan", "number", "now", "till"] f fd := by
      dsimp only [L2.KOf]
      refine' ⟨_, _, RP.fnT_mk KX G ?a ?l ?c ?k (fun _ _ _ _ _ _ => RP.allS fun _ => RP.allS fun _ => RP.allS fun _ => RP.allS fun _ => RP.all0 rfl)⟩
      (case a => k_is); (case l => k_is); (case c => k_is); (case k => k_is)
    have t_pass_time : ∃ f fd, RP.FnT (L2.KOf KX) mg "pass_time" RP.s_pass_time ["plan", "now"] f fd := by
      dsimp only [L2.KOf]
      refine' ⟨_, _, RP.fnT_mk KX G ?a ?l ?c ?k (fun _ _ _ _ _ _ => RP.allS fun _ => RP.allS fun _ => RP.all0 rfl)⟩
      (case a => k_is); (case l => k_is); (case c => k_is); (case k => k_is)
    have t_tell_next : ∃ f fd, RP.FnT (L2.KOf KX) mg "tell_next" RP.s_tell_next ["plan"] f fd := by
      dsimp only [L2.KOf]
      refine' ⟨_, _, RP.fnT_mk KX G ?a ?l ?c ?k (fun _ _ _ _ _ _ => RP.allS fun _ => RP.all0 rfl)⟩
      (case a => k_is); (case l => k_is); (case c => k_is); (case k => k_is)
    have t_look_at : ∃ f fd, RP.FnT (L2.KOf KX) mg "look_at" RP.s_look_at ["plan", "number"] f fd := by
      dsimp only [L2.KOf]
      refine' ⟨_, _, RP.fnT_mk KX G ?a ?l ?c ?k (fun _ _ _ _ _ _ => RP.allS fun _ => RP.allS fun _ => RP.all0 rfl)⟩
      (case a => k_is); (case l => k_is); (case c => k_is); (case k => k_is)
    have t_tell_channels : ∃ f fd, RP.FnT (L2.KOf KX) mg "tell_channels" RP.s_tell_channels ["plan", "number"] f fd := by
      dsimp only [L2.KOf]
      refine' ⟨_, _, RP.fnT_mk KX G ?a ?l ?c ?k (fun _ _ _ _ _ _ => RP.allS fun _ => RP.allS fun _ => RP.all0 rfl)⟩
      (case a => k_is); (case l => k_is); (case c => k_is); (case k => k_is)
    have t_answers : ∃ f fd, RP.FnT (L2.KOf KX) mg "answers" RP.s_answers ["calls"] f fd ∧ ∀ (s : Shared) (us : List Value), us.length = (["calls"] : List Str).length → BindsTo s fd ⟨us, []⟩ ((["calls"] : List Str).zip us) := by
      dsimp only [L2.KOf]
      refine' ⟨_, _, RP.fnT_mk KX G ?a ?l ?c ?k (fun _ _ _ _ _ _ => RP.allS fun _ => RP.all0 rfl), ?b⟩
      (case a => k_is); (case l => k_is); (case c => k_is); (case k => k_is)
      case b => exact fun s => RP.allS fun _ => RP.all0 (.of_eq rfl)
    have t_answer_call : ∃ f fd, RP.FnT (L2.KOf KX) mg "answer_call" RP.s_answer_call ["plan", "call", "numbers"] f fd := by
      dsimp only [L2.KOf]
      refine' ⟨_, _, RP.fnT_mk KX G ?a ?l ?c ?k (fun _ _ _ _ _ _ => RP.allS fun _ => RP.allS fun _ => RP.allS fun _ => RP.all0 rfl)⟩
      (case a => k_is); (case l => k_is); (case c => k_is); (case k => k_is)
    have t_answer_group : ∃ f fd, RP.FnT (L2.KOf KX) mg "answer_group" RP.s_answer_group ["plan", "numbers"] f fd := by
      dsimp only [L2.KOf]
      refine' ⟨_, _, RP.fnT_mk KX G ?a ?l ?c ?k (fun _ _ _ _ _ _ => RP.allS fun _ => RP.allS fun _ => RP.all0 rfl)⟩
      (case a => k_is); (case l => k_is); (case c => k_is); (case k => k_is)
    have z_LAST_GROUP : ∃ t, mg "LAST_GROUP" = some (.int (15) t) := by
      refine' RP.kc_mk KX G ?a; (case a => k_is)
    have z_LAST_CHANNEL : ∃ t, mg "LAST_CHANNEL" = some (.int (63) t) := by
      refine' RP.kc_mk KX G ?a; (case a => k_is)
    have z_LAST_TIME : ∃ t, mg "LAST_TIME" = some (.int (4611686018427387904) t) := by
      refine' RP.kc_mk KX G ?a; (case a => k_is)
    have z_LEAST_PERIOD : ∃ t, mg "LEAST_PERIOD" = some (.int (1000) t) := by
      refine' RP.kc_mk KX G ?a; (case a => k_is)
    have z_DAY : ∃ t, mg "DAY" = some (.int (86400000000) t) := by
      refine' RP.kc_mk KX G ?a; (case a => k_is)
    have z_MOST_READINGS : ∃ t, mg "MOST_READINGS" = some (.int (16) t) := by
      refine' RP.kc_mk KX G ?a; (case a => k_is)
    have z_NOT_REFUSED : ∃ t, mg "NOT_REFUSED" = some (.int (0) t) := by
      refine' RP.kc_mk KX G ?a; (case a => k_is)
    have z_NOT_IN_RANGE : ∃ t, mg "NOT_IN_RANGE" = some (.int (-1) t) := by
      refine' RP.kc_mk KX G ?a; (case a => k_is)
    have z_NO_SUCH_GROUP : ∃ t, mg "NO_SUCH_GROUP" = some (.int (-2) t) := by
      refine' RP.kc_mk KX G ?a; (case a => k_is)
    have z_TIME_BEFORE : ∃ t, mg "TIME_BEFORE" = some (.int (-4) t) := by
      refine' RP.kc_mk KX G ?a; (case a => k_is)
    have z_TOO_LATE : ∃ t, mg "TOO_LATE" = some (.int (1) t) := by
      refine' RP.kc_mk KX G ?a; (case a => k_is)
    have z_TO_READ : ∃ t, mg "TO_READ" = some (.int (2) t) := by
      refine' RP.kc_mk KX G ?a; (case a => k_is)
    have z_BEGIN : ∃ t, mg "BEGIN" = some (.int (1) t) := by
      refine' RP.kc_mk KX G ?a; (case a => k_is)
    have z_GROUP : ∃ t, mg "GROUP" = some (.int (2) t) := by
      refine' RP.kc_mk KX G ?a; (case a => k_is)
    have z_AWAY : ∃ t, mg "AWAY" = some (.int (3) t) := by
      refine' RP.kc_mk KX G ?a; (case a => k_is)
    have z_MEMBER : ∃ t, mg "MEMBER" = some (.int (4) t) := by
      refine' RP.kc_mk KX G ?a; (case a => k_is)
    have z_ALONE : ∃ t, mg "ALONE" = some (.int (5) t) := by
      refine' RP.kc_mk KX G ?a; (case a => k_is)
    have z_ON : ∃ t, mg "ON" = some (.int (6) t) := by
      refine' RP.kc_mk KX G ?a; (case a => k_is)
    have z_OFF : ∃ t, mg "OFF" = some (.int (7) t) := by
      refine' RP.kc_mk KX G ?a; (case a => k_is)
    have z_QUICK : ∃ t, mg "QUICK" = some (.int (8) t) := by
      refine' RP.kc_mk KX G ?a; (case a => k_is)
    have z_TIME : ∃ t, mg "TIME" = some (.int (9) t) := by
      refine' RP.kc_mk KX G ?a; (case a => k_is)
    have z_NEXT : ∃ t, mg "NEXT" = some (.int (10) t) := by
      refine' RP.kc_mk KX G ?a; (case a => k_is)
    have z_LOOK : ∃ t, mg "LOOK" = some (.int (11) t) := by
      refine' RP.kc_mk KX G ?a; (case a => k_is)
    have y_NUMBERS_BEHIND : ∃ d, mg "NUMBERS_BEHIND" = some (.ref d) ∧ L2.GD (L2.KOf KX) d RP.tab_NUMBERS_BEHIND := by
      dsimp only [L2.KOf]
      refine' RP.yd_mk KX G ?a (RP.gd_mk ?l ?ks ?fs)
      (case a => k_is); (case l => k_is); (case ks => decide +kernel)
      case fs => exact RP.tab_shown (by decide +kernel)
    have b_range : mg "range" = none := by
      refine' PySem.W.mg_none_of KX G ?a; (case a => k_is)
    have b_min : mg "min" = none := by
      refine' PySem.W.mg_none_of KX G ?a; (case a => k_is)
    have b_max : mg "max" = none := by
      refine' PySem.W.mg_none_of KX G ?a; (case a => k_is)
    have b_len : mg "len" = none := by
      refine' PySem.W.mg_none_of KX G ?a; (case a => k_is)
    have b_sorted : mg "sorted" = none := by
      refine' PySem.W.mg_none_of KX G ?a; (case a => k_is)
    obtain ⟨C_Group, f_Group_init, f_Group_start_behind, f_Group_turn_on, f_Group_turn_off, f_Group_take_missed, f_Group_take_wanted, d_Group_init, d_Group_start_behind, d_Group_turn_on, d_Group_turn_off, d_Group_take_missed, d_Group_take_wanted, cGroup⟩ := cGroup
    obtain ⟨C_Plan, f_Plan_init, f_Plan_reset, f_Plan_channels_of, f_Plan_free_channel, f_Plan_groups_on, f_Plan_go_on, f_Plan_tell, d_Plan_init, d_Plan_reset, d_Plan_channels_of, d_Plan_free_channel, d_Plan_groups_on, d_Plan_go_on, d_Plan_tell, cPlan⟩ := cPlan
    obtain ⟨f_count_readings, d_count_readings, t_count_readings⟩ := t_count_readings
    obtain ⟨f_count_with_period, d_count_with_period, t_count_with_period⟩ := t_count_with_period
    obtain ⟨f_count_up_to, d_count_up_to, t_count_up_to⟩ := t_count_up_to
    obtain ⟨f_reading_times, d_reading_times, t_reading_times⟩ := t_reading_times
    obtain ⟨f_times_with_period, d_times_with_period, t_times_with_period⟩ := t_times_with_period
    obtain ⟨f_next_reading, d_next_reading, t_next_reading⟩ := t_next_reading
    obtain ⟨f_first_with_period, d_first_with_period, t_first_with_period⟩ := t_first_with_period
    obtain ⟨f_first_of_place, d_first_of_place, t_first_of_place⟩ := t_first_of_place
    obtain ⟨f_burst_place, d_burst_place, t_burst_place⟩ := t_burst_place
    obtain ⟨f_is_group, d_is_group, t_is_group⟩ := t_is_group
    obtain ⟨f_is_channel, d_is_channel, t_is_channel⟩ := t_is_channel
    obtain ⟨f_is_time, d_is_time, t_is_time⟩ := t_is_time
    obtain ⟨f_is_gap, d_is_gap, t_is_gap⟩ := t_is_gap
    obtain ⟨f_are_settings, d_are_settings, t_are_settings⟩ := t_are_settings
    obtain ⟨f_refuse_time, d_refuse_time, t_refuse_time⟩ := t_refuse_time
    obtain ⟨f_refuse_group, d_refuse_group, t_refuse_group⟩ := t_refuse_group
    obtain ⟨f_begin, d_begin, t_begin⟩ := t_begin
    obtain ⟨f_set_group, d_set_group, t_set_group⟩ := t_set_group
    obtain ⟨f_send_away, d_send_away, t_send_away⟩ := t_send_away
    obtain ⟨f_make_member, d_make_member, t_make_member⟩ := t_make_member
    obtain ⟨f_make_alone, d_make_alone, t_make_alone⟩ := t_make_alone
    obtain ⟨f_switch_on, d_switch_on, t_switch_on⟩ := t_switch_on
    obtain ⟨f_switch_off, d_switch_off, t_switch_off⟩ := t_switch_off
    obtain ⟨f_make_quick, d_make_quick, t_make_quick⟩ := t_make_quick
    obtain ⟨f_pass_time, d_pass_time, t_pass_time⟩ := t_pass_time
    obtain ⟨f_tell_next, d_tell_next, t_tell_next⟩ := t_tell_next
    obtain ⟨f_look_at, d_look_at, t_look_at⟩ := t_look_at
    obtain ⟨f_tell_channels, d_tell_channels, t_tell_channels⟩ := t_tell_channels
    obtain ⟨f_answers, d_answers, t_answers, bnd⟩ := t_answers
    obtain ⟨f_answer_call, d_answer_call, t_answer_call⟩ := t_answer_call
    obtain ⟨f_answer_group, d_answer_group, t_answer_group⟩ := t_answer_group
    obtain ⟨k_LAST_GROUP, z_LAST_GROUP⟩ := z_LAST_GROUP
    obtain ⟨k_LAST_CHANNEL, z_LAST_CHANNEL⟩ := z_LAST_CHANNEL
    obtain ⟨k_LAST_TIME, z_LAST_TIME⟩ := z_LAST_TIME
    obtain ⟨k_LEAST_PERIOD, z_LEAST_PERIOD⟩ := z_LEAST_PERIOD
    obtain ⟨k_DAY, z_DAY⟩ := z_DAY
    obtain ⟨k_MOST_READINGS, z_MOST_READINGS⟩ := z_MOST_READINGS
    obtain ⟨k_NOT_REFUSED, z_NOT_REFUSED⟩ := z_NOT_REFUSED
    obtain ⟨k_NOT_IN_RANGE, z_NOT_IN_RANGE⟩ := z_NOT_IN_RANGE
    obtain ⟨k_NO_SUCH_GROUP, z_NO_SUCH_GROUP⟩ := z_NO_SUCH_GROUP
    obtain ⟨k_TIME_BEFORE, z_TIME_BEFORE⟩ := z_TIME_BEFORE
    obtain ⟨k_TOO_LATE, z_TOO_LATE⟩ := z_TOO_LATE
    obtain ⟨k_TO_READ, z_TO_READ⟩ := z_TO_READ
    obtain ⟨k_BEGIN, z_BEGIN⟩ := z_BEGIN
    obtain ⟨k_GROUP, z_GROUP⟩ := z_GROUP
    obtain ⟨k_AWAY, z_AWAY⟩ := z_AWAY
    obtain ⟨k_MEMBER, z_MEMBER⟩ := z_MEMBER
    obtain ⟨k_ALONE, z_ALONE⟩ := z_ALONE
    obtain ⟨k_ON, z_ON⟩ := z_ON
    obtain ⟨k_OFF, z_OFF⟩ := z_OFF
    obtain ⟨k_QUICK, z_QUICK⟩ := z_QUICK
    obtain ⟨k_TIME, z_TIME⟩ := z_TIME
    obtain ⟨k_NEXT, z_NEXT⟩ := z_NEXT
    obtain ⟨k_LOOK, z_LOOK⟩ := z_LOOK
    obtain ⟨a_NUMBERS_BEHIND, g_NUMBERS_BEHIND, y_NUMBERS_BEHIND⟩ := y_NUMBERS_BEHIND
    have T : RP.Txt (L2.KOf KX) mg ⟨C_Group, C_Plan, f_Group_init, d_Group_init, f_Group_start_behind, d_Group_start_behind, f_Group_turn_on, d_Group_turn_on, f_Group_turn_off, d_Group_turn_off, f_Group_take_missed, d_Group_take_missed, f_Group_take_wanted, d_Group_take_wanted, f_count_readings, d_count_readings, f_count_with_period, d_count_with_period, f_count_up_to, d_count_up_to, f_reading_times, d_reading_times, f_times_with_period, d_times_with_period, f_next_reading, d_next_reading, f_first_with_period, d_first_with_period, f_first_of_place, d_first_of_place, f_burst_place, d_burst_place, f_is_group, d_is_group, f_is_channel, d_is_channel, f_is_time, d_is_time, f_is_gap, d_is_gap, f_are_settings, d_are_settings, f_refuse_time, d_refuse_time, f_refuse_group, d_refuse_group, f_begin, d_begin, f_set_group, d_set_group, f_send_away, d_send_away, f_make_member, d_make_member, f_make_alone, d_make_alone, f_switch_on, d_switch_on, f_switch_off, d_switch_off, f_make_quick, d_make_quick, f_pass_time, d_pass_time, f_tell_next, d_tell_next, f_look_at, d_look_at, f_tell_channels, d_tell_channels, f_Plan_init, d_Plan_init, f_Plan_reset, d_Plan_reset, f_Plan_channels_of, d_Plan_channels_of, f_Plan_free_channel, d_Plan_free_channel, f_Plan_groups_on, d_Plan_groups_on, f_Plan_go_on, d_Plan_go_on, f_Plan_tell, d_Plan_tell, f_answers, d_answers, f_answer_call, d_answer_call, f_answer_group, d_answer_group, k_LAST_GROUP, k_LAST_CHANNEL, k_LAST_TIME, k_LEAST_PERIOD, k_DAY, k_MOST_READINGS, k_NOT_REFUSED, k_NOT_IN_RANGE, k_NO_SUCH_GROUP, k_TIME_BEFORE, k_TOO_LATE, k_TO_READ, k_BEGIN, k_GROUP, k_AWAY, k_MEMBER, k_ALONE, k_ON, k_OFF, k_QUICK, k_TIME, k_NEXT, k_LOOK, a_NUMBERS_BEHIND⟩ := ⟨cGroup.c, cGroup.g, cGroup.mk_, cGroup.n_period, cGroup.n_quick, cGroup.n_phase, cGroup.n_burst, cGroup.n_gap, cGroup.n_slack, cGroup.n_wanted_in_all, cGroup.n_missed_in_all, cGroup.n_active, cGroup.n_since, cGroup.n_till, cPlan.c, cPlan.g, cPlan.mk_, cPlan.n_now, cPlan.n_groups, cPlan.n_owners, cPlan.n_since, cGroup.Group_init, cGroup.Group_start_behind, cGroup.Group_turn_on, cGroup.Group_turn_off, cGroup.Group_take_missed, cGroup.Group_take_wanted, t_count_readings, t_count_with_period, t_count_up_to, t_reading_times, t_times_with_period, t_next_reading, t_first_with_period, t_first_of_place, t_burst_place, t_is_group, t_is_channel, t_is_time, t_is_gap, t_are_settings, t_refuse_time, t_refuse_group, t_begin, t_set_group, t_send_away, t_make_member, t_make_alone, t_switch_on, t_switch_off, t_make_quick, t_pass_time, t_tell_next, t_look_at, t_tell_channels, cPlan.Plan_init, cPlan.Plan_reset, cPlan.Plan_channels_of, cPlan.Plan_free_channel, cPlan.Plan_groups_on, cPlan.Plan_go_on, cPlan.Plan_tell, t_answers, t_answer_call, t_answer_group, z_LAST_GROUP, z_LAST_CHANNEL, z_LAST_TIME, z_LEAST_PERIOD, z_DAY, z_MOST_READINGS, z_NOT_REFUSED, z_NOT_IN_RANGE, z_NO_SUCH_GROUP, z_TIME_BEFORE, z_TOO_LATE, z_TO_READ, z_BEGIN, z_GROUP, z_AWAY, z_MEMBER, z_ALONE, z_ON, z_OFF, z_QUICK, z_TIME, z_NEXT, z_LOOK, g_NUMBERS_BEHIND, y_NUMBERS_BEHIND, b_range, b_min, b_max, b_len, b_sorted⟩
    have e := hmg.symm.trans T.answers.m
    cases e
    exact ⟨d_answers, bnd, fun base _ _ => RP.ok_answers T⟩
  case S =>
    intro K H xs a hO hwi hask hx
    cases hx with
    | cons h1 h2 =>
      cases h2
      cases h1 with
      | lst hs ha =>
        have e := L2.ints_dw a.1 _ ha
        subst e
        exact ⟨_, a.1, rfl, hs, hask, fun H' p hp => .lst (L2.SqL.of hp) (L2.dw_ints _)⟩
