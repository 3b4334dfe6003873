import PyProof.Rows.All
import Wide.All
import OpenK.AllK
import Wide.FinOn
import PyProof.EqAt
import PyProof.EqKinds
import PyProof.TupleCall
import KE.BitLaws
import Open.SpecLaws
import KE.OsHead
import KE.OsGo
import PyFlatLaws
import PySem.Challenge.RW_fieldshares_s01_answers
set_option Elab.async false
set_option Elab.async false
set_option linter.all false
set_option maxRecDepth 100000
local macro_rules | `(tactic| trivial) => `(tactic| first | kpc_kind | kfm_num)
namespace L2
open PySem PySem.Spec PyProof.Rows
noncomputable abbrev Key := Sum Int Str
noncomputable def keyIs : Key → Value → Bool
  | .inl k, v => Value.isInt k v
  | .inr x, v => Value.isStrOf x v
noncomputable def keyH (w : World) : Key → Int
  | .inl k => hashInt k
  | .inr x => hashStr w x
theorem keyIs_shape : ∀ {k : Key} {v : Value}, keyIs k v = true → (∃ i t, k = Sum.inl i ∧ v = Value.int i t) ∨ (∃ x t, k = Sum.inr x ∧ v = Value.str x t)
  | .inl i, v, h => by
    obtain ⟨t, e⟩ := Value.isInt_shape (k := i) (v := v) h
    exact .inl ⟨i, t, rfl, e⟩
  | .inr x, v, h => by
    obtain ⟨t, e⟩ := Value.isStrOf_shape (x := x) (v := v) h
    exact .inr ⟨x, t, rfl, e⟩
theorem keyIs_int (i : Int) (t : Tok) : keyIs (.inl i) (.int i t) = true := by simp [keyIs, Value.isInt]
theorem keyIs_str (x : Str) (t : Tok) : keyIs (.inr x) (.str x t) = true := by simp [keyIs, Value.isStrOf]
theorem key_ll (a b : Int) : decide ((Sum.inl a : Key) = Sum.inl b) = (a == b) := by
  by_cases e : a = b
  · subst e; simp
  · have h : ¬ (Sum.inl a : Key) = Sum.inl b := fun q => e (Sum.inl.inj q)
    rw [decide_eq_false h]
    exact (beq_eq_false_iff_ne.mpr e).symm
theorem key_rr (a b : Str) : decide ((Sum.inr a : Key) = Sum.inr b) = decide (a = b) := by
  by_cases e : a = b
  · subst e; simp
  · have h : ¬ (Sum.inr a : Key) = Sum.inr b := fun q => e (Sum.inr.inj q)
    rw [decide_eq_false h, decide_eq_false e]
theorem key_lr (a : Int) (b : Str) : decide ((Sum.inl a : Key) = Sum.inr b) = false := decide_eq_false (fun q => nomatch q)
theorem key_rl (a : Str) (b : Int) : decide ((Sum.inr a : Key) = Sum.inl b) = false := decide_eq_false (fun q => nomatch q)
noncomputable def mixKind (prog : Program) (w : World) : PySem.KeyKind prog w Key where
  is := keyIs
  hash := keyH w
  inj := fun v a b ha hb => by
    rcases keyIs_shape ha with ⟨i, t, rfl, rfl⟩ | ⟨x, t, rfl, rfl⟩
    · rcases keyIs_shape hb with ⟨j, u, rfl, e⟩ | ⟨y, u, rfl, e⟩
      · injection e with e1 _; rw [e1]
      · exact nomatch e
    · rcases keyIs_shape hb with ⟨j, u, rfl, e⟩ | ⟨y, u, rfl, e⟩
      · exact nomatch e
      · injection e with e1 _; rw [e1]
  byValue := fun k v h => by
    rcases keyIs_shape h with ⟨i, t, rfl, rfl⟩ | ⟨x, t, rfl, rfl⟩ <;> rfl
  pyHash := fun hv h => by
    rcases keyIs_shape hv with ⟨i, t, rfl, rfl⟩ | ⟨x, t, rfl, rfl⟩
    · exact wpAny_pyHash_int h
    · exact wpAny_pyHash_str h
  eqBool := fun hu hv h => by
    rcases keyIs_shape hu with ⟨i, t, rfl, rfl⟩ | ⟨x, t, rfl, rfl⟩
    · rcases keyIs_shape hv with ⟨j, u, rfl, rfl⟩ | ⟨y, u, rfl, rfl⟩
      · rw [key_ll] at h; exact wpAny_eqBool_int h
      · rw [key_lr] at h; exact SeqAt.EqAt.int_str i t y u _ _ _ _ h
    · rcases keyIs_shape hv with ⟨j, u, rfl, rfl⟩ | ⟨y, u, rfl, rfl⟩
      · rw [key_rl] at h; exact SeqAt.EqAt.str_int x t j u _ _ _ _ h
      · rw [key_rr] at h; exact wpAny_eqBool_str h
  «strs» := fun k x t v h => by
    rcases keyIs_shape h with ⟨i, u, rfl, e⟩ | ⟨y, u, rfl, e⟩
    · exact nomatch e
    · injection e with e1 _
      subst e1
      cases v <;> rfl
theorem mixKind_int (prog : Program) (w : World) (i : Int) (t : Tok) : (mixKind prog w).is (.inl i) (.int i t) = true := keyIs_int i t
theorem mixKind_str (prog : Program) (w : World) (x : Str) (t : Tok) : (mixKind prog w).is (.inr x) (.str x t) = true := keyIs_str x t
end L2
namespace L2
open PySem PySem.Spec PyProof.Rows
inductive V where
  | non | bl (b : Bool) | int (i : Int) | str (x : Str) | byt (b : Array UInt8) | flt (b : UInt64) | ref (a : Addr) | ty (n : String)
  deriving DecidableEq
noncomputable def RelV : V → Value → Prop
  | .non, u => u = Value.none
  | .bl b, u => u = Value.bool b
  | .int i, u => ∃ t, u = Value.int i t
  | .str x, u => ∃ t, u = Value.str x t
  | .byt b, u => ∃ t, u = Value.bytes b t
  | .flt b, u => ∃ t, u = Value.float b t
  | .ref a, u => u = Value.ref a
  | .ty n, u => u = Value.type n
noncomputable abbrev Vals : List V → List Value → Prop := Paired RelV
theorem Vals.length {xs : List V} {us : List Value} (r : Vals xs us) : xs.length = us.length := Paired.length r
theorem Vals.get : ∀ {xs : List V} {us : List Value} {i : Nat} {x : V}, Vals xs us → xs[i]? = some x → ∃ u, us[i]? = some u ∧ RelV x u
  | _, _, _, _, .nil, e => by simp at e
  | _, _, 0, _, .cons r _, e => by simp at e; subst e; exact ⟨_, rfl, r⟩
  | _, _, i + 1, x, .cons _ t, e => by
    obtain ⟨u, h1, h2⟩ := Vals.get (i := i) (x := x) t (by simpa using e)
    exact ⟨u, by simpa using h1, h2⟩
theorem Vals.set {x : V} {u : Value} (r : RelV x u) : ∀ {xs : List V} {us : List Value} (i : Nat), Vals xs us → Vals (xs.set i x) (us.set i u)
  | _, _, _, .nil => .nil
  | _, _, 0, .cons _ t => .cons r t
  | _, _, i + 1, .cons q t => .cons q (Vals.set r i t)
theorem Vals.append {xs ys : List V} {us ws : List Value} (h : Vals xs us) (s : Vals ys ws) : Vals (xs ++ ys) (us ++ ws) := by
  induction h with
  | nil => exact s
  | cons r _ ih => exact .cons r ih
theorem Vals.take : ∀ {xs : List V} {us : List Value} (n : Nat), Vals xs us → Vals (xs.take n) (us.take n)
  | _, _, 0, _ => .nil
  | _, _, _ + 1, .nil => .nil
  | _, _, n + 1, .cons r t => .cons r (Vals.take n t)
theorem Vals.drop : ∀ {xs : List V} {us : List Value} (n : Nat), Vals xs us → Vals (xs.drop n) (us.drop n)
  | _, _, 0, r => r
  | _, _, _ + 1, .nil => .nil
  | _, _, n + 1, .cons _ t => Vals.drop n t
noncomputable def RelO : Option V → Option Value → Prop
  | some v, some u => RelV v u
  | none, none => True
  | _, _ => False
noncomputable def KV {κ : Type} : List (κ × V) → List (κ × Value) → Prop := Paired fun (p : κ × V) (q : κ × Value) => p.1 = q.1 ∧ RelV p.2 q.2
noncomputable def kV : Key → V
  | .inl i => .int i
  | .inr x => .str x
inductive HO where
  | lst (xs : List V)
  | tup (xs : List V)
  | dK (kvs : List (Key × V)) | dT (kvs : List (List Key × V))
  | set (S : Int → Bool) (n : Nat)
  | ins (C dx : Addr) (fs : List (Str × V))
  | own (x : Addr)
  | xd (fs : List (Str × V))
  | met (f x : Addr)
  | rng (lo hi : Int)
  | frz (o : Obj) (u : HO)
  | tbl (ps : Array Value)
  | ext (φ : Heap → Prop)
noncomputable abbrev Hp := Addr → Option HO
noncomputable def upd (H : Hp) (a : Addr) (o : HO) : Hp := fun b => if b = a then some o else H b
theorem upd_same {H : Hp} {a : Addr} {o : HO} : upd H a o a = some o := by unfold upd; rw [if_pos rfl]
theorem upd_ne {H : Hp} {a b : Addr} {o : HO} (h : b ≠ a) : upd H a o b = H b := by unfold upd; rw [if_neg h]
theorem ne_of {H : Hp} {a b : Addr} {o u : HO} (h : H a = some o) (h' : H b = some u) (d : o ≠ u) : a ≠ b := by
  intro e; subst e; rw [h] at h'; exact d (Option.some.inj h')
theorem ne_of_none {H : Hp} {a b : Addr} {o : HO} (h : H a = some o) (h' : H b = none) : a ≠ b := by
  intro e; subst e; rw [h] at h'; cases h'
section
variable (P : Program) (w : World)
noncomputable def ObjOk (H : Hp) (h : Heap) (a : Addr) : HO → Prop
  | .lst xs => xs.length ≤ sizeLine ∧ ∃ (its : List Value) (n : Nat), Vals xs its ∧ h.get? a = some { cls := .type "list", data := .seq its.toArray n }
  | .tup xs => xs.length ≤ sizeLine ∧ ∃ its : List Value, Vals xs its ∧ IsTup h a its.toArray
  | .dK kvs => kvs.length ≤ sizeLine ∧ (a == sysModules) = false ∧ ∃ vs, KV kvs vs ∧ h.DictOf (mixKind P w) a vs
  | .dT kvs => kvs.length ≤ sizeLine ∧ (a == sysModules) = false ∧ ∃ xs : List (List Key × Addr × Value),
      Paired (fun (p : List Key × V) (q : List Key × Addr × Value) => p.1 = q.1 ∧ H q.2.1 = some (.tup (p.1.map kV)) ∧ RelV p.2 q.2.2) kvs xs ∧
      ∃ o es ep, h.get? a = some o ∧ o.ExactDict ∧ o.data = .dict es ep ∧ es.toList = xs.map (entryOfKey (tupleKind (mixKind P w))) ∧ (xs.map (·.1)).Nodup
  | .set S n => h.SetOf (intKind P w) a S n
  | .ins C dx fs => H dx = some (.own a) ∧ fs.length ≤ 1000 ∧ dx ≠ a ∧ h.get? a = some (PySem.W.instObj C dx) ∧
      ∃ mA, h.Ns1 dx mA ∧ (∀ f, RelO (fs.lookup f) (mA f)) ∧ PySem.Within mA (fs.map (·.1))
  | .own _ => ∃ o, h.get? a = some o
  | .xd fs => ∃ mA, h.Ns1 a mA ∧ ∀ f, RelO (fs.lookup f) (mA f)
  | .rng lo hi => ∃ t u v, h.get? a = some { cls := .type "range", data := .fields #[.int lo t, .int hi u, .int 1 v] }
  | .frz o u => h.get? a = some o ∧ ObjOk H h a u
  | .tbl ps => h.get? a = some { cls := .none, data := .fields ps }
  | .met f x => h.get? a = some (PySem.W.methodObj (.ref f) (.ref x))
  | .ext φ => φ h ∧ (∃ o, h.get? a = some o) ∧ ∀ h1 h2 : Heap, φ h1 → (∀ o, h1.get? a = some o → h2.get? a = some o) → φ h2
noncomputable def HOk (H : Hp) (h : Heap) : Prop := ∀ a o, H a = some o → ObjOk P w H h a o
end
section
variable {P : Program} {w : World} {H H' : Hp} {h h' : Heap} {a : Addr} {o : HO}
theorem ObjOk.lt (x : ObjOk P w H h a o) : a < h.objs.size := by
  cases o with
  | lst xs => obtain ⟨_, _, _, _, e⟩ := x; exact Heap.lt_size e
  | tup xs => obtain ⟨_, _, _, p⟩ := x; exact p.lt
  | dK kvs => obtain ⟨_, _, _, _, o, _, _, e, _⟩ := x; exact Heap.lt_size e
  | dT kvs => obtain ⟨_, _, _, _, o, _, _, e, _⟩ := x; exact Heap.lt_size e
  | set S n => obtain ⟨o, _, _, _, e, _⟩ := x; exact Heap.lt_size e
  | ins C dx fs => obtain ⟨_, _, _, e, _⟩ := x; exact Heap.lt_size e
  | own y => obtain ⟨_, e⟩ := x; exact Heap.lt_size e
  | xd fs => obtain ⟨_, ⟨_, _, _, e, _⟩, _⟩ := x; exact Heap.lt_size e
  | rng lo hi => obtain ⟨_, _, _, e⟩ := x; exact Heap.lt_size e
  | frz ob u => obtain ⟨e, _⟩ := x; exact Heap.lt_size e
  | tbl ps => exact Heap.lt_size (show h.get? a = some _ from x)
  | met f y => exact Heap.lt_size (show h.get? a = some _ from x)
  | ext φ => obtain ⟨_, ⟨_, e⟩, _⟩ := x; exact Heap.lt_size e
theorem Paired.mapP {α β : Type} {F G : α → β → Prop} {l₁ : List α} {l₂ : List β} (h : Paired F l₁ l₂) (f : ∀ a b, F a b → G a b) : Paired G l₁ l₂ := by
  induction h with
  | nil => exact .nil
  | cons r _ ih => exact .cons (f _ _ r) ih
theorem ObjOk.stay (x : ObjOk P w H h a o) (k : ∀ b u, (b = a ∨ H b = some (.own a)) → h.get? b = some u → h'.get? b = some u)
    (ho : ∀ b, H b = some (.own a) → H' b = some (.own a)) (ht : ∀ b xs, H b = some (.tup xs) → H' b = some (.tup xs)) : ObjOk P w H' h' a o := by
  induction o with
  | lst xs => obtain ⟨z, its, n, r, e⟩ := x; exact ⟨z, its, n, r, k _ _ (.inl rfl) e⟩
  | tup xs => obtain ⟨z, its, r, ob, e, c⟩ := x; exact ⟨z, its, r, ob, k _ _ (.inl rfl) e, c⟩
  | dK kvs => obtain ⟨z, y, vs, r, ob, es, ep, e, c⟩ := x; exact ⟨z, y, vs, r, ob, es, ep, k _ _ (.inl rfl) e, c⟩
  | dT kvs =>
    obtain ⟨z, y, xs, r, ob, es, ep, e, c⟩ := x
    exact ⟨z, y, xs, Paired.mapP r fun p q z => ⟨z.1, ht _ _ z.2.1, z.2.2⟩, ob, es, ep, k _ _ (.inl rfl) e, c⟩
  | set S n => obtain ⟨ob, es, ep, t, e, c⟩ := x; exact ⟨ob, es, ep, t, k _ _ (.inl rfl) e, c⟩
  | ins C dx fs =>
    obtain ⟨d, z, ne, e, mA, ⟨od, es, ep, e2, c⟩, r⟩ := x
    exact ⟨ho _ d, z, ne, k _ _ (.inl rfl) e, mA, ⟨od, es, ep, k _ _ (.inr d) e2, c⟩, r⟩
  | own y => obtain ⟨ob, e⟩ := x; exact ⟨ob, k _ _ (.inl rfl) e⟩
  | xd fs => obtain ⟨mA, ⟨od, es, ep, e, c⟩, r⟩ := x; exact ⟨mA, ⟨od, es, ep, k _ _ (.inl rfl) e, c⟩, r⟩
  | rng lo hi => obtain ⟨t, u, v, e⟩ := x; exact ⟨t, u, v, k _ _ (.inl rfl) e⟩
  | frz ob u ih => obtain ⟨e, q⟩ := x; exact ⟨k _ _ (.inl rfl) e, ih q⟩
  | tbl ps =>
    have e : h.get? a = some { cls := .none, data := .fields ps } := x
    show h'.get? a = some { cls := .none, data := .fields ps }
    exact k a _ (.inl rfl) e
  | met f y =>
    have e : h.get? a = some (PySem.W.methodObj (.ref f) (.ref y)) := x
    show h'.get? a = some (PySem.W.methodObj (.ref f) (.ref y))
    exact k a _ (.inl rfl) e
  | ext φ => obtain ⟨p, ⟨o, e⟩, st⟩ := x; exact ⟨st _ _ p fun o q => k _ _ (.inl rfl) q, ⟨o, k _ _ (.inl rfl) e⟩, st⟩
theorem HOk.lt (x : HOk P w H h) (e : H a = some o) : a < h.objs.size := (x a o e).lt
theorem HOk.fresh (x : HOk P w H h) (e : h.objs.size ≤ a) : H a = none := by
  cases q : H a with
  | none => rfl
  | some u => exact absurd (Nat.lt_of_lt_of_le (x.lt q) e) (Nat.lt_irrefl _)
theorem HOk.kept (x : HOk P w H h) (k : ∀ b u, h.get? b = some u → h'.get? b = some u) : HOk P w H h' := fun a o e =>
  (x a o e).stay (fun b u _ q => k b u q) (fun _ q => q) fun _ _ q => q
theorem HOk.laid (x : HOk P w H h) (k : ∀ b u, h.get? b = some u → h'.get? b = some u) (hp : h.objs.size ≤ a) (new : ObjOk P w (upd H a o) h' a o) : HOk P w (upd H a o) h' := fun b u e => by
  have hn := x.fresh hp
  by_cases hb : b = a
  · subst hb; rw [upd_same] at e; cases e; exact new
  · rw [upd_ne hb] at e
    exact (x b u e).stay (fun c v _ q => k c v q) (fun c q => by rw [upd_ne (ne_of_none q hn)]; exact q) fun c xs q => by rw [upd_ne (ne_of_none q hn)]; exact q
end
noncomputable def Rd (H : Hp) (a : Addr) (u : HO) : Prop := H a = some u ∨ ∃ o, H a = some (.frz o u)
theorem Rd.ok {P : Program} {w : World} {H : Hp} {h : Heap} {a : Addr} {u : HO} (r : Rd H a u) (x : HOk P w H h) : ObjOk P w H h a u := by
  rcases r with r | ⟨o, r⟩
  · exact x a u r
  · obtain ⟨_, q⟩ := x a _ r
    exact q
noncomputable def Mut : Option HO → Prop
  | some (.lst _) => True
  | some (.dK _) => True
  | some (.dT _) => True
  | some (.set _ _) => True
  | some (.ins _ _ _) => True
  | some (.ext _) => True
  | _ => False
section
variable {P : Program} {w : World} {H : Hp} {h h' : Heap} {x e : Addr} {o' : HO}
theorem HOk.write (ok : HOk P w H h) (mu : Mut (H x)) (he : e = x ∨ H e = some (.own x)) (k : ∀ b u, b ≠ e → h.get? b = some u → h'.get? b = some u) (heo : ∃ u, h'.get? e = some u)
    (new : ObjOk P w (upd H x o') h' x o') : HOk P w (upd H x o') h' := fun b u q => by
  have nown : ∀ c y, H c = some (.own y) → c ≠ x := fun c y r z => by subst z; rw [r] at mu; exact mu
  have ntup : ∀ c xs, H c = some (.tup xs) → c ≠ x := fun c xs r z => by subst z; rw [r] at mu; exact mu
  by_cases hb : b = x
  · subst hb; rw [upd_same] at q; cases q; exact new
  · rw [upd_ne hb] at q
    by_cases hbe : b = e
    · have q' : H b = some (.own x) := by
        rcases he with z | z
        · exact absurd (hbe.trans z) hb
        · rw [hbe]; exact z
      rw [q] at q'; cases q'
      obtain ⟨v, hv⟩ := heo
      exact ⟨v, by rw [hbe]; exact hv⟩
    · refine (ok b u q).stay (fun c v hc r => k c v ?_ r) (fun c r => by rw [upd_ne (nown c b r)]; exact r) fun c xs r => by rw [upd_ne (ntup c xs r)]; exact r
      rcases hc with rfl | hc
      · exact hbe
      · rintro rfl
        rcases he with z | z
        · exact nown c b hc z
        · rw [hc] at z; cases z; exact hb rfl
end
structure Un (fs ex : List Addr) (H H' : Hp) (h h' : Heap) : Prop where
  keep : ∀ b o, h.get? b = some o → H b = none → b ∉ fs → b ∉ ex → h'.get? b = some o
  slot : ∀ b o, h.get? b = some o → H b = none → b ∈ fs → b ∉ ex → ∃ sl, h'.get? b = some { o with slots := sl }
  free : ∀ b o, h.get? b = some o → H b = none → b ∉ ex → H' b = none
  there : ∀ b o, h.get? b = some o → b ∉ ex → ∃ o', h'.get? b = some o'
  tups : ∀ b xs, H b = some (.tup xs) → H' b = some (.tup xs)
  frzs : ∀ b o u, H b = some (.frz o u) → H' b = some (.frz o u)
  tbls : ∀ b ps, H b = some (.tbl ps) → ∃ more, H' b = some (.tbl (ps ++ more))
section
variable {fs fs' ex ex' : List Addr} {H H1 H2 : Hp} {h h1 h2 h' : Heap} {a x e : Addr} {o : HO}
theorem Un.any (u : Un fs ex H H1 h h1) {b : Addr} {ob : Obj} (q : h.get? b = some ob) (n : H b = none) (hx : b ∉ ex) : ∃ sl, h1.get? b = some { ob with slots := sl } := by
  by_cases hb : b ∈ fs
  · exact u.slot b ob q n hb hx
  · exact ⟨ob.slots, u.keep b ob q n hb hx⟩
theorem Un.kept (k : ∀ b u, h.get? b = some u → h'.get? b = some u) : Un fs ex H H h h' :=
  ⟨fun b ob q _ _ _ => k b ob q, fun b ob q _ _ _ => ⟨ob.slots, k b ob q⟩, fun _ _ _ n _ => n, fun b ob q _ => ⟨ob, k b ob q⟩, fun _ _ q => q, fun _ _ _ q => q, fun _ ps q => ⟨#[], by rw [q]; simp⟩⟩
theorem Un.refl : Un fs ex H H h h := Un.kept fun _ _ q => q
theorem Un.laid (k : ∀ b u, h.get? b = some u → h'.get? b = some u) (hp : h.objs.size ≤ a) (hn : H a = none) : Un fs ex H (upd H a o) h h' where
  keep := fun b u q _ _ _ => k b u q
  slot := fun b u q _ _ _ => ⟨u.slots, k b u q⟩
  free := fun b u q n _ => by rw [upd_ne (Nat.ne_of_lt (Nat.lt_of_lt_of_le (Heap.lt_size q) hp))]; exact n
  there := fun b u q _ => ⟨u, k b u q⟩
  tups := fun b xs q => by rw [upd_ne (ne_of_none q hn)]; exact q
  frzs := fun b u xs q => by rw [upd_ne (ne_of_none q hn)]; exact q
  tbls := fun b ps q => ⟨#[], by rw [upd_ne (ne_of_none q hn), q]; simp⟩
theorem Un.write (mu : Mut (H x)) (he : e = x ∨ H e = some (.own x)) (k : ∀ b u, b ≠ e → h.get? b = some u → h'.get? b = some u) (heo : ∃ u, h'.get? e = some u) : Un fs ex H (upd H x o) h h' := by
  have hx : ∀ b, H b = none → b ≠ x := fun b n z => by subst z; rw [n] at mu; exact mu
  have hb : ∀ b, H b = none → b ≠ e := fun b n z => by
    subst z
    rcases he with r | r
    · exact hx b n r
    · rw [n] at r; cases r
  have hm : ∀ b u, H b = some u → ¬ Mut (some u) → b ≠ x := fun b u q nm z => by subst z; rw [q] at mu; exact nm mu
  refine ⟨fun b u q n _ _ => k b u (hb b n) q, fun b u q n _ _ => ⟨u.slots, k b u (hb b n) q⟩, fun b u q n _ => by rw [upd_ne (hx b n)]; exact n, fun b u q _ => ?_,
    fun b xs q => by rw [upd_ne (hm b _ q fun z => z)]; exact q, fun b u xs q => by rw [upd_ne (hm b _ q fun z => z)]; exact q, fun b ps q => ⟨#[], by rw [upd_ne (hm b _ q fun z => z), q]; simp⟩⟩
  by_cases hbe : b = e
  · subst hbe; exact heo
  · exact ⟨u, k b u hbe q⟩
end
noncomputable def trk (h : Heap) (H : Hp) : List Addr := (List.range h.objs.size).filter fun a => (H a).isSome
noncomputable def hidT (h : Heap) (H : Hp) : Heap := PySem.W.hideAll h (trk h H)
theorem hidT_size (h : Heap) (H : Hp) : (hidT h H).objs.size = h.objs.size := PySem.W.hideAll_size _ _
theorem hidT_get {h : Heap} {H : Hp} {b : Addr} {o : Obj} (e : h.get? b = some o) (n : H b = none) : (hidT h H).get? b = some o :=
  PySem.W.hideAll_get _ e fun hm => by
    have q : (H b).isSome = true := (List.mem_filter.mp hm).2
    rw [n] at q; simp at q
theorem of_hidT {h : Heap} {H : Hp} {b : Addr} {o : Obj} (e : (hidT h H).get? b = some o) : h.get? b = some o ∧ H b = none := by
  have e' : h.get? b = some o := PySem.W.of_hideAll (trk h H) e
  refine ⟨e', ?_⟩
  cases q : H b with
  | none => rfl
  | some x =>
    have hm : b ∈ trk h H := List.mem_filter.mpr ⟨List.mem_range.mpr (Heap.lt_size e'), by simp [q]⟩
    have z : (hidT h H).get? b = none := PySem.W.hideAll_none (trk h H) hm
    rw [z] at e; cases e
end L2
namespace L2
open PySem PySem.Spec PyProof.Rows
structure Mod (K : PySem.W.Frag) (mg : Str → Option Value) (base : Heap) : Prop where
  kin : K.In base
  glob : base.Ns mainGlobals mg
  blt : ∃ mb, base.Ns builtinsNs mb ∧ ∀ x : Str, x ≠ "__name__" → mb x = bootBuiltins x
  nolimit : base.NoLimit
structure Cx where
  prog : Program
  w : World
  K : PySem.W.Frag
  mg : Str → Option Value
  base : Heap
  A : Around
  N : List Str
  s_0 : Shared
  H_0 : Hp
  env : Env
  outer : List Env
  stack : List Env
  ex : List Addr
  fn : Str → Bool
  calm : Bool
  pn : List (Addr × Obj)
  xe : Value → Shared → Prop
noncomputable def frs (l : List Env) : List Addr := l.filterMap (·.frame)
noncomputable abbrev Cx.fs (X : Cx) : List Addr := frs X.outer
noncomputable def Vis (sc : Scope) (x : Str) : Prop := sc.names.lookup x = some .local ∨ sc.names.lookup x = some .cell ∨ sc.names.lookup x = some .free
noncomputable def Loc (sc : Scope) (x : Str) : Prop := sc.names.lookup x = some .local ∨ sc.names.lookup x = some .cell
noncomputable def Look (env : Env) (h : Heap) (m : Str → Option Value) (x : Str) (u : Value) : Prop :=
  (env.kindOf x = some .local ∧ m x = some u) ∨ ((env.kindOf x = some .cell ∨ env.kindOf x = some .free) ∧ ∃ c, env.cells.lookup x = some c ∧ h.IsCell c (some u))
structure Cx.Ok (X : Cx) : Prop where
  mod : Mod X.K X.mg X.base
  kind : X.env.scope.kind = .function
  glob : X.env.globals = mainGlobals
  blt : X.env.builtins = builtinsNs
  above : X.s_0.heap.objs.size ≤ X.env.locals
  inj : ∀ x y c, X.env.cells.lookup x = some c → X.env.cells.lookup y = some c → x = y
  has : ∀ x, (X.env.kindOf x = some .cell ∨ X.env.kindOf x = some .free) → ∃ c, X.env.cells.lookup x = some c
  cab : ∀ x c, X.fn x = true → X.env.cells.lookup x = some c → X.s_0.heap.objs.size ≤ c
  hd : X.calm = true → X.A.handled = none
  frames : X.A.frames = some X.stack
  stk : X.stack = X.outer ∨ (X.stack = X.env :: X.outer ∧ X.env.frame = some X.env.locals)
  exf : ∀ b ∈ X.ex, b ≠ X.env.locals ∧ ∀ x c, X.env.cells.lookup x = some c → c ≠ b
  bs : ∀ b o, X.base.get? b = some o → X.s_0.heap.get? b = some o ∧ X.H_0 b = none
  bsz : X.base.objs.size ≤ X.s_0.heap.objs.size
  noex : ∀ b o, X.base.get? b = some o → b ∉ X.ex
  exfs : ∀ b ∈ X.ex, b ∉ X.fs
  funs : X.s_0.heap.FunFrames X.base X.outer
  frf : ∀ b ∈ X.fs, X.H_0 b = none
structure Inv (X : Cx) (pins : List (Addr × Obj)) (σ : List (Option V)) (H : Hp) (s : Shared) : Prop where
  ok : X.Ok
  os : s.os = X.s_0.os
  bare : AllBare s.gens
  base : Un X.fs X.ex X.H_0 H X.s_0.heap s.heap
  loc : ∃ m, s.heap.Ns X.env.locals m ∧ ∀ (i : Nat) (x : Str) (v : V), X.N[i]? = some x → σ[i]? = some (some v) → Vis X.env.scope x → ∃ u, RelV v u ∧ Look X.env s.heap m x u
  cell : ∀ x c, X.env.cells.lookup x = some c → ∃ v, s.heap.IsCell c v
  free : H X.env.locals = none
  freeC : ∀ x c, X.env.cells.lookup x = some c → H c = none
  pin : ∀ p ∈ X.pn ++ pins, s.heap.get? p.1 = some p.2 ∧ H p.1 = none ∧ p.1 ≠ X.env.locals ∧ p.1 ∉ X.fs ∧ ∀ v, p.2.data ≠ .cell v
  hok : HOk X.prog X.w H s.heap
  len : σ.length = X.N.length
section
variable {X : Cx} {pins : List (Addr × Obj)} {σ : List (Option V)} {H H' : Hp} {s : Shared} {h' : Heap}
theorem Cx.Ok.nofr (ok : X.Ok) {b : Addr} {o : Obj} (e : X.base.get? b = some o) : b ∉ X.fs := fun hb => by
  have := (ok.funs.mem hb).1
  rw [e] at this; cases this
theorem Inv.bs (I : Inv X pins σ H s) : ∀ b o, X.base.get? b = some o → s.heap.get? b = some o ∧ H b = none := fun b o e =>
  ⟨I.base.keep b o (I.ok.bs b o e).1 (I.ok.bs b o e).2 (I.ok.nofr e) (I.ok.noex b o e), I.base.free b o (I.ok.bs b o e).1 (I.ok.bs b o e).2 (I.ok.noex b o e)⟩
theorem Inv.bk (I : Inv X pins σ H s) : ∀ b o, X.base.get? b = some o → s.heap.get? b = some o := fun b o e => (I.bs b o e).1
theorem Inv.mod (I : Inv X pins σ H s) : Mod X.K X.mg X.base := I.ok.mod
theorem Inv.kIn (I : Inv X pins σ H s) : X.K.In s.heap := I.ok.mod.kin.keeps I.bk
theorem Inv.lt (I : Inv X pins σ H s) : X.env.locals < s.heap.objs.size := let ⟨_, hn, _⟩ := I.loc; hn.lt
theorem Inv.sz (I : Inv X pins σ H s) : X.s_0.heap.objs.size ≤ s.heap.objs.size := Nat.le_trans I.ok.above (Nat.le_of_lt I.lt)
theorem Inv.nofs (I : Inv X pins σ H s) {a : Addr} (h : s.heap.objs.size ≤ a) : a ∉ X.fs := fun hb => by
  obtain ⟨_, o, ho, _⟩ := I.ok.funs.mem hb
  exact absurd (Nat.lt_of_lt_of_le (Heap.lt_size ho) (Nat.le_trans I.sz h)) (Nat.lt_irrefl _)
theorem Inv.cne (I : Inv X pins σ H s) : ∀ x c, X.env.cells.lookup x = some c → c ≠ X.env.locals := fun x c e z => by
  obtain ⟨v, o, ho, hd⟩ := I.cell x c e
  obtain ⟨m, ⟨o', es, ep, ho', hd', _⟩, _⟩ := I.loc
  rw [z, ho'] at ho; cases ho; rw [hd'] at hd; cases hd
theorem Inv.funs (I : Inv X pins σ H s) : s.heap.FunFrames X.base X.outer := by
  have all : ∀ (l : List Env), (∀ b ∈ frs l, b ∈ X.fs) → X.s_0.heap.FunFrames X.base l → s.heap.FunFrames X.base l := by
    intro l
    induction l with
    | nil => intro _ _; trivial
    | cons env r ih =>
      intro hs hl
      obtain ⟨hk, ⟨L, o, hf, hn, ho, hd⟩, hr⟩ := hl
      have hL : L ∈ X.fs := hs L (by unfold frs; rw [List.filterMap_cons, hf]; exact List.mem_cons_self)
      obtain ⟨sl, e⟩ := I.base.slot L o ho (I.ok.frf L hL) hL fun z => I.ok.exfs L z hL
      exact ⟨hk, ⟨L, _, hf, hn, e, hd⟩, ih (fun b hb => hs b (by unfold frs; rw [List.filterMap_cons, hf]; exact List.mem_cons_of_mem _ hb)) hr⟩
  exact all X.outer (fun _ hb => hb) I.ok.funs
theorem Inv.stack (I : Inv X pins σ H s) : s.heap.FunFrames X.base X.stack := by
  rcases I.ok.stk with e | ⟨e, hf⟩
  · rw [e]; exact I.funs
  · rw [e]
    obtain ⟨m, hn, _⟩ := I.loc
    refine .cons (by rw [I.ok.kind]; decide) hf hn ?_ I.funs
    exact Heap.get?_none_of_le (Nat.le_trans I.ok.bsz I.ok.above)
theorem Inv.stkSub (I : Inv X pins σ H s) : ∀ b ∈ frs X.stack, b ∈ X.env.locals :: X.fs := fun b hb => by
  rcases I.ok.stk with e | ⟨e, hf⟩
  · rw [e] at hb; exact List.mem_cons_of_mem _ hb
  · rw [e] at hb
    unfold frs at hb
    rw [List.filterMap_cons, hf] at hb
    exact hb
theorem Inv.stkFree (I : Inv X pins σ H s) : ∀ b ∈ frs X.stack, H b = none := fun b hb => by
  rcases List.mem_cons.mp (I.stkSub b hb) with e | hb
  · rw [e]; exact I.free
  · obtain ⟨_, o, ho, _⟩ := I.ok.funs.mem hb
    exact I.base.free b o ho (I.ok.frf b hb) fun z => I.ok.exfs b z hb
theorem Inv.step {g' : Array GenState} {t' : Nat} {d' : Drawn} {ch : List Addr} (I : Inv X pins σ H s)
    (hch : ∀ b ∈ ch, (b ∈ X.ex ∨ X.s_0.heap.objs.size ≤ b) ∧ b ≠ X.env.locals ∧ (∀ x c, X.env.cells.lookup x = some c → c ≠ b) ∧ ∀ p ∈ X.pn ++ pins, p.1 ≠ b)
    (keep : ∀ b o, b ≠ X.env.locals → b ∉ X.fs → b ∉ ch → s.heap.get? b = some o → H b = none → h'.get? b = some o)
    (slot : ∀ b o, b ≠ X.env.locals → b ∈ X.fs → b ∉ ch → s.heap.get? b = some o → H b = none → ∃ sl, h'.get? b = some { o with slots := sl }) (free : ∀ b o, b ∉ ch → s.heap.get? b = some o → H b = none → H' b = none)
    (there : ∀ b o, b ∉ ch → s.heap.get? b = some o → ∃ o', h'.get? b = some o')
    (tups : ∀ b xs, H b = some (.tup xs) → H' b = some (.tup xs)) (frzs : ∀ b o u, H b = some (.frz o u) → H' b = some (.frz o u)) (tbls : ∀ b ps, H b = some (.tbl ps) → ∃ more, H' b = some (.tbl (ps ++ more)))
    (ns : ∀ m, s.heap.Ns X.env.locals m → h'.Ns X.env.locals m) (hok : HOk X.prog X.w H' h') (hg : AllBare g') :
    Inv X pins σ H' { s with heap := h', gens := g', drawn := d', toks := t' } := by
  have neL : ∀ b o, X.s_0.heap.get? b = some o → b ≠ X.env.locals := fun b o e => Nat.ne_of_lt (Nat.lt_of_lt_of_le (Heap.lt_size e) I.ok.above)
  have neC : ∀ b o, X.s_0.heap.get? b = some o → b ∉ X.ex → b ∉ ch := fun b o e hx hb => by
    rcases (hch b hb).1 with z | z
    · exact hx z
    · exact absurd (Nat.lt_of_lt_of_le (Heap.lt_size e) z) (Nat.lt_irrefl _)
  have cellK : ∀ x c, X.env.cells.lookup x = some c → ∀ v, s.heap.IsCell c v → h'.IsCell c v := fun x c e v ⟨o, ho, hd⟩ => by
    have nch : c ∉ ch := fun z => (hch c z).2.2.1 x c e rfl
    by_cases hc : c ∈ X.fs
    · obtain ⟨sl, q⟩ := slot c o (I.cne x c e) hc nch ho (I.freeC x c e)
      exact ⟨_, q, hd⟩
    · exact ⟨o, keep c o (I.cne x c e) hc nch ho (I.freeC x c e), hd⟩
  refine ⟨I.ok, I.os, hg, ⟨fun b o e n hb hx => ?_, fun b o e n hb hx => ?_, fun b o e n hx => ?_, fun b o e hx => ?_, fun b xs e => tups b xs (I.base.tups b xs e), fun b o xs e => frzs b o xs (I.base.frzs b o xs e), fun b ps e => ?_⟩, ?_, fun x c e => ?_, ?_, fun x c e => ?_, fun p hp => ?_, hok, I.len⟩
  · exact keep b o (neL b o e) hb (neC b o e hx) (I.base.keep b o e n hb hx) (I.base.free b o e n hx)
  · obtain ⟨sl, e1⟩ := I.base.slot b o e n hb hx
    obtain ⟨sl', e2⟩ := slot b _ (neL b o e) hb (neC b o e hx) e1 (I.base.free b o e n hx)
    exact ⟨sl', e2⟩
  · obtain ⟨o', e1⟩ := I.base.there b o e hx
    exact free b o' (neC b o e hx) e1 (I.base.free b o e n hx)
  · obtain ⟨o', e1⟩ := I.base.there b o e hx
    exact there b o' (neC b o e hx) e1
  · obtain ⟨m1, e1⟩ := I.base.tbls b ps e
    obtain ⟨m2, e2⟩ := tbls b _ e1
    exact ⟨m1 ++ m2, by rw [e2, Array.append_assoc]⟩
  · obtain ⟨m, hn, hl⟩ := I.loc
    refine ⟨m, ns m hn, fun i x v e1 e2 e3 => ?_⟩
    obtain ⟨u, r, l⟩ := hl i x v e1 e2 e3
    refine ⟨u, r, ?_⟩
    rcases l with l | ⟨k, c, e, z⟩
    · exact .inl l
    · exact .inr ⟨k, c, e, cellK x c e _ z⟩
  · obtain ⟨v, z⟩ := I.cell x c e
    exact ⟨v, cellK x c e v z⟩
  · obtain ⟨m, ⟨o, _, _, ho, _⟩, _⟩ := I.loc
    exact free _ o (fun z => (hch _ z).2.1 rfl) ho I.free
  · obtain ⟨v, o, ho, hd⟩ := I.cell x c e
    exact free c o (fun z => (hch c z).2.2.1 x c e rfl) ho (I.freeC x c e)
  · obtain ⟨e, n, ne, nf, d⟩ := I.pin p hp
    have nch : p.1 ∉ ch := fun z => (hch p.1 z).2.2.2 p hp rfl
    exact ⟨keep p.1 p.2 ne nf nch e n, free p.1 p.2 nch e n, ne, nf, d⟩
theorem Inv.un {t' : Nat} (I : Inv X pins σ H s) (u : Un X.fs [] H H' s.heap h') (hok : HOk X.prog X.w H' h') : Inv X pins σ H' { s with heap := h', toks := t' } := by
  obtain ⟨m, ⟨o, es, ep, ho, r⟩, _⟩ := id I.loc
  obtain ⟨sl, hL⟩ := u.any ho I.free (by simp)
  exact I.step (g' := s.gens) (d' := s.drawn) (ch := []) (fun _ z => nomatch z) (fun b o _ hb _ e n => u.keep b o e n hb (by simp)) (fun b o _ hb _ e n => u.slot b o e n hb (by simp)) (fun b o _ e n => u.free b o e n (by simp)) (fun b o _ e => u.there b o e (by simp)) u.tups u.frzs u.tbls (fun m' hm => by
    obtain ⟨o', es', ep', ho', r'⟩ := hm
    rw [ho] at ho'; cases ho'
    exact ⟨_, es', ep', hL, r'⟩) hok I.bare
theorem Inv.call {g' : Array GenState} {t' : Nat} {d' : Drawn} {ch : List Addr} (I : Inv X pins σ H s) (u : Un (frs X.stack) ch H H' s.heap h') (hok : HOk X.prog X.w H' h') (hg : AllBare g')
    (hch : ∀ b ∈ ch, (b ∈ X.ex ∨ X.s_0.heap.objs.size ≤ b) ∧ b ≠ X.env.locals ∧ (∀ x c, X.env.cells.lookup x = some c → c ≠ b) ∧ ∀ p ∈ X.pn ++ pins, p.1 ≠ b) :
    Inv X pins σ H' { s with heap := h', gens := g', drawn := d', toks := t' } := by
  obtain ⟨m, ⟨o, es, ep, ho, r⟩, _⟩ := id I.loc
  obtain ⟨sl, hL⟩ := u.any ho I.free fun z => (hch _ z).2.1 rfl
  exact I.step (ch := ch) hch (fun b o hL hb hc e n => u.keep b o e n (fun z => (List.mem_cons.mp (I.stkSub b z)).elim hL hb) hc) (fun b o _ _ hc e n => u.any e n hc) (fun b o hc e n => u.free b o e n hc) (fun b o hc e => u.there b o e hc) u.tups u.frzs u.tbls (fun m' hm => by
    obtain ⟨o', es', ep', ho', r'⟩ := hm
    rw [ho] at ho'; cases ho'
    exact ⟨_, es', ep', hL, r'⟩) hok hg
theorem Inv.turned {t' : Nat} {it : Addr} (I : Inv X pins σ H s) (k : ∀ b o, b ≠ it → s.heap.get? b = some o → h'.get? b = some o) (hn : H it = none) (hL : it ≠ X.env.locals)
    (h1 : it ∈ X.ex ∨ X.s_0.heap.objs.size ≤ it) (h2 : ∀ x c, X.env.cells.lookup x = some c → c ≠ it) (h3 : ∀ p ∈ X.pn ++ pins, p.1 ≠ it) : Inv X pins σ H { s with heap := h', toks := t' } := by
  have nit : ∀ b u, H b = some u → b ≠ it := fun b u e z => by rw [z, hn] at e; cases e
  refine I.step (g' := s.gens) (d' := s.drawn) (ch := [it]) (fun b hb => ?_) (fun b o _ _ hc e _ => k b o (fun z => hc (by simp [z])) e) (fun b o _ _ hc e _ => ⟨o.slots, k b o (fun z => hc (by simp [z])) e⟩) (fun _ _ _ _ n => n)
    (fun b o hc e => ⟨o, k b o (fun z => hc (by simp [z])) e⟩) (fun _ _ e => e) (fun _ _ _ e => e) (fun b ps e => ⟨#[], by rw [e]; simp⟩) (fun m hm => ?_) (fun b u e => ?_) I.bare
  · have e : b = it := by simpa using hb
    subst e
    exact ⟨h1, hL, h2, h3⟩
  · obtain ⟨o, es, ep, ho, r⟩ := hm
    exact ⟨o, es, ep, k _ o (Ne.symm hL) ho, r⟩
  · refine (I.hok b u e).stay (fun c v hc q => k c v ?_ q) (fun _ q => q) fun _ _ q => q
    rcases hc with z | z
    · rw [z]; exact nit b u e
    · exact nit c _ z
theorem Inv.tok (I : Inv X pins σ H s) (t : Nat) : Inv X pins σ H { s with toks := t } := I.un (h' := s.heap) (t' := t) Un.refl I.hok
theorem Inv.kept {t' : Nat} (I : Inv X pins σ H s) (k : ∀ b u, s.heap.get? b = some u → h'.get? b = some u) : Inv X pins σ H { s with heap := h', toks := t' } := I.un (Un.kept k) (I.hok.kept k)
theorem Inv.laid {a : Addr} {o : HO} {t' : Nat} (I : Inv X pins σ H s) (k : ∀ b u, s.heap.get? b = some u → h'.get? b = some u) (hp : s.heap.objs.size ≤ a) (new : ObjOk X.prog X.w (upd H a o) h' a o) :
    Inv X pins σ (upd H a o) { s with heap := h', toks := t' } := I.un (Un.laid k hp (I.hok.fresh hp)) (I.hok.laid k hp new)
theorem Inv.write {x e : Addr} {o : HO} {t' : Nat} (I : Inv X pins σ H s) (mu : Mut (H x)) (he : e = x ∨ H e = some (.own x)) (k : ∀ b u, b ≠ e → s.heap.get? b = some u → h'.get? b = some u) (heo : ∃ u, h'.get? e = some u)
    (new : ObjOk X.prog X.w (upd H x o) h' x o) : Inv X pins σ (upd H x o) { s with heap := h', toks := t' } := I.un (Un.write mu he k heo) (I.hok.write mu he k heo new)
theorem Inv.weak {σ' : List (Option V)} (I : Inv X pins σ H s) (hl : σ'.length = σ.length) (w : ∀ (i : Nat) v, σ'[i]? = some (some v) → σ[i]? = some (some v)) : Inv X pins σ' H s :=
  ⟨I.ok, I.os, I.bare, I.base, let ⟨m, hn, hl'⟩ := I.loc; ⟨m, hn, fun i x v e1 e2 e3 => hl' i x v e1 (w i v e2) e3⟩, I.cell, I.free, I.freeC, I.pin, I.hok, hl.trans I.len⟩
theorem Inv.pins_of {pins' : List (Addr × Obj)} (I : Inv X pins σ H s) (h : ∀ p ∈ pins', s.heap.get? p.1 = some p.2 ∧ H p.1 = none ∧ p.1 ≠ X.env.locals ∧ p.1 ∉ X.fs ∧ ∀ v, p.2.data ≠ .cell v) : Inv X pins' σ H s :=
  ⟨I.ok, I.os, I.bare, I.base, I.loc, I.cell, I.free, I.freeC, fun p hp => (List.mem_append.mp hp).elim (fun z => I.pin p (List.mem_append_left _ z)) (h p), I.hok, I.len⟩
theorem nodup_ix {N : List Str} (hN : N.Nodup) {i j : Nat} {x : Str} (a : N[i]? = some x) (b : N[j]? = some x) : i = j := by
  obtain ⟨h1, e1⟩ := List.getElem?_eq_some_iff.mp a
  obtain ⟨h2, e2⟩ := List.getElem?_eq_some_iff.mp b
  exact (List.getElem_inj hN).mp (e1.trans e2.symm)
theorem store_ok2 {M : Model} {A : Around} {E : Value → Shared → Prop} {i : Nat} {x : Str} {v : V} {u : Value} {Q : Unit → Shared → Prop} (I : Inv X pins σ H s) (hN : X.N.Nodup) (hi : X.N[i]? = some x) (hx : Loc X.env.scope x) (r : RelV v u)
    (h : ∀ s', Inv X pins (σ.set i (some v)) H s' → (∃ a, Heap.SameBut a s.heap s'.heap ∧ (a = X.env.locals ∨ X.env.cells.lookup x = some a)) → Q () s') (hf : X.fn x = true ∨ X.env.scope.names.lookup x = some .local := by trivial) : wpAny M A (storeName X.env x u) Q E s := by
  obtain ⟨m, hn, hl⟩ := id I.loc
  have hcls : (X.env.scope.kind == .class || (X.env.scope.kind == .module && X.env.locals != X.env.globals)) = false := by rw [I.ok.kind]; rfl
  have hiσ : i < σ.length := by rw [I.len]; exact (List.getElem?_eq_some_iff.mp hi).1
  have cne := I.cne
  have tracked : ∀ {a : Addr} {h' : Heap}, (∃ o, s.heap.get? a = some o ∧ H a = none) → Heap.SameBut a s.heap h' → HOk X.prog X.w H h' := fun {a h'} ha hs b ob e => by
    obtain ⟨_, _, hfree⟩ := ha
    refine (I.hok b ob e).stay (fun c w' hc q => (hs.2 c ?_).trans q) (fun _ q => q) fun _ _ q => q
    rintro rfl
    rcases hc with rfl | hc
    · rw [hfree] at e; cases e
    · rw [hfree] at hc; cases hc
  rcases hx with hk | hk
  · refine wpAny_storeName_local hk hn (fun h' hn' hs => ?_) hcls
    obtain ⟨oL, _, _, hoL, _⟩ := id hn
    refine h _ ⟨I.ok, I.os, I.bare, ⟨fun b o e n hb hx => ?_, fun b o e n hb hx => ?_, I.base.free, fun b o e hx => ?_, I.base.tups, I.base.frzs, I.base.tbls⟩, ⟨_, hn', fun j y v' e1 e2 e3 => ?_⟩, fun y c e => ?_, I.free, I.freeC, fun p hp => ?_, tracked ⟨oL, hoL, I.free⟩ hs, by simpa using I.len⟩ ⟨_, hs, .inl rfl⟩
    · exact (hs.2 b (Nat.ne_of_lt (Nat.lt_of_lt_of_le (Heap.lt_size e) I.ok.above))).trans (I.base.keep b o e n hb hx)
    · obtain ⟨sl, e1⟩ := I.base.slot b o e n hb hx
      exact ⟨sl, (hs.2 b (Nat.ne_of_lt (Nat.lt_of_lt_of_le (Heap.lt_size e) I.ok.above))).trans e1⟩
    · obtain ⟨o', e1⟩ := I.base.there b o e hx
      exact ⟨o', (hs.2 b (Nat.ne_of_lt (Nat.lt_of_lt_of_le (Heap.lt_size e) I.ok.above))).trans e1⟩
    · by_cases hj : j = i
      · subst hj
        rw [hi] at e1; cases e1
        rw [List.getElem?_set_self hiσ] at e2
        cases e2
        exact ⟨u, r, .inl ⟨hk, by simp⟩⟩
      · rw [List.getElem?_set_ne (Ne.symm hj)] at e2
        obtain ⟨u', r', q⟩ := hl j y v' e1 e2 e3
        refine ⟨u', r', ?_⟩
        rcases q with ⟨k, e⟩ | ⟨k, c, e, z⟩
        · refine .inl ⟨k, ?_⟩
          have : y ≠ x := fun e => hj (nodup_ix hN e1 (e ▸ hi))
          simp [this, e]
        · exact .inr ⟨k, c, e, z.sameBut hs (cne y c e)⟩
    · obtain ⟨w', z⟩ := I.cell y c e
      exact ⟨w', z.sameBut hs (cne y c e)⟩
    · obtain ⟨e, n, ne, nf, d⟩ := I.pin p hp
      exact ⟨(hs.2 p.1 ne).trans e, n, ne, nf, d⟩
  · have hfn : X.fn x = true := by
      rcases hf with z | z
      · exact z
      · rw [z] at hk; cases hk
    obtain ⟨c, hc⟩ := I.ok.has x (.inl hk)
    obtain ⟨w', z⟩ := I.cell x c hc
    refine wpAny_storeName_cell I.ok.kind hk hc z (fun h' hc' hs => ?_)
    obtain ⟨oc, hoc, hocd⟩ := id z
    refine h { s with heap := h' } ⟨I.ok, I.os, I.bare, ⟨fun b o e n hb hx => ?_, fun b o e n hb hx => ?_, I.base.free, fun b o e hx => ?_, I.base.tups, I.base.frzs, I.base.tbls⟩, ⟨m, hn.sameBut hs (Ne.symm (cne x c hc)), fun j y v' e1 e2 e3 => ?_⟩, fun y c' e => ?_, I.free, I.freeC, fun p hp => ?_, tracked ⟨oc, hoc, I.freeC x c hc⟩ hs, by simpa using I.len⟩ ⟨c, hs, .inr hc⟩
    · exact (hs.2 b (Nat.ne_of_lt (Nat.lt_of_lt_of_le (Heap.lt_size e) (I.ok.cab x c hfn hc)))).trans (I.base.keep b o e n hb hx)
    · obtain ⟨sl, e1⟩ := I.base.slot b o e n hb hx
      exact ⟨sl, (hs.2 b (Nat.ne_of_lt (Nat.lt_of_lt_of_le (Heap.lt_size e) (I.ok.cab x c hfn hc)))).trans e1⟩
    · obtain ⟨o', e1⟩ := I.base.there b o e hx
      exact ⟨o', (hs.2 b (Nat.ne_of_lt (Nat.lt_of_lt_of_le (Heap.lt_size e) (I.ok.cab x c hfn hc)))).trans e1⟩
    · by_cases hj : j = i
      · subst hj
        rw [hi] at e1; cases e1
        rw [List.getElem?_set_self hiσ] at e2
        cases e2
        exact ⟨u, r, .inr ⟨.inl hk, c, hc, hc'⟩⟩
      · rw [List.getElem?_set_ne (Ne.symm hj)] at e2
        obtain ⟨u', r', q⟩ := hl j y v' e1 e2 e3
        refine ⟨u', r', ?_⟩
        rcases q with q | ⟨k, c', e, z'⟩
        · exact .inl q
        · refine .inr ⟨k, c', e, z'.sameBut hs ?_⟩
          rintro rfl
          exact hj (nodup_ix hN e1 (I.ok.inj _ _ _ e hc ▸ hi))
    · by_cases hcc : c' = c
      · subst hcc; exact ⟨_, hc'⟩
      · obtain ⟨w2, z2⟩ := I.cell y c' e
        exact ⟨w2, z2.sameBut hs hcc⟩
    · obtain ⟨e, n, ne, nf, d⟩ := I.pin p hp
      refine ⟨(hs.2 p.1 ?_).trans e, n, ne, nf, d⟩
      intro q
      rw [q, hoc] at e
      have q' : oc = p.2 := Option.some.inj e
      exact d w' (by rw [← q']; exact hocd)
theorem store_ok {M : Model} {A : Around} {E : Value → Shared → Prop} {i : Nat} {x : Str} {v : V} {u : Value} {Q : Unit → Shared → Prop} (I : Inv X pins σ H s) (hN : X.N.Nodup) (hi : X.N[i]? = some x) (hx : Loc X.env.scope x) (r : RelV v u)
    (h : ∀ s', Inv X pins (σ.set i (some v)) H s' → Q () s') (hf : X.fn x = true ∨ X.env.scope.names.lookup x = some .local := by trivial) : wpAny M A (storeName X.env x u) Q E s :=
  store_ok2 I hN hi hx r (fun s' I' _ => h s' I') hf
theorem Inv.call' {s' : Shared} {ch : List Addr} (I : Inv X pins σ H s) (ho : s'.os = s.os) (u : Un (frs X.stack) ch H H' s.heap s'.heap) (hok : HOk X.prog X.w H' s'.heap) (hg : AllBare s'.gens)
    (hch : ∀ b ∈ ch, (b ∈ X.ex ∨ X.s_0.heap.objs.size ≤ b) ∧ b ≠ X.env.locals ∧ (∀ x c, X.env.cells.lookup x = some c → c ≠ b) ∧ ∀ p ∈ X.pn ++ pins, p.1 ≠ b) : Inv X pins σ H' s' := by
  obtain ⟨h', g', d', t', o'⟩ := s'
  have e : o' = s.os := ho
  subst e
  exact I.call (g' := g') (t' := t') (d' := d') u hok hg hch
end
noncomputable abbrev XK := Value → Option Addr → Hp → Prop
noncomputable abbrev St := List (Option V)
noncomputable abbrev VK := V → Hp → Prop
noncomputable abbrev TE := St → Hp → VK → Prop
noncomputable abbrev TT := St → Hp → (Bool → Hp → Prop) → Prop
noncomputable abbrev TA := St → Hp → (List V → Hp → Prop) → Prop
structure Ends where
  nx : St → Hp → Prop
  rt : VK
  bk : St → Hp → Prop := fun _ _ => False
  ct : St → Hp → Prop := fun _ _ => False
noncomputable abbrev TS := Ends → St → Hp → Prop
inductive EP (X : Cx) (pins : List (Addr × Obj)) (σ : St) (Q : VK) (u : Value) (s' : Shared) : Prop
  | mk (v : V) (H' : Hp) (I : Inv X pins σ H' s') (r : RelV v u) (q : Q v H') : EP X pins σ Q u s'
inductive TP (X : Cx) (pins : List (Addr × Obj)) (σ : St) (Q : Bool → Hp → Prop) (b : Bool) (s' : Shared) : Prop
  | mk (H' : Hp) (I : Inv X pins σ H' s') (q : Q b H') : TP X pins σ Q b s'
inductive AP (X : Cx) (pins : List (Addr × Obj)) (σ : St) (Q : List V → Hp → Prop) (us : List Value) (s' : Shared) : Prop
  | mk (vs : List V) (H' : Hp) (I : Inv X pins σ H' s') (r : Vals vs us) (q : Q vs H') : AP X pins σ Q us s'
noncomputable def SP (X : Cx) (pins : List (Addr × Obj)) (D : Ends) (f : Flow) (s' : Shared) : Prop :=
  match f with
  | .next => ∃ σ' H', Inv X pins σ' H' s' ∧ D.nx σ' H'
  | .brk => ∃ σ' H', Inv X pins σ' H' s' ∧ D.bk σ' H'
  | .cont => ∃ σ' H', Inv X pins σ' H' s' ∧ D.ct σ' H'
  | .ret u => ∃ v σ' H', Inv X pins σ' H' s' ∧ RelV v u ∧ D.rt v H'
noncomputable def PE (X : Cx) (e : Expr) (t : TE) : Prop :=
  ∀ (pins : List (Addr × Obj)) (s : Shared) (σ : St) (H : Hp) (Q : VK), Inv X pins σ H s → t σ H Q → wpAny (model X.prog X.w) X.A (eval e X.env) (EP X pins σ Q) X.xe s
noncomputable def PT (X : Cx) (e : Expr) (t : TT) : Prop :=
  ∀ (pins : List (Addr × Obj)) (s : Shared) (σ : St) (H : Hp) (Q : Bool → Hp → Prop), Inv X pins σ H s → t σ H Q → wpAny (model X.prog X.w) X.A (isTrue e X.env (eval e X.env)) (TP X pins σ Q) X.xe s
noncomputable def PW (X : Cx) (e : Expr) (t : TT) : Prop :=
  ∀ (whole : Sem Value) (pins : List (Addr × Obj)) (s : Shared) (σ : St) (H : Hp) (Q : Bool → Hp → Prop), Inv X pins σ H s → t σ H Q → wpAny (model X.prog X.w) X.A (isTrue e X.env whole) (TP X pins σ Q) X.xe s
theorem PW.pt {X : Cx} {e : Expr} {t : TT} (h : PW X e t) : PT X e t := h _
noncomputable def PA (X : Cx) (es : List Expr) (t : TA) : Prop :=
  ∀ (pos : Pos) (pins : List (Addr × Obj)) (s : Shared) (σ : St) (H : Hp) (Q : List V → Hp → Prop), Inv X pins σ H s → t σ H Q → wpAny (model X.prog X.w) X.A (spliced (backTo pos (starEach es X.env))) (AP X pins σ Q) X.xe s
noncomputable def PS (X : Cx) (st : Stmt) (t : TS) : Prop :=
  ∀ (pins : List (Addr × Obj)) (s : Shared) (σ : St) (H : Hp) (D : Ends), Inv X pins σ H s → t D σ H → wpAny (model X.prog X.w) X.A (exec st X.env) (SP X pins D) X.xe s
noncomputable def PSs (X : Cx) (st : List Stmt) (t : TS) : Prop :=
  ∀ (pins : List (Addr × Obj)) (s : Shared) (σ : St) (H : Hp) (D : Ends), Inv X pins σ H s → t D σ H → wpAny (model X.prog X.w) X.A (execs st X.env) (SP X pins D) X.xe s
theorem thn {α : Type} {t : Sem α} {Q Q' : α → Shared → Prop} {M : Model} {A : Around} {E : Value → Shared → Prop} {s : Shared} (h : wpAny M A t Q E s) (hQ : ∀ a s, Q a s → Q' a s) : wpAny M A t Q' E s := wpAny_mono h hQ fun _ _ x => x
end L2
namespace L2
open PySem PySem.Spec PyProof.Rows
section
variable {X : Cx}
inductive tVar (i : Nat) (σ : St) (H : Hp) (Q : VK) : Prop
  | mk (v : V) (e : σ[i]? = some (some v)) (q : Q v H) : tVar i σ H Q
noncomputable def tC (v : V) : TE := fun _ H Q => Q v H
theorem pe_var {i : Nat} {x : Str} {pos : Pos} (hN : X.N[i]? = some x) (hv : Vis X.env.scope x) (hd : (x == ("__debug__" : Str)) = false := by decide) (hcd : (x == ("__classdict__" : Str)) = false := by decide) : PE X (.Name x pos) (tVar i) := by
  intro pins s σ H Q I h
  obtain ⟨v, e, h⟩ := h
  obtain ⟨m, hn, hl⟩ := I.loc
  obtain ⟨u, r, l⟩ := hl i x v hN e hv
  have fin : EP X pins σ Q u s := ⟨v, H, I, r, h⟩
  rcases l with ⟨hk, hm⟩ | ⟨hk, c, hc, hcell⟩
  · exact wpAny_Name (wpAny_loadName_local I.ok.kind hk hn hm fin) hd
  · rcases hk with hk | hk
    · exact wpAny_Name (wpAny_loadName_cell I.ok.kind hk hc hcell fin) hd
    · exact wpAny_Name (wpAny_loadName_free I.ok.kind hk hc hcell fin hcd) hd
theorem pe_int {i j pos} : PE X (.Constant (.int i) j pos) (tC (.int i)) := fun _ _ _ H _ I h => wpAny_Constant_int ⟨.int i, H, I.tok _, ⟨_, rfl⟩, h⟩
noncomputable def Gl (X : Cx) (x : Str) : Prop := X.env.kindOf x = some .globalImplicit
theorem ld_glob {E : Value → Shared → Prop} {pins : List (Addr × Obj)} {s : Shared} {σ : St} {H : Hp} {x : Str} {u : Value} {pos : Pos} {Q : Value → Shared → Prop} (I : Inv X pins σ H s) (hg : Gl X x) (hm : X.mg x = some u) (h : Q u s)
    (hd : (x == ("__debug__" : Str)) = false := by decide) : wpAny (model X.prog X.w) X.A (eval (.Name x pos) X.env) Q E s :=
  Calls.Name_function_global I.ok.kind hg (Calls.loadGlobal_global (by rw [I.ok.glob]; exact I.mod.glob.keeps I.bk) hm h) hd
theorem ld_blt {E : Value → Shared → Prop} {pins : List (Addr × Obj)} {s : Shared} {σ : St} {H : Hp} {x : Str} {u : Value} {pos : Pos} {Q : Value → Shared → Prop} (I : Inv X pins σ H s) (hg : Gl X x) (hm : X.mg x = none) (hv : bootBuiltins x = some u) (h : Q u s)
    (hn : x ≠ "__name__" := by decide) (hd : (x == ("__debug__" : Str)) = false := by decide) : wpAny (model X.prog X.w) X.A (eval (.Name x pos) X.env) Q E s := by
  obtain ⟨mb, h1, h2⟩ := I.mod.blt
  exact Calls.Name_function_global I.ok.kind hg (Calls.loadGlobal_builtin (by rw [I.ok.glob]; exact I.mod.glob.keeps I.bk) hm (by rw [I.ok.blt]; exact h1.keeps I.bk) ((h2 x hn).trans hv) h) hd
theorem pe_glob {x : Str} {v : V} {u : Value} {pos : Pos} (hg : Gl X x) (hm : X.mg x = some u) (r : RelV v u) (hd : (x == ("__debug__" : Str)) = false := by decide) : PE X (.Name x pos) (tC v) :=
  fun _ _ _ H _ I h => ld_glob I hg hm ⟨v, H, I, r, h⟩ hd
variable {a b : Expr} {ta tb : TE} {pos : Pos}
noncomputable def PC (X : Cx) (op : CmpOp) (a b : Expr) (t : TE) : Prop :=
  ∀ (pins : List (Addr × Obj)) (s : Shared) (σ : St) (H : Hp) (Q : VK), Inv X pins σ H s → t σ H Q →
    wpAny (model X.prog X.w) X.A (eval a X.env) (fun v s₁ => wpAny (model X.prog X.w) X.A (eval b X.env) (fun u s₂ => wpAny (model X.prog X.w) X.A (compareOp op v u) (EP X pins σ Q) X.xe s₂) X.xe s₁) X.xe s
inductive xB (x : V) (H : Hp) (Q : Bool → Hp → Prop) : Prop
  | mk (c : Bool) (e : x = .bl c) (q : Q c H) : xB x H Q
noncomputable def tB (t : TE) : TT := fun σ H Q => t σ H fun x H1 => xB x H1 Q
theorem pt_cmp {op : CmpOp} {t : TE} (h : PC X op a b t) (h1 : behindInMarks op b = false := by rfl) : PT X (.Compare a [op] [b] pos) (tB t) := by
  intro pins s σ H Q I hw
  refine wpAny_isTrue_Compare1 (thn (h pins s σ H _ I hw) fun v s1 h1 => thn h1 fun u s2 h2 => thn h2 fun c s3 z__ => ?_) h1
  obtain ⟨x, H1, I1, r1, q1⟩ := z__
  obtain ⟨d, rfl, q⟩ := q1
  cases r1
  exact wpAny_truthy_bool ⟨H1, I1, q⟩
theorem pt_val {e : Expr} {t : TE} (h : PE X e t) (he : ∀ whole, isTrue e X.env whole = (do let v ← whole; standAt e.pos; holding [v] (truthy v)) := by intro _; rfl) : PT X e (tB t) := by
  intro pins s σ H Q I hw
  refine isTrue_plain (thn (h pins s σ H _ I hw) fun v s1 z__ => ?_) (he _)
  obtain ⟨x, H1, I1, r1, q1⟩ := z__
  obtain ⟨d, rfl, q⟩ := q1
  cases r1
  exact wpAny_truthy_bool ⟨H1, I1, q⟩
variable {tA tB' : TT} {rest : List Expr}
noncomputable def tAnd (t u : TT) : TT := fun σ H Q => t σ H fun c H1 => if c = true then u σ H1 Q else Q false H1
noncomputable def tOr (t u : TT) : TT := fun σ H Q => t σ H fun c H1 => if c = true then Q true H1 else u σ H1 Q
noncomputable def tNot (t : TT) : TT := fun σ H Q => t σ H fun c H1 => Q (!c) H1
theorem pw_and1 (ha : PT X a tA) : PW X (.BoolOp .And [a] pos) tA := by
  intro wh pins s σ H Q I h
  refine isTrue_and (thn (ha pins s σ H Q I h) fun c s1 e => ?_)
  cases c with
  | true => exact isTrue_and_nil e
  | false => exact e
theorem pw_or1 (ha : PT X a tA) : PW X (.BoolOp .Or [a] pos) tA := by
  intro wh pins s σ H Q I h
  refine isTrue_or (thn (ha pins s σ H Q I h) fun c s1 e => ?_)
  cases c with
  | false => exact isTrue_or_nil e
  | true => exact e
theorem pw_and (ha : PT X a tA) (hb : PW X (.BoolOp .And (b :: rest) pos) tB') : PW X (.BoolOp .And (a :: b :: rest) pos) (tAnd tA tB') := by
  intro wh pins s σ H Q I h
  refine isTrue_and (thn (ha pins s σ H _ I h) fun c s1 z__ => ?_)
  obtain ⟨H1, I1, q1⟩ := z__
  cases c with
  | true => exact hb wh pins s1 σ H1 Q I1 q1
  | false => exact ⟨H1, I1, q1⟩
theorem pw_or (ha : PT X a tA) (hb : PW X (.BoolOp .Or (b :: rest) pos) tB') : PW X (.BoolOp .Or (a :: b :: rest) pos) (tOr tA tB') := by
  intro wh pins s σ H Q I h
  refine isTrue_or (thn (ha pins s σ H _ I h) fun c s1 z__ => ?_)
  obtain ⟨H1, I1, q1⟩ := z__
  cases c with
  | true => exact ⟨H1, I1, q1⟩
  | false => exact hb wh pins s1 σ H1 Q I1 q1
theorem pt_not (ha : PT X a tA) : PT X (.UnaryOp .Not a pos) (tNot tA) := by
  intro pins s σ H Q I h
  exact isTrue_not (thn (ha pins s σ H (fun c H1 => Q (!c) H1) I h) fun c s1 ⟨H1, I1, q1⟩ => ⟨H1, I1, q1⟩)
noncomputable def tAndV (ta tb : TE) : TE := fun σ H Q => ta σ H fun x H1 => ∃ c, x = .bl c ∧ if c = true then tb σ H1 Q else Q (.bl false) H1
theorem pe_one {op} {t : TE} (h : PE X a t) : PE X (.BoolOp op [a] pos) t := fun pins s σ H Q I hw => BoolOp_one (h pins s σ H Q I hw)
theorem pe_and (ha : PE X a ta) (hb : PE X (.BoolOp .And (b :: rest) pos) tb) : PE X (.BoolOp .And (a :: b :: rest) pos) (tAndV ta tb) := by
  intro pins s σ H Q I h
  refine BoolOp_and (thn (ha pins s σ H _ I h) fun v s1 z__ => ?_)
  obtain ⟨x, H1, I1, r1, q1⟩ := z__
  obtain ⟨c, rfl, q1⟩ := q1
  cases r1
  refine wpAny_truthy_bool ?_
  cases c with
  | true => exact hb pins s1 σ H1 Q I1 q1
  | false => exact ⟨.bl false, H1, I1, rfl, q1⟩
noncomputable def tIf (t : TT) (ta tb : TE) : TE := fun σ H Q => t σ H fun c H1 => if c = true then ta σ H1 Q else tb σ H1 Q
theorem pe_ifExp {c : Expr} (hc : PT X c tA) (ha : PE X a ta) (hb : PE X b tb) : PE X (.IfExp c a b pos) (tIf tA ta tb) := by
  intro pins s σ H Q I h
  refine wpAny_IfExp (thn (hc pins s σ H _ I h) fun d s1 z__ => ?_)
  obtain ⟨H1, I1, q1⟩ := z__
  cases d with
  | true => exact ha pins s1 σ H1 Q I1 q1
  | false => exact hb pins s1 σ H1 Q I1 q1
end
end L2
namespace L2
open PySem PySem.Spec PyProof.Rows
noncomputable def SqL (K : PySem.W.Frag) (H : Hp) (a : Addr) (xs : List V) : Prop :=
  Rd H a (.lst xs) ∨
    ∃ (o : Obj) (its : Array Value) (n : Nat), K.lookup a = some o ∧ o.cls = .type "list" ∧ o.dict = none ∧ o.data = .seq its n ∧ its.size ≤ sizeLine ∧ Vals xs its.toList
noncomputable def SqT (K : PySem.W.Frag) (H : Hp) (a : Addr) (xs : List V) : Prop :=
  Rd H a (.tup xs) ∨
    ∃ (o : Obj) (its : Array Value) (n : Nat), K.lookup a = some o ∧ o.cls = .type "tuple" ∧ o.data = .seq its n ∧ its.size ≤ sizeLine ∧ Vals xs its.toList
noncomputable def absV : Value → Option V
  | .none => some .non
  | .bool b => some (.bl b)
  | .int i _ => some (.int i)
  | .str x _ => some (.str x)
  | .bytes b _ => some (.byt b)
  | .float b _ => some (.flt b)
  | .ref a => some (.ref a)
  | .type n => some (.ty n)
  | _ => none
theorem RelV.abs {x : V} {u : Value} (r : RelV x u) : absV u = some x := by
  cases x with
  | non => cases r; rfl
  | bl _ => cases r; rfl
  | int _ => obtain ⟨t, rfl⟩ := r; rfl
  | str _ => obtain ⟨t, rfl⟩ := r; rfl
  | byt _ => obtain ⟨t, rfl⟩ := r; rfl
  | flt _ => obtain ⟨t, rfl⟩ := r; rfl
  | ref _ => cases r; rfl
  | ty _ => cases r; rfl
theorem RelV.inj {x y : V} {u : Value} (r : RelV x u) (q : RelV y u) : x = y := Option.some.inj (r.abs.symm.trans q.abs)
theorem Vals.inj {xs ys : List V} {us : List Value} (h : Vals xs us) (h' : Vals ys us) : xs = ys := by
  induction h generalizing ys with
  | nil =>
    cases h'
    rfl
  | cons r _ ih =>
    cases h' with
    | cons r' t' => rw [r.inj r', ih t']
section
variable {X : Cx} {pins : List (Addr × Obj)} {σ : St} {H : Hp} {s : Shared} {a : Addr} {xs ys : List V}
theorem SqL.of {K : PySem.W.Frag} (h : H a = some (.lst xs)) : SqL K H a xs := .inl (.inl h)
theorem SqT.of {K : PySem.W.Frag} (h : H a = some (.tup xs)) : SqT K H a xs := .inl (.inl h)
theorem Inv.list (I : Inv X pins σ H s) (h : SqL X.K H a xs) : ∃ its : List Value, Vals xs its ∧ PlainL s.heap a its.toArray ∧ xs.length ≤ sizeLine := by
  rcases h with h | ⟨o, its, n, hk, hc, hd, hs, hz, r⟩
  · obtain ⟨z, its, n, r, e⟩ := h.ok I.hok
    exact ⟨its, r, ⟨_, n, e, rfl, rfl, rfl⟩, z⟩
  · refine ⟨its.toList, r, ⟨o, n, I.kIn a o hk, hc, hd, by simpa using hs⟩, ?_⟩
    have e := r.length
    simp only [Array.length_toList] at e
    omega
theorem Inv.tuple (I : Inv X pins σ H s) (h : SqT X.K H a xs) : ∃ its : List Value, Vals xs its ∧ IsTup s.heap a its.toArray ∧ xs.length ≤ sizeLine := by
  rcases h with h | ⟨o, its, n, hk, hc, hs, hz, r⟩
  · obtain ⟨z, its, r, p⟩ := h.ok I.hok
    exact ⟨its, r, p, z⟩
  · refine ⟨its.toList, r, ⟨o, I.kIn a o hk, hc, n, by simpa using hs⟩, ?_⟩
    have e := r.length
    simp only [Array.length_toList] at e
    omega
theorem Inv.list_inj (I : Inv X pins σ H s) (h : SqL X.K H a xs) (h' : SqL X.K H a ys) : xs = ys := by
  obtain ⟨its, r, ⟨o, n, e, _, _, d⟩, _⟩ := I.list h
  obtain ⟨its', r', ⟨o', n', e', _, _, d'⟩, _⟩ := I.list h'
  rw [e] at e'; cases e'
  rw [d] at d'
  injection d' with d1 _
  have : its = its' := by simpa using congrArg Array.toList d1
  subst this
  exact r.inj r'
end
noncomputable abbrev Cx.wish (X : Cx) (E : Value → Shared → Prop) : Cx := { X with xe := E }
noncomputable abbrev Cx.nox (X : Cx) : Cx := X.wish fun _ _ => False
theorem Cx.Ok.wish {X : Cx} (ok : X.Ok) (E : Value → Shared → Prop) : (X.wish E).Ok :=
  ⟨ok.mod, ok.kind, ok.glob, ok.blt, ok.above, ok.inj, ok.has, ok.cab, ok.hd, ok.frames, ok.stk, ok.exf, ok.bs, ok.bsz, ok.noex, ok.exfs, ok.funs, ok.frf⟩
theorem Cx.Ok.unwish {X : Cx} {E : Value → Shared → Prop} (ok : (X.wish E).Ok) : X.Ok :=
  ⟨ok.mod, ok.kind, ok.glob, ok.blt, ok.above, ok.inj, ok.has, ok.cab, ok.hd, ok.frames, ok.stk, ok.exf, ok.bs, ok.bsz, ok.noex, ok.exfs, ok.funs, ok.frf⟩
section
variable {X : Cx} {pins : List (Addr × Obj)} {σ : St} {H : Hp} {s : Shared} {E : Value → Shared → Prop}
theorem Inv.wish (I : Inv X pins σ H s) (E : Value → Shared → Prop) : Inv (X.wish E) pins σ H s := ⟨I.ok.wish E, I.os, I.bare, I.base, I.loc, I.cell, I.free, I.freeC, I.pin, I.hok, I.len⟩
theorem Inv.unwish (I : Inv (X.wish E) pins σ H s) : Inv X pins σ H s := ⟨I.ok.unwish, I.os, I.bare, I.base, I.loc, I.cell, I.free, I.freeC, I.pin, I.hok, I.len⟩
theorem SP.unwish {D : Ends} {f : Flow} {s' : Shared} (h : SP (X.wish E) pins D f s') : SP X pins D f s' := by
  cases f with
  | next => obtain ⟨σ', H', I, q⟩ := h; exact ⟨σ', H', I.unwish, q⟩
  | brk => obtain ⟨σ', H', I, q⟩ := h; exact ⟨σ', H', I.unwish, q⟩
  | cont => obtain ⟨σ', H', I, q⟩ := h; exact ⟨σ', H', I.unwish, q⟩
  | ret u => obtain ⟨v, σ', H', I, r, q⟩ := h; exact ⟨v, σ', H', I.unwish, r, q⟩
theorem PSs.nox {st : List Stmt} {t : TS} (h : PSs X.nox st t) : PSs X st t := fun pins s σ H D I hw =>
  wpAny_mono (h pins s σ H D (I.wish _) hw) (fun _ _ q => q.unwish) fun _ _ z => False.elim z
end
section
variable {X : Cx} {st : Stmt} {rest : List Stmt} {t u : TS} {e : Expr} {te : TE} {pos : Pos}
noncomputable def tNext : TS := fun D σ H => D.nx σ H
noncomputable def tSeq (t u : TS) : TS := fun D σ H => t { D with nx := u D } σ H
theorem pss_nil : PSs X [] tNext := fun _ _ σ H _ I h => wpAny_execs_nil ⟨σ, H, I, h⟩
theorem pss_cons (h1 : PS X st t) (h2 : PSs X rest u) : PSs X (st :: rest) (tSeq t u) := by
  intro pins s σ H D I h
  refine wpAny_execs_cons (thn (h1 pins s σ H { D with nx := u D } I h) fun f s1 q => ?_)
  cases f with
  | next =>
    obtain ⟨σ', H', I', q⟩ := q
    exact h2 pins s1 σ' H' D I' q
  | ret v => exact q
  | brk => exact q
  | cont => exact q
theorem pss_one (h1 : PS X st t) : PSs X [st] t := by
  intro pins s σ H D I h
  refine wpAny_execs_cons (thn (h1 pins s σ H D I h) fun f s1 q => ?_)
  cases f with
  | next => exact wpAny_execs_nil q
  | ret v => exact q
  | brk => exact q
  | cont => exact q
theorem Inv.quiet {pins : List (Addr × Obj)} {σ : St} {H : Hp} {s : Shared} (I : Inv X pins σ H s) : interactive X.env = false := by simp [interactive, I.ok.kind]
noncomputable def tDrop (te : TE) : TS := fun D σ H => te σ H fun _ H1 => D.nx σ H1
theorem ps_expr (he : PE X e te) (hs : swapsWith e none pos.line X.env = pure false := by rfl) : PS X (.Expr e pos) (tDrop te) := by
  intro pins s σ H D I h
  exact wpAny_Expr_any (thn (he pins s σ H _ I h) fun v s1 ⟨x, H1, I1, r1, q1⟩ => ⟨σ, H1, I1, q1⟩) I.quiet hs
noncomputable def tRet (te : TE) : TS := fun D σ H => te σ H D.rt
theorem ps_ret (he : PE X e te) : PS X (.Return (some e) pos) (tRet te) := by
  intro pins s σ H D I h
  exact wpAny_Return_some (thn (he pins s σ H _ I h) fun v s1 ⟨x, H1, I1, r1, q1⟩ => ⟨x, σ, H1, I1, r1, q1⟩)
noncomputable def tIfS (c : TT) (t u : TS) : TS := fun D σ H => c σ H fun b H1 => if b = true then t D σ H1 else u D σ H1
theorem ps_if {c : Expr} {a b : List Stmt} {tc : TT} (hc : PT X c tc) (ha : PSs X a t) (hb : PSs X b u) : PS X (.If c a b pos) (tIfS tc t u) := by
  intro pins s σ H D I h
  refine wpAny_If (thn (hc pins s σ H _ I h) fun d s1 z__ => ?_)
  obtain ⟨H1, I1, q1⟩ := z__
  cases d with
  | true => exact ha pins s1 σ H1 D I1 q1
  | false => exact hb pins s1 σ H1 D I1 q1
end
noncomputable abbrev TG := V → St → Hp → (St → Hp → Prop) → Prop
noncomputable abbrev TGs := List V → St → Hp → (St → Hp → Prop) → Prop
noncomputable def PG (X : Cx) (target : Expr) (t : TG) : Prop :=
  ∀ (pins : List (Addr × Obj)) (s : Shared) (σ : St) (H : Hp) (v : V) (u : Value) (Q : St → Hp → Prop), Inv X pins σ H s → RelV v u → t v σ H Q →
    wpAny (model X.prog X.w) X.A (assign target X.env u) (fun _ s' => ∃ σ' H', Inv X pins σ' H' s' ∧ Q σ' H') X.xe s
noncomputable def PGs (X : Cx) (ts : List Expr) (t : TGs) : Prop :=
  ∀ (pins : List (Addr × Obj)) (s : Shared) (σ : St) (H : Hp) (vs : List V) (us : List Value) (Q : St → Hp → Prop), Inv X pins σ H s → Vals vs us → t vs σ H Q →
    wpAny (model X.prog X.w) X.A (assignInOrder ((assignEach ts X.env).map (·.2)) us) (fun _ s' => ∃ σ' H', Inv X pins σ' H' s' ∧ Q σ' H') X.xe s
noncomputable abbrev TSet := V → V → V → Hp → (Hp → Prop) → Prop
noncomputable def PSet (X : Cx) (t : TSet) : Prop :=
  ∀ (pins : List (Addr × Obj)) (s : Shared) (σ : St) (H : Hp) (o i v : V) (ov iv u : Value) (Q : Hp → Prop), Inv X pins σ H s → RelV o ov → RelV i iv → RelV v u → t o i v H Q →
    wpAny (model X.prog X.w) X.A (setItem ov iv u) (fun _ s' => ∃ H', Inv X pins σ H' s' ∧ Q H') X.xe s
noncomputable abbrev TIp := V → V → Hp → VK → Prop
noncomputable def PIp (X : Cx) (op : Operator) (t : TIp) : Prop :=
  ∀ (pins : List (Addr × Obj)) (s : Shared) (σ : St) (H : Hp) (x y : V) (v u : Value) (Q : VK), Inv X pins σ H s → RelV x v → RelV y u → t x y H Q →
    wpAny (model X.prog X.w) X.A (inplaceOp op v u) (EP X pins σ Q) X.xe s
section
variable {X : Cx} {pos : Pos}
noncomputable def gName (i : Nat) : TG := fun v σ H Q => Q (σ.set i (some v)) H
theorem pg_name {i : Nat} {x : Str} (hN : X.N.Nodup) (hi : X.N[i]? = some x) (hx : Loc X.env.scope x) (hf : X.fn x = true ∨ X.env.scope.names.lookup x = some .local := by trivial) : PG X (.Name x pos) (gName i) := by
  intro pins s σ H v u Q I r h
  exact wpAny_assign_Name (store_ok I hN hi hx r (fun s' I' => ⟨_, H, I', h⟩) hf)
noncomputable def gNil : TGs := fun vs σ H Q => vs = [] ∧ Q σ H
inductive gCons (t : TG) (u : TGs) (vs : List V) (σ : St) (H : Hp) (Q : St → Hp → Prop) : Prop
  | mk (v : V) (r : List V) (e : vs = v :: r) (q : t v σ H fun σ' H' => u r σ' H' Q) : gCons t u vs σ H Q
theorem pgs_nil : PGs X [] gNil := by
  intro pins s σ H vs us Q I r h
  obtain ⟨e, h⟩ := h
  subst e
  cases r
  exact assignInOrder_nil ⟨σ, H, I, h⟩
theorem pgs_cons {e : Expr} {es : List Expr} {t : TG} {u : TGs} (h1 : PG X e t) (h2 : PGs X es u)
    (hs : (assignEach (e :: es) X.env).map (·.2) = assign e X.env :: (assignEach es X.env).map (·.2) := by rfl) : PGs X (e :: es) (gCons t u) := by
  intro pins s σ H vs us Q I r h
  obtain ⟨v, vr, e1, h⟩ := h
  subst e1
  cases r with
  | cons r rr =>
    rw [hs]
    refine assignInOrder_cons (thn (h1 pins s σ H _ _ _ I r h) fun _ s1 z__ => ?_)
    obtain ⟨σ1, H1, I1, q1⟩ := z__
    exact h2 pins s1 σ1 H1 _ _ Q I1 rr q1
inductive gTup (K : PySem.W.Frag) (n : Nat) (t : TGs) (v : V) (σ : St) (H : Hp) (Q : St → Hp → Prop) : Prop
  | mk (a : Addr) (xs : List V) (e : v = .ref a) (s : SqT K H a xs) (l : xs.length = n) (q : t xs σ H Q) : gTup K n t v σ H Q
theorem pg_tup {es : List Expr} {k : Nat} {t : TGs} {n : Nat} (hc : X.calm = true) (h : PGs X es t)
    (hn : (assignEach es X.env).length = n := by rfl) (hst : (assignEach es X.env).findIdx? (·.1) = none := by rfl) : PG X (.Tuple es k pos) (gTup X.K n t) := by
  intro pins s σ H v u Q I r hw
  obtain ⟨a, xs, e1, hq, hl, hw⟩ := hw
  subst e1
  cases r
  obtain ⟨its, rv, ht, hz⟩ := I.tuple hq
  refine assign_Tuple_tuple (I.ok.hd hc) ht (by simp [hn, ← hl, rv.length]) hst fun h' hx => ?_
  have I1 : Inv X pins σ H { s with heap := h' } := I.kept (t' := s.toks) fun b o e => hx b o (Nat.ne_of_lt (Heap.lt_size e)) e
  exact h pins _ σ H xs _ Q I1 (by simpa using rv) hw
noncomputable def tAsg (te : TE) (g : TG) : TS := fun D σ H => te σ H fun x H1 => g x σ H1 D.nx
theorem ps_set {i : Nat} {x : Str} {e : Expr} {te : TE} {pos' : Pos} (hN : X.N.Nodup) (hi : X.N[i]? = some x) (hx : Loc X.env.scope x) (he : PE X e te) (hs : swapsWith e (some (.Name x pos')) pos.line X.env = pure false := by rfl) (hf : X.fn x = true ∨ X.env.scope.names.lookup x = some .local := by trivial) :
    PS X (.Assign [.Name x pos'] e pos) (tAsg te (gName i)) := by
  intro pins s σ H D I h
  refine wpAny_Assign_Name (thn (he pins s σ H _ I h) fun v s1 z__ => ?_) hs
  obtain ⟨y, H1, I1, r1, q1⟩ := z__
  exact store_ok I1 hN hi hx r1 (fun s2 I2 => ⟨_, H1, I2, q1⟩) hf
noncomputable def tAug (i : Nat) (te : TE) (ti : TIp) : TS := fun D σ H => ∃ x, σ[i]? = some (some x) ∧ te σ H fun y H1 => ti x y H1 fun z H2 => D.nx (σ.set i (some z)) H2
theorem ps_aug {i : Nat} {x : Str} {e : Expr} {te : TE} {op : Operator} {ti : TIp} {pos' : Pos} (hN : X.N.Nodup) (hi : X.N[i]? = some x) (hx : Loc X.env.scope x) (he : PE X e te) (ho : PIp X op ti) (hf : X.fn x = true ∨ X.env.scope.names.lookup x = some .local := by trivial) :
    PS X (.AugAssign (.Name x pos') op e pos) (tAug i te ti) := by
  intro pins s σ H D I h
  obtain ⟨v, e1, h⟩ := h
  obtain ⟨m, hn, hl⟩ := I.loc
  have vis : Vis X.env.scope x := by rcases hx with k | k; exact .inl k; exact .inr (.inl k)
  obtain ⟨u, r, l⟩ := hl i x v hi e1 vis
  refine wpAny_AugAssign_Name ?_
  have go : wpAny (model X.prog X.w) X.A (eval e X.env) (fun w s₂ => wpAny (model X.prog X.w) X.A (inplaceOp op u w) (fun r s₃ => wpAny (model X.prog X.w) X.A (storeName X.env x r) (fun _ => SP X pins D .next) X.xe s₃) X.xe s₂) X.xe s := by
    refine thn (he pins s σ H _ I h) fun w s1 z__ => ?_
    obtain ⟨y, H1, I1, r1, q1⟩ := z__
    refine thn (ho pins s1 σ H1 v y u w _ I1 r r1 q1) fun z s2 z__ => ?_
    obtain ⟨zv, H2, I2, r2, q2⟩ := z__
    exact store_ok I2 hN hi hx r2 (fun s3 I3 => ⟨_, H2, I3, q2⟩) hf
  rcases l with ⟨hk, hm⟩ | ⟨hk, c, hc, hcell⟩
  · exact wpAny_loadName_local I.ok.kind hk hn hm go
  · rcases hk with hk | hk
    · exact wpAny_loadName_cell I.ok.kind hk hc hcell go
    · rcases hx with k | k
      · have : X.env.scope.names.lookup x = some .free := hk
        rw [k] at this; cases this
      · have : X.env.scope.names.lookup x = some .free := hk
        rw [k] at this; cases this
noncomputable def tAugS (to ti te : TE) (tget : V → V → Hp → VK → Prop) (tip : TIp) (tset : TSet) : TS := fun D σ H => to σ H fun o H1 => ti σ H1 fun i H2 => tget o i H2 fun x H3 => te σ H3 fun y H4 => tip x y H4 fun z H5 => tset o i z H5 fun H6 => D.nx σ H6
noncomputable def PGet (X : Cx) (t : V → V → Hp → VK → Prop) : Prop :=
  ∀ (pins : List (Addr × Obj)) (s : Shared) (σ : St) (H : Hp) (o i : V) (ov iv : Value) (Q : VK), Inv X pins σ H s → RelV o ov → RelV i iv → t o i H Q →
    wpAny (model X.prog X.w) X.A (getItem ov iv) (EP X pins σ Q) X.xe s
theorem ps_augS {o i e : Expr} {to ti te : TE} {tget : V → V → Hp → VK → Prop} {tip : TIp} {tset : TSet} {op : Operator} {tpos : Pos} (ho : PE X o to) (hi : PE X i ti) (hg : PGet X tget) (he : PE X e te) (hp : PIp X op tip) (hs : PSet X tset)
    (ha : ∀ ov iv new, augStore i ov iv new = (do holding [new, ov, iv] (setItem ov iv new); release [new, ov, iv] []; pure .next) := by intros; rfl) : PS X (.AugAssign (.Subscript o i tpos) op e pos) (tAugS to ti te tget tip tset) := by
  intro pins s σ H D I h
  refine wpAny_AugAssign_SubscriptAny (thn (ho pins s σ H _ I h) fun ov s1 z__ => ?_) ha
  obtain ⟨x1, H1, I1, r1, q1⟩ := z__
  refine thn (hi pins s1 σ H1 _ I1 q1) fun iv s2 z__ => ?_
  obtain ⟨x2, H2, I2, r2, q2⟩ := z__
  refine thn (hg pins s2 σ H2 x1 x2 ov iv _ I2 r1 r2 q2) fun old s3 z__ => ?_
  obtain ⟨x3, H3, I3, r3, q3⟩ := z__
  refine thn (he pins s3 σ H3 _ I3 q3) fun v s4 z__ => ?_
  obtain ⟨x4, H4, I4, r4, q4⟩ := z__
  refine thn (hp pins s4 σ H4 x3 x4 old v _ I4 r3 r4 q4) fun new s5 z__ => ?_
  obtain ⟨x5, H5, I5, r5, q5⟩ := z__
  exact thn (hs pins s5 σ H5 x1 x2 x5 ov iv new _ I5 r1 r2 r5 q5) fun _ s6 ⟨H6, I6, q6⟩ => ⟨σ, H6, I6, q6⟩
inductive ipI (f : Int → Int → Int) (x y : V) (H : Hp) (Q : VK) : Prop
  | mk (i j : Int) (e1 : x = .int i) (e2 : y = .int j) (q : Q (.int (f i j)) H) : ipI f x y H Q
theorem ip_add : PIp X .Add (ipI fun i j => i + j) := by
  intro pins s σ H x y v u Q I r1 r2 h
  obtain ⟨i, j, e1, e2, q⟩ := h
  subst e1; subst e2
  obtain ⟨t, rfl⟩ := r1
  obtain ⟨t', rfl⟩ := r2
  exact iadd_int ⟨.int _, H, I.tok _, ⟨_, rfl⟩, q⟩
theorem ip_sub : PIp X .Sub (ipI fun i j => i - j) := by
  intro pins s σ H x y v u Q I r1 r2 h
  obtain ⟨i, j, e1, e2, q⟩ := h
  subst e1; subst e2
  obtain ⟨t, rfl⟩ := r1
  obtain ⟨t', rfl⟩ := r2
  exact isub_int ⟨.int _, H, I.tok _, ⟨_, rfl⟩, q⟩
end
section
variable {X : Cx} {pos : Pos}
noncomputable def tWhile (c : TT) (tb : TS) : TS := fun D σ H => ∃ W : Nat → St → Hp → Prop, (∃ m, W m σ H) ∧ ∀ m σ H, W m σ H →
  c σ H fun b H1 => if b = true then ∃ N : St → Hp → Prop, (∀ σ' H', N σ' H' → ∃ m', m' < m ∧ W m' σ' H') ∧ tb { D with nx := N, ct := N, bk := D.nx } σ H1 else D.nx σ H1
theorem ps_while {c : Expr} {body : List Stmt} {tc : TT} {tb : TS} (hp : PassesOwn (model X.prog X.w) X.A X.env X.xe) (hc : PT X c tc) (hb : PSs X body tb) : PS X (.While c body [] pos) (tWhile tc tb) := by
  intro pins s σ H D I h
  obtain ⟨W, ⟨m0, w0⟩, turn⟩ := h
  refine wpAny_While (codeAny_whileLoop (fun n s' => ∃ σ' H', Inv X pins σ' H' s' ∧ W n σ' H') ?_ m0 ⟨σ, H, I, w0⟩)
  rintro n s1 ⟨σ1, H1, I1, w1⟩
  refine wpAny_passesOwn hp (thn (hc pins s1 σ1 H1 _ I1 (turn n σ1 H1 w1)) fun b s2 z__ => ?_)
  obtain ⟨H2, I2, q2⟩ := z__
  cases b with
  | true =>
    obtain ⟨N, hN, q2⟩ := q2
    rw [if_pos rfl]
    refine wpAny_passesOwn hp (thn (hb pins s2 σ1 H2 _ I2 q2) fun f s3 q3 => ?_)
    cases f with
    | next =>
      obtain ⟨σ3, H3, I3, n3⟩ := q3
      obtain ⟨m', hm, w3⟩ := hN σ3 H3 n3
      exact ⟨m', hm, σ3, H3, I3, w3⟩
    | cont =>
      obtain ⟨σ3, H3, I3, n3⟩ := q3
      obtain ⟨m', hm, w3⟩ := hN σ3 H3 n3
      exact ⟨m', hm, σ3, H3, I3, w3⟩
    | brk => exact q3
    | ret v => exact q3
  | false =>
    rw [if_neg Bool.false_ne_true]
    exact wpAny_execs_nil ⟨σ1, H2, I2, q2⟩
end
structure It where
  go : Nat → Hp → Prop
  yld : Nat → Hp → V → Hp → Prop
  stop : Nat → Hp → Prop
noncomputable def FpOk (X : Cx) (pins : List (Addr × Obj)) (H : Hp) (b : Addr) : Prop :=
  H b = none ∧ b ≠ X.env.locals ∧ b ∉ X.fs ∧ (b ∈ X.ex ∨ X.s_0.heap.objs.size ≤ b) ∧ (∀ x c, X.env.cells.lookup x = some c → c ≠ b) ∧ ∀ p ∈ X.pn ++ pins, p.1 ≠ b
theorem Inv.fpOk {X : Cx} {pins : List (Addr × Obj)} {σ : St} {H H' : Hp} {s : Shared} {b : Addr} (I : Inv X pins σ H s) (hb : s.heap.objs.size ≤ b) (hn : H' b = none) : FpOk X pins H' b := by
  refine ⟨hn, Nat.ne_of_gt (Nat.lt_of_lt_of_le I.lt hb), I.nofs hb, .inr (Nat.le_trans I.sz hb), fun x c e z => ?_, fun p hp z => ?_⟩
  · obtain ⟨v, q⟩ := I.cell x c e
    exact absurd (Nat.lt_of_lt_of_le q.lt (by rw [z]; exact hb)) (Nat.lt_irrefl _)
  · exact absurd (Nat.lt_of_lt_of_le (Heap.lt_size (I.pin p hp).1) (by rw [z]; exact hb)) (Nat.lt_irrefl _)
structure Turn (P : Program) (w : World) (K : PySem.W.Frag) (tg : Expr) (J : It) (fp : List Addr) (it : Addr) (tn : Nat → Heap → Prop) : Prop where
  mem : it ∈ fp
  obj : ∀ i h, tn i h → ∀ b ∈ fp, ∃ o, h.get? b = some o ∧ ∀ v, o.data ≠ .cell v
  keep : ∀ i h h', tn i h → (∀ b ∈ fp, ∀ o, h.get? b = some o → h'.get? b = some o) → tn i h'
  item : ∀ (X : Cx), X.prog = P → X.w = w → X.K = K → X.calm = true → ∀ (i : Nat) (pins : List (Addr × Obj)) (s : Shared) (σ : St) (H : Hp) (E : Value → Shared → Prop), Inv X pins σ H s → (∀ b ∈ fp, FpOk X pins H b) → tn i s.heap → J.go i H →
    wpAny (model P w) X.A (pyNext (.ref it)) (fun r s1 => ∃ u, r = some u ∧
      wpAny (model P w) X.A (letOwnedTupleGo tg (.ref it) u) (fun _ s2 => ∃ x H', Inv X pins σ H' s2 ∧ RelV x u ∧ J.yld i H x H' ∧ tn (i + 1) s2.heap ∧ ∀ b ∈ fp, H' b = none) E s1) E s
  done : ∀ (X : Cx), X.prog = P → X.w = w → X.K = K → X.calm = true → ∀ (i : Nat) (pins : List (Addr × Obj)) (s : Shared) (σ : St) (H : Hp) (E : Value → Shared → Prop), Inv X pins σ H s → (∀ b ∈ fp, FpOk X pins H b) → tn i s.heap → J.stop i H →
    wpAny (model P w) X.A (pyNext (.ref it)) (fun r s1 => r = none ∧ Inv X pins σ H s1) E s
  self : ∀ (A : Around) (i : Nat) (s : Shared) (Q : Value → Shared → Prop) (E : Value → Shared → Prop), tn i s.heap → Q (.ref it) s → wpAny (model P w) A (pyIter (.ref it)) Q E s
noncomputable abbrev TI := St → Hp → (It → Hp → Prop) → Prop
noncomputable def PIE (X : Cx) (pins : List (Addr × Obj)) (σ : St) (tg : Expr) (R : It → Hp → Prop) (itv : Value) (s2 : Shared) : Prop :=
  ∃ (it : Addr) (fp : List Addr) (tn : Nat → Heap → Prop) (J : It) (H' : Hp), itv = .ref it ∧ Inv X pins σ H' s2 ∧ Turn X.prog X.w X.K tg J fp it tn ∧ tn 0 s2.heap ∧ (∀ b ∈ fp, FpOk X pins H' b) ∧ R J H'
noncomputable def PI (X : Cx) (tg iter : Expr) (wi : TI) : Prop :=
  ∀ (pins : List (Addr × Obj)) (s : Shared) (σ : St) (H : Hp) (R : It → Hp → Prop), Inv X pins σ H s → wi σ H R →
    wpAny (model X.prog X.w) X.A (eval iter X.env) (fun v s1 => wpAny (model X.prog X.w) X.A (pyIter v) (PIE X pins σ tg R) X.xe s1) X.xe s
theorem go_of {M : Model} {A : Around} {E : Value → Shared → Prop} {s : Shared} {tg : Expr} {it : Addr} {u : Value} {o : Obj} {n : String} {vs : Array Value} {Q : Unit → Shared → Prop} (ho : s.heap.get? it = some o) (hc : o.cls = .type n) (hd : o.data = .fields vs)
    (hn : ["enumerate", "zip", "dict_itemiterator", "dict_reverseitemiterator", "odict_iterator", "itertools.zip_longest", "itertools.pairwise"].contains n = false) (hQ : Q () s) : wpAny M A (letOwnedTupleGo tg (.ref it) u) Q E s := by
  unfold letOwnedTupleGo
  cases tg <;> first
    | exact wpAny_pure hQ
    | (cases u <;> first
        | exact wpAny_pure hQ
        | (refine wpAny_bind (wpAny_load ho ?_)
           rw [hc, hd]
           show wpAny M A (if (["enumerate", "zip", "dict_itemiterator", "dict_reverseitemiterator", "odict_iterator", "itertools.zip_longest", "itertools.pairwise"].contains n && vs[0]? == some (rawInt _)) = true then _ else _) Q E s
           rw [if_neg (by intro h; rw [hn, Bool.false_and] at h; cases h)]
           exact wpAny_pure hQ))
noncomputable def Itl (K : PySem.W.Frag) (a : Addr) : It :=
  ⟨fun i H => ∃ xs x, SqL K H a xs ∧ xs[i]? = some x, fun i H x H' => H' = H ∧ ∀ xs, SqL K H a xs → xs[i]? = some x, fun i H => ∃ xs, SqL K H a xs ∧ xs.length ≤ i⟩
noncomputable def Itr (lo : Int) (n : Nat) : It := ⟨fun i _ => i < n, fun i H x H' => H' = H ∧ x = .int (lo + i), fun i _ => n ≤ i⟩
theorem turn_list {P : Program} {w : World} {K : PySem.W.Frag} {tg : Expr} (a it : Addr) : Turn P w K tg (Itl K a) [it] it (fun i h => h.IsListIter it a i) where
  mem := by simp
  obj := fun i h st b hb => by
    have e : b = it := by simpa using hb
    subst e
    obtain ⟨o, e, c, d⟩ := st
    exact ⟨o, e, fun v z => by rw [d] at z; cases z⟩
  keep := fun i h h' st k => st.at fun o e => k it (by simp) o e
  item := by
    intro X hP hw hK hc i pins s σ H E I hf st hg
    subst hP hw hK
    obtain ⟨xs, x, hq, hx⟩ := hg
    obtain ⟨its, rv, p, hz⟩ := I.list hq
    obtain ⟨u, hu, ru⟩ := rv.get hx
    obtain ⟨f0, f1, f2, f3, f4, f5⟩ := hf it (by simp)
    refine wpAny_pyNext_list_item st p.isList (x := u) (by simpa using hu) fun h' st' sb => ?_
    have I1 : Inv X pins σ H { s with heap := h' } := I.turned (t' := s.toks) (fun b o hb e => (sb.2 b hb).trans e) f0 f1 f3 f4 f5
    obtain ⟨o, e, c, d⟩ := id st'
    exact ⟨u, rfl, go_of (s := { s with heap := h' }) e c d (by decide) ⟨x, H, I1, ru, ⟨rfl, fun ys hy => by rw [I.list_inj hy hq]; exact hx⟩, st', fun b hb => (hf b hb).1⟩⟩
  done := by
    intro X hP hw hK hc i pins s σ H E I hf st hg
    subst hP hw hK
    obtain ⟨xs, hq, hx⟩ := hg
    obtain ⟨its, rv, p, hz⟩ := I.list hq
    obtain ⟨f0, f1, f2, f3, f4, f5⟩ := hf it (by simp)
    have hl := rv.length
    exact wpAny_pyNext_list_end (I.ok.hd hc) st p.isList (by simp; omega) fun h' eb => ⟨rfl, I.turned (t' := s.toks) (fun b o hb e => eb b o hb e) f0 f1 f3 f4 f5⟩
  self := fun _ _ _ _ _ st h => wpAny_pyIter_listiter st h
theorem turn_range {P : Program} {w : World} {K : PySem.W.Frag} {tg : Expr} (it : Addr) (lo : Int) (n : Nat) : Turn P w K tg (Itr lo n) [it] it (fun i h => IsRangeIter h it (lo + (i : Nat) * 1) ((n : Int) - (i : Nat)) 1) where
  mem := by simp
  obj := fun i h st b hb => by
    have e : b = it := by simpa using hb
    subst e
    exact ⟨_, st, fun v z => by
      have z' : Data.fields _ = Data.cell v := z
      cases z'⟩
  keep := fun i h h' st k => k it (by simp) _ st
  item := by
    intro X hP hw hK hc i pins s σ H E I hf st hg
    subst hP hw hK
    obtain ⟨f0, f1, f2, f3, f4, f5⟩ := hf it (by simp)
    have W := Walks.range (prog := X.prog) (w := X.w) (I.ok.hd hc) it lo 1 n
    refine W.item i s _ _ hg st fun v h' tk hv st' kk => ?_
    obtain ⟨t, rfl⟩ := hv
    have I1 : Inv X pins σ H { s with heap := h', toks := tk } := I.turned (fun b o hb e => kk b o (by simpa using hb) e) f0 f1 f3 f4 f5
    refine ⟨_, rfl, go_of (s := { s with heap := h', toks := tk }) (n := "range_iterator") st' rfl rfl (by decide) ⟨.int (lo + i), H, I1, ⟨t, ?_⟩, ⟨rfl, rfl⟩, st', fun b hb => (hf b hb).1⟩⟩
    rw [Int.mul_one]
  done := by
    intro X hP hw hK hc i pins s σ H E I hf st hg
    subst hP hw hK
    obtain ⟨f0, f1, f2, f3, f4, f5⟩ := hf it (by simp)
    exact wpAny_pyNext_range_end (I.ok.hd hc) st (by have : n ≤ i := hg; omega) fun h' eb => ⟨rfl, I.turned (t' := s.toks) (fun b o hb e => eb b o hb e) f0 f1 f3 f4 f5⟩
  self := fun _ _ _ _ _ st h => wpAny_pyIter_rangeiter st h
end L2
namespace L2
open PySem PySem.Spec PyProof.Rows
section
variable {X : Cx} {tg : Expr}
inductive xList (K : PySem.W.Frag) (x : V) (H : Hp) (R : It → Hp → Prop) : Prop
  | mk (a : Addr) (e : x = .ref a) (s : ∃ xs, SqL K H a xs) (q : R (Itl K a) H) : xList K x H R
noncomputable def iList (K : PySem.W.Frag) (tl : TE) : TI := fun σ H R => tl σ H fun x H1 => xList K x H1 R
theorem pi_list {l : Expr} {tl : TE} (hl : PE X l tl) : PI X tg l (iList X.K tl) := by
  intro pins s σ H R I h
  refine thn (hl pins s σ H _ I h) fun v s1 z__ => ?_
  obtain ⟨x, H1, I1, r1, q1⟩ := z__
  obtain ⟨a, e, ⟨xs, hq⟩, q⟩ := q1
  subst e
  cases r1
  obtain ⟨its, rv, p, hz⟩ := I1.list hq
  refine wpAny_pyIter_list p.isList ?_
  refine ⟨s1.heap.objs.size, [s1.heap.objs.size], _, _, H1, rfl, I1.kept (t' := s1.toks) fun b o e => Heap.get?_push_of_some _ e, turn_list a _, ⟨_, Heap.get?_push_size _ rfl, rfl, rfl⟩, fun b hb => ?_, q⟩
  have e : b = s1.heap.objs.size := by simpa using hb
  subst e
  exact I1.fpOk (Nat.le_refl _) (I1.hok.fresh (Nat.le_refl _))
theorem range_it {pins : List (Addr × Obj)} {σ : St} {H : Hp} {s : Shared} {R : It → Hp → Prop} {E : Value → Shared → Prop} {lo hi : Int} {t u v : Tok} {tk : Nat} (I : Inv X pins σ H s) (h1 : -(2 ^ 62) ≤ lo) (h2 : lo < 2 ^ 62) (h3 : -(2 ^ 62) ≤ hi) (h4 : hi < 2 ^ 62)
    (q : R (Itr lo (hi - lo).toNat) H) : wpAny (model X.prog X.w) X.A (pyIter (.ref s.heap.objs.size)) (PIE X pins σ tg R) E { s with heap := s.heap.push { cls := .type "range", data := .fields #[.int lo t, .int hi u, .int 1 v] }, toks := tk } := by
  refine wpAny_pyIter_range (IsRange.new ..) (small_one h1 h2 h3 h4) ?_
  have I1 : Inv X pins σ H { s with heap := s.heap.push { cls := .type "range", data := .fields #[.int lo t, .int hi u, .int 1 v] }, toks := tk } := I.kept fun b o e => Heap.get?_push_of_some _ e
  refine ⟨(s.heap.push { cls := .type "range", data := .fields #[.int lo t, .int hi u, .int 1 v] }).objs.size, [(s.heap.push { cls := .type "range", data := .fields #[.int lo t, .int hi u, .int 1 v] }).objs.size], _, _, H, rfl,
    I1.kept (t' := tk) fun b o e => Heap.get?_push_of_some _ e, turn_range _ lo (hi - lo).toNat, ?_, fun b hb => ?_, q⟩
  · have e1 : lo + ((0 : Nat) : Int) * 1 = lo := by simp
    have e2 : (((hi - lo).toNat : Nat) : Int) - ((0 : Nat) : Int) = Builtin.Range.rangeSize lo hi 1 := by rw [rangeSize_one]; split <;> omega
    show IsRangeIter _ _ (lo + ((0 : Nat) : Int) * 1) ((((hi - lo).toNat : Nat) : Int) - ((0 : Nat) : Int)) 1
    rw [e1, e2]
    exact Heap.get?_push_size _ rfl
  · have e : b = (s.heap.push { cls := .type "range", data := .fields #[.int lo t, .int hi u, .int 1 v] }).objs.size := by simpa using hb
    subst e
    exact I1.fpOk (Nat.le_refl _) (I1.hok.fresh (Nat.le_refl _))
inductive xRng (vs : List V) (H : Hp) (R : It → Hp → Prop) : Prop
  | mk (j : Int) (e : vs = [.int j]) (a : -(2 ^ 62) ≤ j) (b : j < 2 ^ 62) (q : R (Itr 0 j.toNat) H) : xRng vs H R
noncomputable def iRng1 (ta : TA) : TI := fun σ H R => ta σ H fun vs H1 => xRng vs H1 R
theorem pi_range1 {a : Expr} {ta : TA} {p pos : Pos} (hg : Gl X "range") (hm : X.mg "range" = none) (ha : PA X [a] ta) (hs : starEach [a] X.env = [(false, eval a X.env)] := by rfl) : PI X tg (.Call (.Name "range" p) [a] [] pos) (iRng1 ta) := by
  intro pins s σ H R I h
  refine Call_ (ld_blt I hg hm boot_range (PyProof.Rows.callWith_type1 (thn (ha pos pins s σ H _ I h) fun us s1 z__ => ?_) hs rfl))
  obtain ⟨vs, H1, I1, r1, q1⟩ := z__
  obtain ⟨j, e, q1, q2, q⟩ := q1
  subst e
  cases r1 with
  | cons r rr =>
    cases rr
    obtain ⟨t, rfl⟩ := r
    exact call_range_1 (range_it I1 (by omega) (by omega) q1 q2 (by simpa using q))
noncomputable def tFor (wi : TI) (g : TG) (tb : TS) : TS := fun D σ H => wi σ H fun J H1 => ∃ W : Nat → Nat → St → Hp → Prop, (∃ m, W 0 m σ H1) ∧ ∀ i m σ H, W i m σ H →
  (J.stop i H ∧ D.nx σ H) ∨ (J.go i H ∧ ∃ N : St → Hp → Prop, (∀ σ' H', N σ' H' → ∃ m', m' < m ∧ W (i + 1) m' σ' H') ∧ ∀ x H', J.yld i H x H' → g x σ H' fun σ2 H2 => tb { D with nx := N, ct := N, bk := D.nx } σ2 H2)
noncomputable def pinsAt (fp : List Addr) (h : Heap) : List (Addr × Obj) := fp.filterMap fun b => (h.get? b).map fun o => (b, o)
theorem mem_pinsAt {fp : List Addr} {h : Heap} {b : Addr} {o : Obj} (hb : b ∈ fp) (e : h.get? b = some o) : (b, o) ∈ pinsAt fp h := List.mem_filterMap.mpr ⟨b, hb, by rw [e]; rfl⟩
theorem of_pinsAt {fp : List Addr} {h : Heap} {p : Addr × Obj} (hp : p ∈ pinsAt fp h) : p.1 ∈ fp ∧ h.get? p.1 = some p.2 := by
  obtain ⟨b, hb, e⟩ := List.mem_filterMap.mp hp
  cases q : h.get? b with
  | none => rw [q] at e; cases e
  | some o =>
    rw [q] at e
    have e' : (b, o) = p := Option.some.inj e
    subst e'
    exact ⟨hb, q⟩
theorem Inv.pinned {pins : List (Addr × Obj)} {σ : St} {H : Hp} {s : Shared} {fp : List Addr} (I : Inv X pins σ H s) (hf : ∀ b ∈ fp, FpOk X pins H b) (ho : ∀ b ∈ fp, ∃ o, s.heap.get? b = some o ∧ ∀ v, o.data ≠ .cell v) : Inv X (pins ++ pinsAt fp s.heap) σ H s :=
  I.pins_of fun p hp => (List.mem_append.mp hp).elim (fun z => I.pin p (List.mem_append_right _ z)) fun z => by
    obtain ⟨hb, e⟩ := of_pinsAt z
    obtain ⟨f0, f1, f2, _⟩ := hf p.1 hb
    obtain ⟨o, e', d⟩ := ho p.1 hb
    rw [e] at e'; cases e'
    exact ⟨e, f0, f1, f2, d⟩
theorem Inv.unpinned {pins pl : List (Addr × Obj)} {σ : St} {H : Hp} {s : Shared} (I : Inv X (pins ++ pl) σ H s) : Inv X pins σ H s := I.pins_of fun p hp => I.pin p (List.mem_append_right _ (List.mem_append_left _ hp))
theorem ps_for {iter : Expr} {body : List Stmt} {wi : TI} {g : TG} {tb : TS} {pos : Pos} (hp : PassesOwn (model X.prog X.w) X.A X.env X.xe) (hc : X.calm = true) (hi : PI X tg iter wi) (hg : PG X tg g) (hb : PSs X body tb)
    (hs : ∀ x, foldedSetIterable iter X.env x = pure x := by intro _; rfl) : PS X (.For tg iter body [] pos) (tFor wi g tb) := by
  intro pins s σ H D I h
  refine wpAny_For (thn (hi pins s σ H _ I h) fun v s1 h1 => thn h1 fun itv s2 h2 => ?_) hs
  obtain ⟨it, fp, tn, J, H2, e, I2, T, st2, f2, W, ⟨m0, w0⟩, turn⟩ := h2
  subst e
  have stat : ∀ {H' : Hp}, (∀ b ∈ fp, H' b = none) → ∀ b ∈ fp, FpOk X pins H' b := fun hn b hb => ⟨hn b hb, (f2 b hb).2⟩
  refine codeAny_forLoop_any (fun n s' => ∃ i σ' H', Inv X pins σ' H' s' ∧ tn i s'.heap ∧ (∀ b ∈ fp, H' b = none) ∧ W i n σ' H') ?_ m0 ⟨0, σ, H2, I2, st2, fun b hb => (f2 b hb).1, w0⟩
  rintro n s3 ⟨i, σ3, H3, I3, st3, fr3, w3⟩
  rcases turn i n σ3 H3 w3 with ⟨stop, qn⟩ | ⟨go, N, hN, step⟩
  · refine wpAny_passesOwn hp (thn (T.done X rfl rfl rfl hc i pins s3 σ3 H3 X.xe I3 (stat fr3) st3 stop) fun r s4 ⟨hr, I4⟩ => ?_)
    subst hr
    exact wpAny_execs_nil ⟨σ3, H3, I4, qn⟩
  · refine wpAny_passesOwn hp (thn (T.item X rfl rfl rfl hc i pins s3 σ3 H3 X.xe I3 (stat fr3) st3 go) fun r s4 ⟨u, hr, h4⟩ => ?_)
    subst hr
    refine wpAny_passesOwn hp (thn h4 fun _ s5 z__ => ?_)
    obtain ⟨x, H5, I5, r5, y5, st5, fr5⟩ := z__
    have I5' := I5.pinned (stat fr5) (T.obj _ _ st5)
    refine wpAny_passesOwn hp (thn (hg _ s5 σ3 H5 x u _ I5' r5 (step x H5 y5)) fun _ s6 z__ => ?_)
    obtain ⟨σ6, H6, I6, q6⟩ := z__
    refine wpAny_passesOwn hp (thn (hb _ s6 σ6 H6 _ I6 q6) fun f s7 q7 => ?_)
    have again : ∀ {σ7 : St} {H7 : Hp}, Inv X (pins ++ pinsAt fp s5.heap) σ7 H7 s7 → N σ7 H7 → ∃ m, m < n ∧ ∃ i σ' H', Inv X pins σ' H' s7 ∧ tn i s7.heap ∧ (∀ b ∈ fp, H' b = none) ∧ W i m σ' H' := fun {σ7 H7} I7 n7 => by
      obtain ⟨m', hm, w7⟩ := hN σ7 H7 n7
      refine ⟨m', hm, i + 1, σ7, H7, I7.unpinned, T.keep _ _ _ st5 fun b hb o e => (I7.pin (b, o) (List.mem_append_right _ (List.mem_append_right _ (mem_pinsAt hb e)))).1, fun b hb => ?_, w7⟩
      obtain ⟨o, e, d⟩ := T.obj _ _ st5 b hb
      exact (I7.pin (b, o) (List.mem_append_right _ (List.mem_append_right _ (mem_pinsAt hb e)))).2.1
    cases f with
    | next => obtain ⟨σ7, H7, I7, n7⟩ := q7; exact again I7 n7
    | cont => obtain ⟨σ7, H7, I7, n7⟩ := q7; exact again I7 n7
    | brk => obtain ⟨σ7, H7, I7, q7⟩ := q7; exact ⟨σ7, H7, I7.unpinned, q7⟩
    | ret v => obtain ⟨x7, σ7, H7, I7, r7, q7⟩ := q7; exact ⟨x7, σ7, H7, I7.unpinned, r7, q7⟩
end
theorem for_list {K : PySem.W.Frag} {a : Addr} {xs : List V} {g : TG} {tb : TS} {D : Ends} {σ : St} {H : Hp} (Pv : Nat → St → Hp → Prop) (h0 : Pv 0 σ H) (hl : ∀ i σ H, i ≤ xs.length → Pv i σ H → SqL K H a xs)
    (hs : ∀ i x σ H, xs[i]? = some x → Pv i σ H → g x σ H fun σ2 H2 => tb { D with nx := Pv (i + 1), ct := Pv (i + 1), bk := D.nx } σ2 H2) (hd : ∀ σ H, Pv xs.length σ H → D.nx σ H) :
    ∃ W : Nat → Nat → St → Hp → Prop, (∃ m, W 0 m σ H) ∧ ∀ i m σ H, W i m σ H →
      ((Itl K a).stop i H ∧ D.nx σ H) ∨ ((Itl K a).go i H ∧ ∃ N : St → Hp → Prop, (∀ σ' H', N σ' H' → ∃ m', m' < m ∧ W (i + 1) m' σ' H') ∧ ∀ x H', (Itl K a).yld i H x H' → g x σ H' fun σ2 H2 => tb { D with nx := N, ct := N, bk := D.nx } σ2 H2) := by
  refine ⟨fun i m σ H => m = xs.length - i ∧ i ≤ xs.length ∧ Pv i σ H, ⟨xs.length, by simp, Nat.zero_le _, h0⟩, ?_⟩
  rintro i m σ H ⟨rfl, hi, p⟩
  have q := hl i σ H hi p
  by_cases hlt : i < xs.length
  · refine .inr ⟨⟨xs, xs[i], q, by simp [hlt]⟩, Pv (i + 1), fun σ' H' p' => ⟨xs.length - (i + 1), by omega, rfl, hlt, p'⟩, fun x H' y => ?_⟩
    obtain ⟨e, y⟩ := y
    subst e
    exact hs i x σ _ (y xs q) p
  · have e : i = xs.length := by omega
    subst e
    exact .inl ⟨⟨xs, q, Nat.le_refl _⟩, hd σ H p⟩
theorem for_range {lo : Int} {n : Nat} {g : TG} {tb : TS} {D : Ends} {σ : St} {H : Hp} (Pv : Nat → St → Hp → Prop) (h0 : Pv 0 σ H)
    (hs : ∀ i σ H, i < n → Pv i σ H → g (.int (lo + i)) σ H fun σ2 H2 => tb { D with nx := Pv (i + 1), ct := Pv (i + 1), bk := D.nx } σ2 H2) (hd : ∀ σ H, Pv n σ H → D.nx σ H) :
    ∃ W : Nat → Nat → St → Hp → Prop, (∃ m, W 0 m σ H) ∧ ∀ i m σ H, W i m σ H →
      ((Itr lo n).stop i H ∧ D.nx σ H) ∨ ((Itr lo n).go i H ∧ ∃ N : St → Hp → Prop, (∀ σ' H', N σ' H' → ∃ m', m' < m ∧ W (i + 1) m' σ' H') ∧ ∀ x H', (Itr lo n).yld i H x H' → g x σ H' fun σ2 H2 => tb { D with nx := N, ct := N, bk := D.nx } σ2 H2) := by
  refine ⟨fun i m σ H => m = n - i ∧ i ≤ n ∧ Pv i σ H, ⟨n, by simp, Nat.zero_le _, h0⟩, ?_⟩
  rintro i m σ H ⟨rfl, hi, p⟩
  by_cases hlt : i < n
  · refine .inr ⟨hlt, Pv (i + 1), fun σ' H' p' => ⟨n - (i + 1), by omega, rfl, hlt, p'⟩, fun x H' y => ?_⟩
    obtain ⟨e, y⟩ := y
    subst e y
    exact hs i σ _ hlt p
  · have e : i = n := by omega
    subst e
    exact .inl ⟨Nat.le_refl _, hd σ H p⟩
theorem while_by {c : TT} {tb : TS} {D : Ends} {σ : St} {H : Hp} (Pv : St → Hp → Prop) (μ : St → Hp → Nat) (h0 : Pv σ H)
    (hs : ∀ σ H, Pv σ H → c σ H fun b H1 => if b = true then tb { D with nx := fun σ' H' => Pv σ' H' ∧ μ σ' H' < μ σ H, ct := fun σ' H' => Pv σ' H' ∧ μ σ' H' < μ σ H, bk := D.nx } σ H1 else D.nx σ H1)
    (mono : ∀ σ H Q Q', (∀ b H1, Q b H1 → Q' b H1) → c σ H Q → c σ H Q') : tWhile c tb D σ H := by
  refine ⟨fun m σ H => m = μ σ H ∧ Pv σ H, ⟨_, rfl, h0⟩, ?_⟩
  rintro m σ H ⟨rfl, p⟩
  refine mono σ H _ _ (fun b H1 q => ?_) (hs σ H p)
  cases b with
  | true => exact ⟨_, fun σ' H' ⟨p', l⟩ => ⟨_, l, rfl, p'⟩, q⟩
  | false => exact q
end L2
namespace L2
open PySem PySem.Spec PyProof.Rows
noncomputable abbrev R2 := V → V → Hp → VK → Prop
noncomputable def OpR (X : Cx) (f : Value → Value → Sem Value) (r : R2) : Prop :=
  ∀ (pins : List (Addr × Obj)) (s : Shared) (σ : St) (H : Hp) (x y : V) (v u : Value) (Q : VK), Inv X pins σ H s → RelV x v → RelV y u → r x y H Q →
    wpAny (model X.prog X.w) X.A (f v u) (EP X pins σ Q) X.xe s
noncomputable def CallR (X : Cx) (f : Value) (r : List V → Hp → VK → Prop) : Prop :=
  ∀ (pins : List (Addr × Obj)) (s : Shared) (σ : St) (H : Hp) (xs : List V) (us : List Value) (Q : VK), Inv X pins σ H s → Vals xs us → r xs H Q →
    wpAny (model X.prog X.w) X.A (call f us) (EP X pins σ Q) X.xe s
noncomputable def tOp (r : R2) (ta tb : TE) : TE := fun σ H Q => ta σ H fun x H1 => tb σ H1 fun y H2 => r x y H2 Q
inductive rI (C : Int → Int → Prop) (g : Int → Int → V) (x y : V) (H : Hp) (Q : VK) : Prop
  | mk (i j : Int) (e1 : x = .int i) (e2 : y = .int j) (c : C i j) (q : Q (g i j) H) : rI C g x y H Q
inductive rI0 (g : Int → Int → V) (x y : V) (H : Hp) (Q : VK) : Prop
  | mk (i j : Int) (e1 : x = .int i) (e2 : y = .int j) (q : Q (g i j) H) : rI0 g x y H Q
section
variable {X : Cx} {a b c : Expr} {ta tb tc : TE} {pos : Pos}
theorem binT (ha : PE X a ta) (hb : PE X b tb) {pins : List (Addr × Obj)} {s : Shared} {σ : St} {H : Hp} {R : V → V → Hp → Prop} (I : Inv X pins σ H s)
    (h : ta σ H fun x H1 => tb σ H1 fun y H2 => R x y H2) {Q : Value → Shared → Prop} {f : Value → Value → Sem Value}
    (hf : ∀ v u s2 x y H2, Inv X pins σ H2 s2 → RelV x v → RelV y u → R x y H2 → wpAny (model X.prog X.w) X.A (f v u) Q X.xe s2) :
    wpAny (model X.prog X.w) X.A (eval a X.env) (fun v s₁ => wpAny (model X.prog X.w) X.A (eval b X.env) (fun u s₂ => wpAny (model X.prog X.w) X.A (f v u) Q X.xe s₂) X.xe s₁) X.xe s := by
  refine thn (ha pins s σ H _ I h) fun v s1 z__ => ?_
  obtain ⟨x, H1, I1, r1, q1⟩ := z__
  refine thn (hb pins s1 σ H1 _ I1 q1) fun u s2 z__ => ?_
  obtain ⟨y, H2, I2, r2, q2⟩ := z__
  exact hf v u s2 x y H2 I2 r1 r2 q2
theorem pe_op {op : Operator} {r : R2} (ho : OpR X (binaryOp op) r) (ha : PE X a ta) (hb : PE X b tb) : PE X (.BinOp a op b pos) (tOp r ta tb) := by
  intro pins s σ H Q I h
  exact wpAny_BinOp (binT ha hb I h fun v u s2 x y H2 I2 rx ry q => ho pins s2 σ H2 x y v u Q I2 rx ry q)
theorem opI {f : Value → Value → Sem Value} {C : Int → Int → Prop} {g : Int → Int → Int}
    (rule : ∀ (i j : Int) (t u : Tok) (s : Shared) (Q : Value → Shared → Prop) (E : Value → Shared → Prop), C i j → Q (.int (g i j) s.toks) { s with toks := s.toks + 1 } → wpAny (model X.prog X.w) X.A (f (.int i t) (.int j u)) Q E s) :
    OpR X f (rI C fun i j => .int (g i j)) := by
  intro pins s σ H x y v u Q I rx ry h
  obtain ⟨i, j, rfl, rfl, hc, q⟩ := h
  obtain ⟨t, rfl⟩ := rx
  obtain ⟨t', rfl⟩ := ry
  exact rule i j t t' s _ _ hc ⟨.int (g i j), H, I.tok _, ⟨_, rfl⟩, q⟩
theorem opI0 {f : Value → Value → Sem Value} {g : Int → Int → Int}
    (rule : ∀ (i j : Int) (t u : Tok) (s : Shared) (Q : Value → Shared → Prop) (E : Value → Shared → Prop), Q (.int (g i j) s.toks) { s with toks := s.toks + 1 } → wpAny (model X.prog X.w) X.A (f (.int i t) (.int j u)) Q E s) :
    OpR X f (rI0 fun i j => .int (g i j)) := by
  intro pins s σ H x y v u Q I rx ry h
  obtain ⟨i, j, rfl, rfl, q⟩ := h
  obtain ⟨t, rfl⟩ := rx
  obtain ⟨t', rfl⟩ := ry
  exact rule i j t t' s _ _ ⟨.int (g i j), H, I.tok _, ⟨_, rfl⟩, q⟩
theorem opB0 {f : Value → Value → Sem Value} {g : Int → Int → Bool}
    (rule : ∀ (i j : Int) (t u : Tok) (s : Shared) (Q : Value → Shared → Prop) (E : Value → Shared → Prop), Q (.bool (g i j)) s → wpAny (model X.prog X.w) X.A (f (.int i t) (.int j u)) Q E s) :
    OpR X f (rI0 fun i j => .bl (g i j)) := by
  intro pins s σ H x y v u Q I rx ry h
  obtain ⟨i, j, rfl, rfl, q⟩ := h
  obtain ⟨t, rfl⟩ := rx
  obtain ⟨t', rfl⟩ := ry
  exact rule i j t t' s _ _ ⟨.bl (g i j), H, I, rfl, q⟩
noncomputable def CMul (i j : Int) : Prop := (-(2 ^ 64) < i ∧ i < 2 ^ 64) ∨ (-(2 ^ 64) < j ∧ j < 2 ^ 64)
theorem CMul.ok {i j : Int} (h : CMul i j) : IntMulOk i j := by
  rcases h with ⟨h1, h2⟩ | ⟨h1, h2⟩
  · exact .of_left (intBits_le_64 h1 h2)
  · exact .of_right (intBits_le_64 h1 h2)
theorem op_add : OpR X (binaryOp .Add) (rI0 fun i j => .int (i + j)) := opI0 fun _ _ _ _ _ _ _ q => add_int q
theorem op_sub : OpR X (binaryOp .Sub) (rI0 fun i j => .int (i - j)) := opI0 fun _ _ _ _ _ _ _ q => sub_int q
theorem op_mul : OpR X (binaryOp .Mult) (rI CMul fun i j => .int (i * j)) := opI fun _ _ _ _ _ _ _ hc q => mul_int q hc.ok
theorem op_mod : OpR X (binaryOp .Mod) (rI (fun _ j => 0 < j) fun i j => .int (i % j)) := opI fun i j _ _ _ _ _ hc q => by
  have h1 : (0 : Int) < j := hc
  exact mod_int' (by omega) (by rw [Int.fmod_eq_emod_of_nonneg i (by omega)]; exact q)
theorem iop_mul : OpR X (inplaceOp .Mult) (rI CMul fun i j => .int (i * j)) := opI fun _ _ _ _ _ _ _ hc q => imul_int q hc.ok
end
noncomputable def isI : V → Bool
  | .int _ => true
  | _ => false
theorem isI_of {x : V} (h : isI x = true) : ∃ i, x = .int i := by
  cases x with
  | int i => exact ⟨i, rfl⟩
  | _ => cases h
noncomputable def scal (x y : V) : Bool := isI x && isI y
theorem scal_of {x y : V} (h : scal x y = true) : ∃ i j, x = .int i ∧ y = .int j := by
  obtain ⟨h1, h2⟩ := Bool.and_eq_true_iff.mp (show (isI x && isI y) = true from h)
  obtain ⟨i, e⟩ := isI_of h1
  obtain ⟨j, e'⟩ := isI_of h2
  exact ⟨i, j, e, e'⟩
inductive rEq (x y : V) (H : Hp) (Q : VK) : Prop
  | mk (s : scal x y = true) (q : Q (.bl (decide (x = y))) H) : rEq x y H Q
inductive rNe (x y : V) (H : Hp) (Q : VK) : Prop
  | mk (s : scal x y = true) (q : Q (.bl (!decide (x = y))) H) : rNe x y H Q
theorem dec_int {i j : Int} : decide (V.int i = V.int j) = (i == j) := by
  rw [Bool.eq_iff_iff]
  simp
section
variable {X : Cx} {a b c : Expr} {ta tb tc : TE} {pos : Pos}
theorem fin_bl {pins : List (Addr × Obj)} {σ : St} {H : Hp} {s : Shared} {Q : VK} {k k' : Bool} (I : Inv X pins σ H s) (q : Q (.bl k) H) (e : k = k') : EP X pins σ Q (.bool k') s := by
  subst e
  exact ⟨.bl k, H, I, rfl, q⟩
theorem op_eq : OpR X (compareOp .Eq) rEq := by
  intro pins s σ H x y v u Q I rx ry h
  obtain ⟨hs, q⟩ := h
  obtain ⟨i, j, e, e'⟩ := scal_of hs
  subst e e'
  obtain ⟨t, rfl⟩ := rx
  obtain ⟨t', rfl⟩ := ry
  exact eq_int (fin_bl I q dec_int)
theorem op_ne : OpR X (compareOp .NotEq) rNe := by
  intro pins s σ H x y v u Q I rx ry h
  obtain ⟨hs, q⟩ := h
  obtain ⟨i, j, e, e'⟩ := scal_of hs
  subst e e'
  obtain ⟨t, rfl⟩ := rx
  obtain ⟨t', rfl⟩ := ry
  exact ne_int (fin_bl I q (congrArg not dec_int))
theorem op_lt : OpR X (compareOp .Lt) (rI0 fun i j => .bl (decide (i < j))) := opB0 fun _ _ _ _ _ _ _ q => lt_int q
theorem op_le : OpR X (compareOp .LtE) (rI0 fun i j => .bl (decide (i ≤ j))) := opB0 fun _ _ _ _ _ _ _ q => le_int q
theorem op_gt : OpR X (compareOp .Gt) (rI0 fun i j => .bl (decide (j < i))) := opB0 fun _ _ _ _ _ _ _ q => gt_int q
theorem nomark (b : Expr) {op : CmpOp} (h : op ≠ .In := by decide) (h2 : op ≠ .NotIn := by decide) : behindInMarks op b = false := by
  have e1 : (op == CmpOp.In) = false := by cases op <;> first | rfl | exact absurd rfl h
  have e2 : (op == CmpOp.NotIn) = false := by cases op <;> first | rfl | exact absurd rfl h2
  cases b with
  | Set elts k p =>
    show (k == 0 && (op == .In || op == .NotIn) && elts.all (constantsAlone 8)) = false
    rw [e1, e2, Bool.or_false, Bool.and_false, Bool.false_and]
  | _ => rfl
theorem pe_cmpR {op : CmpOp} {r : R2} (ho : OpR X (compareOp op) r) (ha : PE X a ta) (hb : PE X b tb) (hm : behindInMarks op b = false) : PE X (.Compare a [op] [b] pos) (tOp r ta tb) := by
  intro pins s σ H Q I h
  exact wpAny_Compare1 (binT ha hb I h fun v u s2 x y H2 I2 rx ry q => ho pins s2 σ H2 x y v u Q I2 rx ry q) hm
noncomputable def tTest (t : TE) : TT := fun σ H Q => t σ H fun x H' => xB x H' Q
theorem pt_cmpR {op : CmpOp} {r : R2} (ho : OpR X (compareOp op) r) (ha : PE X a ta) (hb : PE X b tb) (hm : behindInMarks op b = false) : PT X (.Compare a [op] [b] pos) (tTest (tOp r ta tb)) := by
  intro pins s σ H Q I h
  refine wpAny_isTrue_Compare1 (thn (ha pins s σ H _ I h) fun v s1 ⟨x, H1, I1, r1, q1⟩ => thn (hb pins s1 σ H1 _ I1 q1) fun u s2 ⟨y, H2, I2, r2, q2⟩ =>
    thn (ho pins s2 σ H2 x y v u _ I2 r1 r2 q2) fun c s3 ⟨z, H3, I3, r3, k, e, q3⟩ => ?_) hm
  subst e
  cases r3
  exact wpAny_truthy_bool ⟨H3, I3, q3⟩
theorem line63 : (sizeLine : Nat) < 2 ^ 63 := by rw [sizeLine_eq]; decide
theorem vals1 {x : V} {us : List Value} (r : Vals [x] us) : ∃ u, us = [u] ∧ RelV x u := by
  cases r with
  | cons r1 r2 => cases r2; exact ⟨_, rfl, r1⟩
theorem call_abs : CallR X (.builtin "abs") (fun xs H Q => ∃ i, xs = [.int i] ∧ Q (.int (if i < 0 then -i else i)) H) := by
  intro pins s σ H xs us Q I r h
  obtain ⟨i, rfl, q⟩ := h
  obtain ⟨u, rfl, t, rfl⟩ := vals1 r
  exact call_abs_int fun u tk => ⟨.int (if i < 0 then -i else i), H, I.tok _, ⟨_, rfl⟩, q⟩
end
end L2
namespace L2
open PySem PySem.Spec PyProof.Rows
structure ObjM (h : Heap) (x dx C : Addr) (mA : Str → Option Value) : Prop where
  obj : h.get? x = some (PySem.W.instObj C dx)
  ns : h.Ns1 dx mA
  ne : dx ≠ x
theorem lookIn_ns {h : Heap} {dx : Addr} {mA : Str → Option Value} (n : h.Ns1 dx mA) : ∃ od, h.get? dx = some od ∧ ∀ name, PySem.W.lookIn name od = some (mA name) := by
  obtain ⟨o, es, ep, ho, hd, hk, _, hm⟩ := n
  refine ⟨o, ho, fun name => ?_⟩
  have e := hm name
  unfold nsFind findBy at e
  rw [← Array.find?_toList] at e
  unfold PySem.W.lookIn
  rw [hd]
  dsimp only
  split
  · rename_i y q
    rw [q] at e
    exact congrArg some e
  · rename_i q
    rw [q] at e
    have a : es.toList.any (·.refKey) = false := by
      rw [List.any_eq_false]
      intro y hy
      obtain ⟨z, t, hkey⟩ := hk y (Array.mem_toList_iff.mp hy)
      simp [DictEntry.refKey, hkey]
    have a' : ¬ es.toList.any (·.refKey) = true := by rw [a]; exact Bool.false_ne_true
    rw [if_neg a']
    exact congrArg some e
theorem ObjM.look {h : Heap} {x dx C : Addr} {mA : Str → Option Value} (I : ObjM h x dx C mA) : ∃ od, PySem.W.InstAt h x (PySem.W.instObj C dx) C (some od) ∧ ∀ name, PySem.W.lookIn name od = some (mA name) :=
  let ⟨od, ho, hl⟩ := lookIn_ns I.ns
  ⟨od, ⟨I.obj, rfl, rfl, ho⟩, hl⟩
section
variable {prog : Program} {w : World} {A : Around} {E : Value → Shared → Prop} {s : Shared} {K : PySem.W.Frag} {x dx C f : Addr} {mA : Str → Option Value} {name : Str} {v : Value}
theorem get_map {expr : Bool} {Q : Value → Shared → Prop} (X : K.In s.heap) (I : ObjM s.heap x dx C mA) (hg : PySem.W.plainGet K C name = true) (hh : PySem.W.hasDictIn K C = true)
    (ha : PySem.W.findIn K (.ref C) name = some none) (hv : mA name = some v) (hv' : PySem.W.handedIn v = true) (h : Q v { s with toks := s.toks + 1 }) :
    wpAny (model prog w) A (getAttr (.ref x) name expr) Q E s := by
  obtain ⟨od, J, hl⟩ := I.look
  exact PySem.W.get_value X J (PySem.W.plainGet_of hg).1 (PySem.W.findObj_own hh ha rfl (by rw [hl, hv])) hv' h
theorem get_meth {pl : Sem Bool} {Q : Value × List Value → Shared → Prop} (X : K.In s.heap) (I : ObjM s.heap x dx C mA) (hg : PySem.W.plainGet K C name = true)
    (hf : PySem.W.findIn K (.ref C) name = some (some (.ref f))) (ht : PySem.W.isFn K (.ref f) = true) (hv : mA name = none) (h : Q (.ref f, [.ref x]) s) :
    wpAny (model prog w) A (getMethod (.ref x) name pl) Q E s := by
  obtain ⟨od, J, hl⟩ := I.look
  exact PySem.W.method_fn X J (PySem.W.plainGet_of hg).1 (PySem.W.plainGet_of hg).2 hf (beq_iff_eq.mp ht) (by show (PySem.W.lookIn name od).map (·.isSome) = some false; rw [hl, hv]; rfl) h
theorem set_map {ns : List Str} {Q : Unit → Shared → Prop} (X : K.In s.heap) (I : ObjM s.heap x dx C mA)
    (hs : PySem.W.findIn K (.ref C) "__setattr__" = some (some (.builtin "object.__setattr__"))) (hp : PySem.W.plainOver K C = true) (ht : PySem.W.takerIn K C name = some none) (hh : PySem.W.hasDictIn K C = true)
    (hw : PySem.Within mA ns) (hsz : ns.length ≤ sizeLine)
    (h : ∀ h', ObjM h' x dx C (fun y => if y = name then some v else mA y) → Heap.SameBut dx s.heap h' → Q () { s with heap := h', toks := s.toks + 2 }) :
    wpAny (model prog w) A (setAttr (.ref x) name v) Q E s := by
  obtain ⟨od, J, hl⟩ := I.look
  refine PySem.W.set_plain X J hs (PySem.W.osa_open (s := { s with toks := s.toks + 1 }) (r := none) X J hp ht fun b => ?_)
  obtain ⟨cd, hc, hd'⟩ := PySem.W.any_some hh
  have hx : s.heap.get? x = some ⟨.ref C, some dx, .plain, #[]⟩ := I.obj
  refine wpAny_bind (wpAny_pure (wpAny_bind (wpAny_bind (wpAny_loadPart hx (wpAny_bind (PySem.W.Looks.here (s := { s with toks := s.toks + 1 }) (PySem.W.looks_clsIn X hc) ?_))))))
  rw [hd']
  refine wpAny_pure (a := some dx) (wpAny_bind (wpAny_pure (wpAny_bind ?_)))
  refine wpAny_nsSet1 (s := { s with toks := s.toks + 1 }) I.ns fun h' hn2 hs2 => ?_
  obtain ⟨oD, esD, epD, hoD, hdD, hcD⟩ := hn2.count (PySem.Within.cons name v hw)
  refine wpAny_bind (wpAny_lookBehind hoD (by rw [hdD]; exact pastItsLine_dict (Nat.le_trans hcD (by rw [List.length_cons]; omega))) ?_)
  exact wpAny_pure (h _ ⟨(hs2.2 _ (Ne.symm I.ne)).trans I.obj, hn2, I.ne⟩ hs2)
theorem make_map {R : Result → Shared → Prop} {vs : List Value} {kw : List (Str × Value)} (X : K.In s.heap) (hm : PySem.W.makesIn K C = true)
    (hi : PySem.W.findIn K (.ref C) "__init__" = some (some (.ref f))) (hf : PySem.W.typeIn K (.ref f) = some (.type "function"))
    (h : codeAny (model prog w) (A.under (.builtin "type.__call__" ⟨.ref C :: vs, kw⟩)) (.call (.ref f) ⟨.ref (s.heap.objs.size + 1) :: vs, kw⟩) (PySem.W.InitBack (s.heap.objs.size + 1) R)
      { s with heap := (s.heap.push PySem.W.emptyDict).push (PySem.W.instObj C s.heap.objs.size) }) :
    codeAny (model prog w) A (.call (.ref C) ⟨vs, kw⟩) R s := by
  obtain ⟨hh, g, d, t, os⟩ := s
  exact PySem.W.make_core (PySem.W.makes_of X hm) (PySem.W.looks_findIn X hi) (fun self => PySem.W.bind_fn X self hf) (.inl rfl) h
end
noncomputable def putF (f : Str) (v : V) : List (Str × V) → List (Str × V)
  | [] => [(f, v)]
  | (g, x) :: r => if g = f then (g, v) :: r else (g, x) :: putF f v r
theorem lookup_putF (f g : Str) (v : V) : ∀ fs : List (Str × V), (putF f v fs).lookup g = if g = f then some v else fs.lookup g
  | [] => by
    show List.lookup g [(f, v)] = _
    by_cases h : g = f
    · have hb : (g == f) = true := beq_iff_eq.mpr h
      simp only [List.lookup, hb, if_pos h]
    · have hb : (g == f) = false := beq_eq_false_iff_ne.mpr h
      simp only [List.lookup, hb, if_neg h]
  | (k, x) :: r => by
    have ih := lookup_putF f g v r
    rw [show putF f v ((k, x) :: r) = (if k = f then (k, v) :: r else (k, x) :: putF f v r) from rfl]
    by_cases hk : k = f
    · rw [if_pos hk]
      by_cases h : g = k
      · have hb : (g == k) = true := beq_iff_eq.mpr h
        simp only [List.lookup, hb, if_pos (h.trans hk)]
      · have hb : (g == k) = false := beq_eq_false_iff_ne.mpr h
        simp only [List.lookup, hb, if_neg (fun e : g = f => h (e.trans hk.symm))]
    · rw [if_neg hk]
      by_cases h : g = k
      · have hb : (g == k) = true := beq_iff_eq.mpr h
        simp only [List.lookup, hb, if_neg (fun e : g = f => hk (h.symm.trans e))]
      · have hb : (g == k) = false := beq_eq_false_iff_ne.mpr h
        simp only [List.lookup, hb]
        exact ih
theorem keys_putF (f : Str) (v : V) : ∀ fs : List (Str × V), f ∈ (putF f v fs).map (·.1) ∧ ∀ g, g ∈ fs.map (·.1) → g ∈ (putF f v fs).map (·.1)
  | [] => ⟨by simp [putF], fun g h => by simp at h⟩
  | (k, x) :: r => by
    obtain ⟨i1, i2⟩ := keys_putF f v r
    rw [show putF f v ((k, x) :: r) = (if k = f then (k, v) :: r else (k, x) :: putF f v r) from rfl]
    by_cases hk : k = f
    · rw [if_pos hk]
      subst hk
      exact ⟨by simp, fun g h => by simpa using h⟩
    · rw [if_neg hk]
      refine ⟨?_, fun g h => ?_⟩
      · rw [List.map_cons]
        exact List.mem_cons_of_mem _ i1
      · rw [List.map_cons] at h ⊢
        rcases List.mem_cons.mp h with e | e
        · exact List.mem_cons.mpr (.inl e)
        · exact List.mem_cons_of_mem _ (i2 g e)
theorem length_putF (f : Str) (v : V) : ∀ fs : List (Str × V), (putF f v fs).length ≤ fs.length + 1
  | [] => by simp [putF]
  | (k, x) :: r => by
    have ih := length_putF f v r
    rw [show putF f v ((k, x) :: r) = (if k = f then (k, v) :: r else (k, x) :: putF f v r) from rfl]
    by_cases hk : k = f
    · rw [if_pos hk, List.length_cons, List.length_cons]; omega
    · rw [if_neg hk, List.length_cons, List.length_cons]; omega
theorem RelO.some_of {v : V} {o : Option Value} (r : RelO (some v) o) : ∃ u, o = some u ∧ RelV v u := by
  cases o with
  | none => exact (show False from r).elim
  | some u => exact ⟨u, rfl, r⟩
theorem RelO.none_of {o : Option Value} (r : RelO none o) : o = none := by
  cases o with
  | none => rfl
  | some u => exact (show False from r).elim
theorem handed_of {v : V} {u : Value} (r : RelV v u) : PySem.W.handedIn u = true := by
  cases v with
  | non => cases (show u = Value.none from r); rfl
  | bl b => cases (show u = Value.bool b from r); rfl
  | int i => obtain ⟨t, e⟩ := (show ∃ t, u = Value.int i t from r); cases e; rfl
  | str x => obtain ⟨t, e⟩ := (show ∃ t, u = Value.str x t from r); cases e; rfl
  | byt b => obtain ⟨t, e⟩ := (show ∃ t, u = Value.bytes b t from r); cases e; rfl
  | flt b => obtain ⟨t, e⟩ := (show ∃ t, u = Value.float b t from r); cases e; rfl
  | ref a => cases (show u = Value.ref a from r); rfl
  | ty n => cases (show u = Value.type n from r); rfl
section
variable {P : Program} {w : World} {H H' : Hp} {h h' : Heap} {a C dx : Addr} {fs fs' : List (Str × V)}
theorem ins_get (hok : HOk P w H h) (e : H a = some (.ins C dx fs)) : ∃ mA, ObjM h a dx C mA ∧ (∀ f, RelO (fs.lookup f) (mA f)) ∧ PySem.Within mA (fs.map (·.1)) ∧ fs.length ≤ 1000 ∧ H dx = some (.own a) := by
  obtain ⟨d, z, ne, ob, mA, n, r, q⟩ := (show ObjOk P w H h a (.ins C dx fs) from hok a _ e)
  exact ⟨mA, ⟨ob, n, ne⟩, r, q, z, d⟩
end
structure Cls (K : PySem.W.Frag) (C : Addr) : Prop where
  pg : PySem.W.plainGet K C Str.empty = true
  hd : PySem.W.hasDictIn K C = true
  po : PySem.W.plainOver K C = true
  sa : PySem.W.findIn K (.ref C) "__setattr__" = some (some (.builtin "object.__setattr__"))
theorem Cls.get {K : PySem.W.Frag} {C : Addr} (c : Cls K C) (f : Str) : PySem.W.plainGet K C f = true := c.pg
noncomputable def NoAttr (K : PySem.W.Frag) (C : Addr) (f : Str) : Prop := PySem.W.findIn K (.ref C) f = some none
theorem NoAttr.taker {K : PySem.W.Frag} {C : Addr} {f : Str} (n : NoAttr K C f) : PySem.W.takerIn K C f = some none := by
  unfold PySem.W.takerIn
  rw [show PySem.W.findIn K (.ref C) f = some none from n]
  rfl
structure Meth (K : PySem.W.Frag) (C : Addr) (m : Str) (f : Addr) : Prop where
  at_ : PySem.W.findIn K (.ref C) m = some (some (.ref f))
  fn : PySem.W.isFn K (.ref f) = true
  kp : PySem.W.keepIn K (.ref f) = true
section
variable {X : Cx} {pins : List (Addr × Obj)} {σ : St} {H : Hp} {s : Shared} {a C dx : Addr} {fs : List (Str × V)} {f : Str} {v : V} {A : Around} {E : Value → Shared → Prop}
theorem getattr_ok {b : Bool} {Q : Value → Shared → Prop} (I : Inv X pins σ H s) (e : H a = some (.ins C dx fs)) (c : Cls X.K C) (n : NoAttr X.K C f) (l : fs.lookup f = some v)
    (h : ∀ u s', Inv X pins σ H s' → RelV v u → Q u s') : wpAny (model X.prog X.w) A (getAttr (.ref a) f b) Q E s := by
  obtain ⟨mA, O, r, _, _, _⟩ := ins_get I.hok e
  obtain ⟨u, hu, ru⟩ := RelO.some_of (v := v) (o := mA f) (by rw [← l]; exact r f)
  exact get_map I.kIn O (c.get f) c.hd n hu (handed_of ru) (h u _ (I.tok _) ru)
theorem getmeth_ok {m : Str} {g : Addr} {pl : Sem Bool} {Q : Value × List Value → Shared → Prop} (I : Inv X pins σ H s) (e : H a = some (.ins C dx fs)) (c : Cls X.K C) (k : Meth X.K C m g) (l : fs.lookup m = none)
    (h : Q (.ref g, [.ref a]) s) : wpAny (model X.prog X.w) A (getMethod (.ref a) m pl) Q E s := by
  obtain ⟨mA, O, r, _, _, _⟩ := ins_get I.hok e
  have hn : mA m = none := RelO.none_of (by rw [← l]; exact r m)
  exact get_meth I.kIn O (c.get m) k.at_ k.fn hn h
theorem setattr_ok {y : V} {u : Value} {Q : Unit → Shared → Prop} (I : Inv X pins σ H s) (e : H a = some (.ins C dx fs)) (c : Cls X.K C) (n : NoAttr X.K C f) (hl : fs.length < 1000) (ry : RelV y u)
    (h : ∀ s', Inv X pins σ (upd H a (.ins C dx (putF f y fs))) s' → Q () s') : wpAny (model X.prog X.w) A (setAttr (.ref a) f u) Q E s := by
  obtain ⟨mA, O, r, wi, _, ho⟩ := ins_get I.hok e
  have hz : (fs.map (·.1)).length ≤ sizeLine := by rw [List.length_map, sizeLine_eq]; omega
  refine set_map I.kIn O c.sa c.po n.taker c.hd wi hz fun h' O' sb => h _ ?_
  have hd : ∃ o, h'.get? dx = some o := let ⟨o, _, _, e', _⟩ := O'.ns; ⟨o, e'⟩
  refine I.write (x := a) (e := dx) (by rw [e]; exact True.intro) (.inr ho) (fun b q hb z => (sb.2 b hb).trans z) hd ?_
  refine ⟨by rw [upd_ne O.ne]; exact ho, ?_, O.ne, O'.obj, _, O'.ns, fun g => ?_, fun g hg => ?_⟩
  · have := length_putF f y fs; omega
  · show RelO ((putF f y fs).lookup g) (if g = f then some u else mA g)
    rw [lookup_putF]
    by_cases q : g = f
    · rw [if_pos q, if_pos q]; exact ry
    · rw [if_neg q, if_neg q]; exact r g
  · by_cases q : g = f
    · rw [q]; exact (keys_putF f y fs).1
    · refine (keys_putF f y fs).2 g (wi g fun z => hg ?_)
      show (if g = f then some u else mA g) = none
      rw [if_neg q]; exact z
theorem Inv.made (I : Inv X pins σ H s) : Inv X pins σ (upd (upd H s.heap.objs.size (.own (s.heap.objs.size + 1))) (s.heap.objs.size + 1) (.ins C s.heap.objs.size []))
    { s with heap := (s.heap.push PySem.W.emptyDict).push (PySem.W.instObj C s.heap.objs.size) } := by
  have e1 : (s.heap.push PySem.W.emptyDict).get? s.heap.objs.size = some PySem.W.emptyDict := Heap.get?_push_size s.heap rfl
  have e2 : ((s.heap.push PySem.W.emptyDict).push (PySem.W.instObj C s.heap.objs.size)).get? (s.heap.objs.size + 1) = some (PySem.W.instObj C s.heap.objs.size) := by
    have := Heap.get?_push_size (s.heap.push PySem.W.emptyDict) (o := PySem.W.instObj C s.heap.objs.size) rfl
    rwa [Heap.size_push] at this
  have e3 : (s.heap.push PySem.W.emptyDict).Ns s.heap.objs.size (fun _ => none) := ⟨PySem.W.emptyDict, #[], _, e1, rfl, (fun e he => absurd he (by simp)), fun _ => rfl⟩
  have I1 := I.laid (a := s.heap.objs.size) (o := .own (s.heap.objs.size + 1)) (h' := s.heap.push PySem.W.emptyDict) (t' := s.toks) (fun b u q => Heap.get?_push_of_some _ q) (Nat.le_refl _) ⟨_, e1⟩
  refine I1.laid (a := s.heap.objs.size + 1) (o := .ins C s.heap.objs.size []) (t' := s.toks) (fun b u q => Heap.get?_push_of_some _ q) (Nat.le_of_eq (Heap.size_push _ _)) ?_
  have ne : s.heap.objs.size ≠ s.heap.objs.size + 1 := Nat.ne_of_lt (Nat.lt_succ_self _)
  refine ⟨by rw [upd_ne ne, upd_same], Nat.zero_le _, ne, e2, fun _ => none, (Heap.Ns1.of_empty e3).at fun o q => Heap.get?_push_of_some _ q, fun _ => True.intro, fun y hy => absurd rfl hy⟩
theorem attr_of {prog : Program} {w : World} {env : Env} {e : Expr} {f : Str} {pos : Pos} {s : Shared} {Q : Value → Shared → Prop} (hb : attributeBase e f env (eval e env) = eval e env)
    (h : wpAny (model prog w) A (eval e env) (fun o s₁ => wpAny (model prog w) A (getAttr o f true) Q E s₁) E s) : wpAny (model prog w) A (eval (.Attribute e f pos) env) Q E s :=
  Attribute_any_ h (by rw [arm_eval_Attribute, hb])
end
inductive xFld (K : PySem.W.Frag) (f : Str) (x : V) (H1 : Hp) (Q : VK) : Prop
  | mk (a C dx : Addr) (fs : List (Str × V)) (v : V) (e : x = .ref a) (h : H1 a = some (.ins C dx fs)) (c : Cls K C) (n : NoAttr K C f) (l : fs.lookup f = some v) (q : Q v H1) : xFld K f x H1 Q
noncomputable def tFld (K : PySem.W.Frag) (ta : TE) (f : Str) : TE := fun σ H Q => ta σ H fun x H1 => xFld K f x H1 Q
inductive xSet (K : PySem.W.Frag) (f : Str) (x y : V) (H2 : Hp) (Q : Hp → Prop) : Prop
  | mk (a C dx : Addr) (fs : List (Str × V)) (e : x = .ref a) (h : H2 a = some (.ins C dx fs)) (c : Cls K C) (n : NoAttr K C f) (l : fs.length < 1000) (q : Q (upd H2 a (.ins C dx (putF f y fs)))) : xSet K f x y H2 Q
noncomputable def sFld (K : PySem.W.Frag) (ta tv : TE) (f : Str) : TS := fun D σ H => tv σ H fun y H1 => ta σ H1 fun x H2 => xSet K f x y H2 (D.nx σ)
noncomputable def InOp (X : Cx) (op : Operator) (rd : V → V → Hp → VK → Prop) : Prop :=
  ∀ (pins : List (Addr × Obj)) (s : Shared) (σ : St) (H : Hp) (x y : V) (u v : Value) (Q : VK), Inv X pins σ H s → RelV x u → RelV y v → rd x y H Q → wpAny (model X.prog X.w) X.A (inplaceOp op u v) (EP X pins σ Q) X.xe s
noncomputable def sFldAug (K : PySem.W.Frag) (ta tv : TE) (rd : V → V → Hp → VK → Prop) (f : Str) : TS := fun D σ H => ta σ H fun x H1 => ∃ a C dx fs v, x = .ref a ∧ H1 a = some (.ins C dx fs) ∧ Cls K C ∧ NoAttr K C f ∧ fs.lookup f = some v ∧
  tv σ H1 fun y H2 => rd v y H2 fun z H3 => ∃ dx' fs', H3 a = some (.ins C dx' fs') ∧ fs'.length < 1000 ∧ D.nx σ (upd H3 a (.ins C dx' (putF f z fs')))
section
variable {X : Cx} {o e value : Expr} {f : Str} {pos pos' tpos : Pos} {ta tv : TE}
theorem pe_fld (he : PE X e ta) (hb : attributeBase e f X.env (eval e X.env) = eval e X.env) : PE X (.Attribute e f pos) (tFld X.K ta f) := by
  intro pins s σ H Q I h
  refine attr_of hb (thn (he pins s σ H _ I h) fun u s1 z__ => ?_)
  obtain ⟨x, H1, I1, rx, a, C, dx, fs, v, ex, ea, c, n, l, q⟩ := z__
  subst ex
  obtain rfl : u = Value.ref a := rx
  exact getattr_ok I1 ea c n l fun u' s2 I2 ru => ⟨v, H1, I2, ru, q⟩
theorem ps_fld (ha : PE X o ta) (hv : PE X value tv) (hs : swapsWith value (some (.Attribute o f pos')) pos.line X.env = pure false) : PS X (.Assign [.Attribute o f pos'] value pos) (sFld X.K ta tv f) := by
  intro pins s σ H D I h
  refine plainObj_wpAny_Assign_Attribute (thn (hv pins s σ H _ I h) fun u s1 ⟨y, H1, I1, ry, q⟩ => thn (ha pins s1 σ H1 _ I1 q) fun ov s2 z__ => ?_) hs
  obtain ⟨x, H2, I2, rx, a, C, dx, fs, ex, ea, c, n, l, q2⟩ := z__
  subst ex
  obtain rfl : ov = Value.ref a := rx
  exact setattr_ok I2 ea c n l ry fun s3 I3 => ⟨σ, _, I3, q2⟩
theorem ps_fldaug {op : Operator} {rd : V → V → Hp → VK → Prop} (ha : PE X o ta) (hv : PE X value tv) (hop : InOp X op rd) : PS X (.AugAssign (.Attribute o f tpos) op value pos) (sFldAug X.K ta tv rd f) := by
  intro pins s σ H D I h
  refine wpAny_AugAssign_AttributeAny (thn (ha pins s σ H _ I h) fun ov s1 z__ => ?_)
  obtain ⟨x, H1, I1, rx, a, C, dx, fs, v, ex, ea, c, n, l, q⟩ := z__
  subst ex
  obtain rfl : ov = Value.ref a := rx
  refine getattr_ok I1 ea c n l fun u s2 I2 ru => thn (hv pins s2 σ H1 _ I2 q) fun w3 s3 ⟨y, H2, I3, ry, q3⟩ => thn (hop pins s3 σ H2 v y u w3 _ I3 ru ry q3) fun w4 s4 z__ => ?_
  obtain ⟨z, H3, I4, rz, dx', fs', ea', l', q4⟩ := z__
  exact setattr_ok I4 ea' c n l' rz fun s5 I5 => ⟨σ, _, I5, q4⟩
end
section
variable {X : Cx} {pins : List (Addr × Obj)} {σ : St} {H : Hp} {s : Shared} {A : Around} {E : Value → Shared → Prop} {Q : Value → Shared → Prop} {c : Value} {b : Bool}
end
end L2
namespace L2
open PySem PySem.Spec PyProof.Rows
structure Room (k : Nat) (A : Around) : Prop where
  hd : A.handled = none
  dp : A.depth + 3 * k + 5 < recursionLimit
  un : A.units + 16 * k + 200 < cLine
theorem Room.mono {j k : Nat} {A : Around} (r : Room k A) (h : j ≤ k) : Room j A := ⟨r.hd, by have := r.dp; omega, by have := r.un; omega⟩
theorem Room.deeper {k : Nat} {A : Around} (r : Room (k + 1) A) (env : Env) : Room k (A.deeper env) :=
  ⟨r.hd, by have := r.dp; show A.depth + 1 + 3 * k + 5 < _; omega, by have := r.un; show A.units + 3 + 16 * k + 200 < _; omega⟩
theorem make_depth {A : Around} {C : Addr} {us : List Value} {kw : List (Str × Value)} : (A.under (.builtin "type.__call__" ⟨.ref C :: us, kw⟩)).depth = A.depth + 1 := by
  first | rfl | simp [Around.under, Code.weight, Code.isCreation, Code.isGuard, Code.isCaller, Code.frames, Code.isFrame, guardIds]
theorem make_units {A : Around} {C : Addr} {us : List Value} {kw : List (Str × Value)} : (A.under (.builtin "type.__call__" ⟨.ref C :: us, kw⟩)).units = A.units + 1 := by
  first | rfl | simp [Around.under, Code.cUnits, Code.frames, Code.isFrame]
theorem Room.make {k : Nat} {A : Around} (r : Room (k + 1) A) (C : Addr) (us : List Value) (kw : List (Str × Value)) : Room k (A.under (.builtin "type.__call__" ⟨.ref C :: us, kw⟩)) :=
  ⟨r.hd, by have := r.dp; rw [make_depth]; omega, by have := r.un; rw [make_units]; omega⟩
theorem Room.depth {k : Nat} {A : Around} (r : Room k A) : A.depth < recursionLimit := by have := r.dp; omega
noncomputable def tNil : TA := fun _ H Q => Q [] H
noncomputable def tCons (ta : TE) (tr : TA) : TA := fun σ H Q => ta σ H fun x H1 => tr σ H1 fun xs H2 => Q (x :: xs) H2
section
variable {X : Cx} {e : Expr} {es : List Expr} {te : TE} {t : TA} {pos : Pos}
theorem pa_nil : PA X [] tNil := fun _ _ _ _ H Q I h => Calls.spliced_nil ⟨[], H, I, .nil, h⟩
theorem pa_cons (ha : PE X e te) (hr : PA X es t) (hs : starEach (e :: es) X.env = (false, eval e X.env) :: starEach es X.env := by rfl) : PA X (e :: es) (tCons te t) := by
  intro pos pins s σ H Q I h
  rw [hs]
  show wpAny _ _ (spliced ((false, eval e X.env) :: backTo pos (starEach es X.env))) _ _ s
  refine Calls.spliced_cons (thn (ha pins s σ H _ I h) fun u s1 z__ => ?_)
  obtain ⟨x, H1, I1, r1, q1⟩ := z__
  exact thn (hr pos pins s1 σ H1 _ I1 q1) fun us s2 ⟨xs, H2, I2, r2, q2⟩ => ⟨x :: xs, H2, I2, .cons r1 r2, q2⟩
inductive xTup (xs : List V) (H : Hp) (Q : VK) : Prop
  | mk (z : xs.length ≤ sizeLine) (q : ∀ p, H p = none → Q (.ref p) (upd H p (.tup xs))) : xTup xs H Q
noncomputable def tTup (t : TA) : TE := fun σ H Q => t σ H fun xs H1 => xTup xs H1 Q
inductive xLst (xs : List V) (H : Hp) (Q : VK) : Prop
  | mk (z : xs.length ≤ sizeLine) (q : ∀ p, H p = none → Q (.ref p) (upd H p (.lst xs))) : xLst xs H Q
noncomputable def tLst (t : TA) : TE := fun σ H Q => t σ H fun xs H1 => xLst xs H1 Q
theorem pe_tup {x1} (h : PA X es t) : PE X (.Tuple es x1 pos) (tTup t) := by
  intro pins s σ H Q I hq
  refine wpAny_Tuple_spliced (thn (h pos pins s σ H _ I hq) fun us s1 ⟨xs, H1, I1, r, z, q⟩ => ⟨by rw [← r.length]; exact z, ?_⟩)
  have hf : H1 s1.heap.objs.size = none := I1.hok.fresh (Nat.le_refl _)
  refine ⟨.ref s1.heap.objs.size, upd H1 s1.heap.objs.size (.tup xs), I1.laid (t' := s1.toks) (fun b u e => Heap.get?_push_of_some _ e) (Nat.le_refl _) ?_, rfl, q _ hf⟩
  exact ⟨z, us, r, ⟨_, Heap.get?_push_size _ rfl, rfl, _, rfl⟩⟩
theorem pe_lst (h : PA X es t) : PE X (.List es pos) (tLst t) := by
  intro pins s σ H Q I hq
  refine wpAny_List_spliced (thn (h pos pins s σ H _ I hq) fun us s1 ⟨xs, H1, I1, r, z, q⟩ => ⟨by rw [← r.length]; exact z, ?_⟩)
  have hf : H1 s1.heap.objs.size = none := I1.hok.fresh (Nat.le_refl _)
  refine ⟨.ref s1.heap.objs.size, upd H1 s1.heap.objs.size (.lst xs), I1.laid (t' := s1.toks) (fun b u e => Heap.get?_push_of_some _ e) (Nat.le_refl _) ?_, rfl, q _ hf⟩
  exact ⟨z, us, 0, r, Heap.get?_push_size _ rfl⟩
end
noncomputable abbrev Sp := List V → Hp → VK → XK → Prop
noncomputable abbrev CXT := List Env → Hp → Shared → XK → Value → Shared → Prop
structure Env0 (P : Program) (w : World) (K : PySem.W.Frag) (mg : Str → Option Value) (base : Heap) (A : Around) (outer : List Env) (s : Shared) (H : Hp) : Prop where
  frames : A.frames = some outer
  mod : Mod K mg base
  bs : ∀ b o, base.get? b = some o → s.heap.get? b = some o ∧ H b = none
  bsz : base.objs.size ≤ s.heap.objs.size
  funs : s.heap.FunFrames base outer
  frf : ∀ b ∈ frs outer, H b = none
  hok : HOk P w H s.heap
  bare : AllBare s.gens
noncomputable def CE (outer : List Env) (P : Program) (w : World) (H : Hp) (s : Shared) (Q : VK) (u : Value) (s' : Shared) : Prop :=
  ∃ v H', s'.os = s.os ∧ AllBare s'.gens ∧ Un (frs outer) [] H H' s.heap s'.heap ∧ HOk P w H' s'.heap ∧ RelV v u ∧ Q v H'
noncomputable def CR (CX : CXT) (outer : List Env) (P : Program) (w : World) (H : Hp) (s : Shared) (Q : VK) (E : XK) (r : Result) (s' : Shared) : Prop :=
  match r with
  | .ok (.ret u) => CE outer P w H s Q u s'
  | .ok _ => False
  | .error e => CX outer H s E e s'
structure FnOk (P : Program) (w : World) (K : PySem.W.Frag) (mg : Str → Option Value) (base : Heap) (CX : CXT) (k : Nat) (f : Addr) (fd : FuncData) (ps : List Str) (sp : Sp) : Prop where
  len : ∀ vs H Q E, sp vs H Q E → vs.length = ps.length
  run : ∀ (A : Around) (outer : List Env) (s : Shared) (H : Hp) (args : Args) (us : List Value) (vs : List V) (Q : VK) (E : XK), Room k A → Env0 P w K mg base A outer s H → BindsTo s fd args (ps.zip us) → Vals vs us → sp vs H Q E →
    codeAny (model P w) A (.call (.ref f) args) (CR CX outer P w H s Q E) s
theorem FnOk.mono {P : Program} {w : World} {K : PySem.W.Frag} {mg : Str → Option Value} {base : Heap} {CX : CXT} {j k : Nat} {f : Addr} {fd : FuncData} {ps : List Str} {sp : Sp} (F : FnOk P w K mg base CX j f fd ps sp) (h : j ≤ k) :
    FnOk P w K mg base CX k f fd ps sp := ⟨F.len, fun A outer s H args us vs Q E hr => F.run A outer s H args us vs Q E (hr.mono h)⟩
theorem Env0.make {P : Program} {w : World} {K : PySem.W.Frag} {mg : Str → Option Value} {base : Heap} {A : Around} {outer : List Env} {s : Shared} {H : Hp} (e : Env0 P w K mg base A outer s H) (C : Addr) (us : List Value) (kw : List (Str × Value)) :
    Env0 P w K mg base (A.under (.builtin "type.__call__" ⟨.ref C :: us, kw⟩)) outer s H := ⟨by first | exact e.frames | (simpa [Around.under, Code.envs, Code.isFrame, pushEnvs] using e.frames), e.mod, e.bs, e.bsz, e.funs, e.frf, e.hok, e.bare⟩
section
variable {X : Cx} {pins : List (Addr × Obj)} {σ : St} {H : Hp} {s s' : Shared}
theorem Inv.env0 (I : Inv X pins σ H s) : Env0 X.prog X.w X.K X.mg X.base X.A X.stack s H :=
  ⟨I.ok.frames, I.ok.mod, I.bs, Nat.le_trans I.ok.bsz I.sz, I.stack, I.stkFree, I.hok, I.bare⟩
theorem Inv.after {Q : VK} {u : Value} (I : Inv X pins σ H s) (h : CE X.stack X.prog X.w H s Q u s') : EP X pins σ Q u s' := by
  obtain ⟨v, H', os, bare, un, hok, r, q⟩ := h
  obtain ⟨hh, g, d, t, os'⟩ := s'
  obtain rfl : os' = s.os := os
  exact ⟨v, H', I.call (h' := hh) (g' := g) (d' := d) (t' := t) (ch := []) un hok bare (fun b z => absurd z (by simp)), r, q⟩
end
noncomputable def tCall (sp : Sp) (dvs : List V) (E : XK) (t : TA) : TE := fun σ H Q => t σ H fun vs H1 => sp (vs ++ dvs) H1 Q E
inductive xMeth (C : Addr) (m : Str) (x : V) (H1 : Hp) (R : Prop) : Prop
  | mk (a dx : Addr) (fs : List (Str × V)) (e : x = .ref a) (h : H1 a = some (.ins C dx fs)) (l : fs.lookup m = none) (q : R) : xMeth C m x H1 R
noncomputable def tMeth (C : Addr) (m : Str) (sp : Sp) (dvs : List V) (E : XK) (ta : TE) (t : TA) : TE := fun σ H Q => ta σ H fun x H1 => xMeth C m x H1 (t σ H1 fun vs H2 => sp (x :: (vs ++ dvs)) H2 Q E)
noncomputable def tMake (C : Addr) (sp : Sp) (dvs : List V) (E : XK) (t : TA) : TE := fun σ H Q => t σ H fun vs H1 => ∀ x dx, H1 x = none → H1 dx = none → dx ≠ x →
  sp (.ref x :: (vs ++ dvs)) (upd (upd H1 dx (.own x)) x (.ins C dx [])) (fun v H2 => v = .non ∧ Q (.ref x) H2) E
noncomputable def Binds (K : PySem.W.Frag) (fd : FuncData) (ps : List Str) (ds : List Value) : Prop :=
  ∀ (s : Shared) (us : List Value), K.In s.heap → (us ++ ds).length = ps.length → BindsTo s fd ⟨us, []⟩ (ps.zip (us ++ ds))
theorem Binds.all {K : PySem.W.Frag} {fd : FuncData} {ps : List Str} (h : ∀ us : List Value, us.length = ps.length → bindArgs fd ⟨us, []⟩ = pure (ps.zip us)) : Binds K fd ps [] := fun s us _ hl => by
  rw [List.append_nil] at hl ⊢
  exact .of_eq (h us hl)
noncomputable def Passes (CX : CXT) (X : Cx) (E : XK) : Prop := ∀ (pins : List (Addr × Obj)) (σ : St) (H : Hp) (s : Shared) (e : Value) (s' : Shared), Inv X pins σ H s → CX X.stack H s E e s' → X.xe e s'
section
variable {X : Cx} {CX : CXT} {k : Nat} {f C : Addr} {fd : FuncData} {ps : List Str} {sp : Sp} {dvs : List V} {ds : List Value} {E : XK} {x m : Str} {p pos apos : Pos} {e o : Expr} {es : List Expr} {ta : TE} {t : TA}
theorem run_fn {pins : List (Addr × Obj)} {σ : St} {H : Hp} {s : Shared} {Q : VK} {us : List Value} {vs : List V} (F : FnOk X.prog X.w X.K X.mg X.base CX k f fd ps sp) (hr : Room k X.A) (hb : Binds X.K fd ps ds) (hd : Vals dvs ds) (hx : Passes CX X E)
    (I : Inv X pins σ H s) (r : Vals vs us) (h : sp (vs ++ dvs) H Q E) : wpAny (model X.prog X.w) X.A (call (.ref f) us) (EP X pins σ Q) X.xe s := by
  have r2 : Vals (vs ++ dvs) (us ++ ds) := r.append hd
  have hl : (us ++ ds).length = ps.length := by rw [← r2.length]; exact F.len _ _ _ _ h
  refine wpAny_call (codeAny_mono (F.run X.A X.stack s H ⟨us, []⟩ (us ++ ds) (vs ++ dvs) Q E hr I.env0 (hb s us I.kIn hl) r2 h) fun r s' hq => ?_)
  cases r with
  | error e => exact hx pins σ H s e s' I hq
  | ok fl =>
    cases fl with
    | ret u => exact I.after hq
    | next => exact False.elim hq
    | brk => exact False.elim hq
    | cont => exact False.elim hq
theorem pe_call (F : FnOk X.prog X.w X.K X.mg X.base CX k f fd ps sp) (hr : Room k X.A) (hg : Gl X x) (hm : X.mg x = some (.ref f)) (hk : PySem.W.keepIn X.K (.ref f) = true) (hb : Binds X.K fd ps ds) (hd : Vals dvs ds) (hx : Passes CX X E)
    (ha : PA X (e :: es) t) (hdb : (x == ("__debug__" : Str)) = false := by decide) (he : starEach (e :: es) X.env = (false, eval e X.env) :: starEach es X.env := by rfl) (hpl : (backTo pos (starEach es X.env)).any (·.1) = false := by rfl) :
    PE X (.Call (.Name x p) (e :: es) [] pos) (tCall sp dvs E t) := by
  intro pins s σ H Q I h
  refine wpAny_Call_Name_kw (ld_glob I hg hm ?_ hdb)
  refine PySem.W.callWith_K (h₀ := X.base) I.ok.mod.kin hk (thn (ha pos pins s σ H _ I h) fun us s1 ⟨vs, H1, I1, r, q⟩ => ⟨I1.kIn, ?_⟩) he hpl
  exact run_fn F hr hb hd hx I1 r q
theorem pe_meth {pl : Sem Bool} (he : PE X o ta) (c : Cls X.K C) (hm : Meth X.K C m f) (F : FnOk X.prog X.w X.K X.mg X.base CX k f fd ps sp) (hr : Room k X.A) (hb : Binds X.K fd ps ds) (hd : Vals dvs ds) (hx : Passes CX X E) (ha : PA X (e :: es) t)
    (hst : starEach (e :: es) X.env = (false, eval e X.env) :: starEach es X.env := by rfl) (hpl : (backTo pos (starEach es X.env)).any (·.1) = false := by rfl)
    (ht : eval (.Call (.Attribute o m apos) (e :: es) [] pos) X.env = (do
      let ov ← eval o X.env
      standAt apos.atName
      let (f, first) ← holding [ov] (getMethod ov m pl)
      callWith pos f first (backTo pos (starEach (e :: es) X.env)) (backToKw pos (keywordEach [] X.env))) := by rfl) :
    PE X (.Call (.Attribute o m apos) (e :: es) [] pos) (tMeth C m sp dvs E ta t) := by
  intro pins s σ H Q I h
  refine PySem.W.methodCall_KW (pl := pl) (thn (he pins s σ H _ I h) fun u s1 z__ => ?_) ht
  obtain ⟨x, H1, I1, rx, a, dx, fs, ex, ea, l, q⟩ := z__
  subst ex
  obtain rfl : u = Value.ref a := rx
  refine getmeth_ok I1 ea c hm l ?_
  refine PySem.W.callWith_K (first := [.ref a]) (h₀ := X.base) I.ok.mod.kin hm.kp (thn (ha pos pins s1 σ H1 _ I1 q) fun us s2 ⟨vs, H2, I2, r, q2⟩ => ⟨I2.kIn, ?_⟩) hst hpl
  exact run_fn (us := .ref a :: us) (vs := .ref a :: vs) F hr hb hd hx I2 (.cons rfl r) q2
theorem pe_meth0 {pl : Sem Bool} (he : PE X o ta) (c : Cls X.K C) (hm : Meth X.K C m f) (F : FnOk X.prog X.w X.K X.mg X.base CX k f fd ps sp) (hr : Room k X.A) (hb : Binds X.K fd ps ds) (hd : Vals dvs ds) (hx : Passes CX X E)
    (ht : eval (.Call (.Attribute o m apos) [] [] pos) X.env = (do
      let ov ← eval o X.env
      standAt apos.atName
      let (f, first) ← holding [ov] (getMethod ov m pl)
      callWith pos f first (backTo pos (starEach [] X.env)) (backToKw pos (keywordEach [] X.env))) := by rfl) :
    PE X (.Call (.Attribute o m apos) [] [] pos) (tMeth C m sp dvs E ta tNil) := by
  intro pins s σ H Q I h
  refine PySem.W.methodCall_KW (pl := pl) (thn (he pins s σ H _ I h) fun u s1 z__ => ?_) ht
  obtain ⟨x, H1, I1, rx, a, dx, fs, ex, ea, l, q⟩ := z__
  subst ex
  obtain rfl : u = Value.ref a := rx
  refine getmeth_ok I1 ea c hm l ?_
  exact PySem.W.callWith_K0 (first := [.ref a]) I1.kIn hm.kp (run_fn (us := [.ref a]) (vs := [.ref a]) F hr hb hd hx I1 (.cons rfl .nil) q)
structure Mk (K : PySem.W.Frag) (C f : Addr) : Prop where
  makes : PySem.W.makesIn K C = true
  init : PySem.W.findIn K (.ref C) "__init__" = some (some (.ref f))
  fn : PySem.W.isFn K (.ref f) = true
  kp : PySem.W.keepIn K (.ref C) = true
theorem run_make {pins : List (Addr × Obj)} {σ : St} {H : Hp} {s : Shared} {Q : VK} {us : List Value} {vs : List V} (M : Mk X.K C f) (F : FnOk X.prog X.w X.K X.mg X.base CX k f fd ps sp) (hr : Room (k + 1) X.A) (hb : Binds X.K fd ps ds) (hd : Vals dvs ds)
    (hx : Passes CX X E) (I : Inv X pins σ H s) (r : Vals vs us)
    (h : ∀ x dx, H x = none → H dx = none → dx ≠ x → sp (.ref x :: (vs ++ dvs)) (upd (upd H dx (.own x)) x (.ins C dx [])) (fun v H2 => v = .non ∧ Q (.ref x) H2) E) :
    wpAny (model X.prog X.w) X.A (call (.ref C) us) (EP X pins σ Q) X.xe s := by
  have hq := h (s.heap.objs.size + 1) s.heap.objs.size (I.hok.fresh (Nat.le_succ _)) (I.hok.fresh (Nat.le_refl _)) (Nat.ne_of_lt (Nat.lt_succ_self _))
  have I2 := Inv.made (C := C) I
  have r2 : Vals (V.ref (s.heap.objs.size + 1) :: (vs ++ dvs)) (Value.ref (s.heap.objs.size + 1) :: (us ++ ds)) := .cons rfl (r.append hd)
  have hl : (Value.ref (s.heap.objs.size + 1) :: us ++ ds).length = ps.length := by
    have e := r2.length
    rw [F.len _ _ _ _ hq] at e
    exact e.symm
  refine wpAny_call (make_map (f := f) I.kIn M.makes M.init (beq_iff_eq.mp M.fn) (codeAny_mono (F.run _ X.stack _ _ ⟨Value.ref (s.heap.objs.size + 1) :: us, []⟩ (Value.ref (s.heap.objs.size + 1) :: (us ++ ds)) _ _ E (hr.make C us [])
    (I2.env0.make C us []) (hb _ (Value.ref (s.heap.objs.size + 1) :: us) I2.kIn hl) r2 hq) fun r s' hq' => ?_))
  cases r with
  | error e => exact hx pins σ _ _ e s' I2 hq'
  | ok fl =>
    cases fl with
    | ret u =>
      obtain ⟨v, H', I3, rv, ev, q3⟩ := I2.after hq'
      subst ev
      exact ⟨rv, ⟨V.ref (s.heap.objs.size + 1), H', I3, rfl, q3⟩⟩
    | next => exact False.elim hq'
    | brk => exact False.elim hq'
    | cont => exact False.elim hq'
theorem pe_make0 (M : Mk X.K C f) (F : FnOk X.prog X.w X.K X.mg X.base CX k f fd ps sp) (hr : Room (k + 1) X.A) (hg : Gl X x) (hm : X.mg x = some (.ref C)) (hb : Binds X.K fd ps ds) (hd : Vals dvs ds) (hx : Passes CX X E)
    (hdb : (x == ("__debug__" : Str)) = false := by decide) : PE X (.Call (.Name x p) [] [] pos) (tMake C sp dvs E tNil) := by
  intro pins s σ H Q I h
  refine wpAny_Call_Name_kw (ld_glob I hg hm ?_ hdb)
  exact PySem.W.callWith_K0 I.kIn M.kp (run_make (us := []) M F hr hb hd hx I .nil h)
end
section
variable {X : Cx} {CX : CXT} {k : Nat} {f C : Addr} {fd : FuncData} {ps ks : List Str} {sp : Sp} {E : XK} {x m : Str} {p pos apos kpos : Pos} {e o : Expr} {es : List Expr} {kws : List Keyword} {te ta : TE} {t tk : TA} {nm : Option Str}
variable {g : List Value → List Value → List Value} {gV : List V → List V → List V}
end
structure FnScope (N P : List Str) (sc : Scope) : Prop where
  kind : sc.kind = .function
  co : sc.isCoroutine = false
  gen : sc.isGenerator = false
  nd : N.Nodup
  pre : N.take P.length = P
  par : ∀ x ∈ P, sc.names.lookup x = some .local ∨ sc.names.lookup x = some .cell
  nofree : ∀ y ∈ sc.names, y.2 ≠ .free
theorem bindL_out {kindOf : Str → Option NameKind} {x : Str} : ∀ {binds : List (Str × Value)} {m : Str → Option Value}, (∀ v, (x, v) ∉ binds) → bindL kindOf binds m x = m x
  | [], _, _ => rfl
  | (n, v) :: r, m, h => by
    unfold bindL
    rw [bindL_out fun w hw => h w (List.mem_cons_of_mem _ hw)]
    split
    · have : x ≠ n := by rintro rfl; exact h v List.mem_cons_self
      simp [this]
    · rfl
theorem bindC_out {kindOf : Str → Option NameKind} {x : Str} : ∀ {binds : List (Str × Value)} {m : Str → Option Value}, (∀ v, (x, v) ∉ binds) → bindC kindOf binds m x = m x
  | [], _, _ => rfl
  | (n, v) :: r, m, h => by
    unfold bindC
    rw [bindC_out fun w hw => h w (List.mem_cons_of_mem _ hw)]
    split
    · rfl
    · have : x ≠ n := by rintro rfl; exact h v List.mem_cons_self
      simp [this]
theorem bindL_get {kindOf : Str → Option NameKind} {x : Str} {v : Value} : ∀ {P : List Str} {vs : List Value} {i : Nat} {m : Str → Option Value}, P.Nodup → P[i]? = some x → vs[i]? = some v → kindOf x = some .local →
    bindL kindOf (P.zip vs) m x = some v
  | [], _, _, _, _, h, _, _ => by simp at h
  | _ :: _, [], _, _, _, _, h, _ => by simp at h
  | p :: P, w :: vs, 0, m, nd, h1, h2, hk => by
    simp at h1 h2; subst h1; subst h2
    show bindL kindOf ((p, w) :: P.zip vs) m p = _
    unfold bindL
    rw [bindL_out fun v hv => (List.nodup_cons.mp nd).1 (List.of_mem_zip hv).1, if_pos hk]
    simp
  | p :: P, w :: vs, i + 1, m, nd, h1, h2, hk => by
    show bindL kindOf ((p, w) :: P.zip vs) m x = _
    unfold bindL
    exact bindL_get (i := i) (List.nodup_cons.mp nd).2 (by simpa using h1) (by simpa using h2) hk
theorem bindC_get {kindOf : Str → Option NameKind} {x : Str} {v : Value} : ∀ {P : List Str} {vs : List Value} {i : Nat} {m : Str → Option Value}, P.Nodup → P[i]? = some x → vs[i]? = some v → kindOf x ≠ some .local →
    bindC kindOf (P.zip vs) m x = some v
  | [], _, _, _, _, h, _, _ => by simp at h
  | _ :: _, [], _, _, _, _, h, _ => by simp at h
  | p :: P, w :: vs, 0, m, nd, h1, h2, hk => by
    simp at h1 h2; subst h1; subst h2
    show bindC kindOf ((p, w) :: P.zip vs) m p = _
    unfold bindC
    rw [bindC_out fun v hv => (List.nodup_cons.mp nd).1 (List.of_mem_zip hv).1, if_neg hk]
    simp
  | p :: P, w :: vs, i + 1, m, nd, h1, h2, hk => by
    show bindC kindOf ((p, w) :: P.zip vs) m x = _
    unfold bindC
    exact bindC_get (i := i) (List.nodup_cons.mp nd).2 (by simpa using h1) (by simpa using h2) hk
noncomputable def start (N : List Str) (vs : List V) : St := vs.map some ++ List.replicate (N.length - vs.length) none
noncomputable def cxOf (CX : CXT) (P : Program) (w : World) (K : PySem.W.Frag) (mg : Str → Option Value) (base : Heap) (N : List Str) (qual : Str) (scope : Scope) (f : Addr) (cd : Value) (A : Around) (outer : List Env) (s : Shared) (H : Hp) (E : XK) : Cx where
  prog := P
  w := w
  K := K
  mg := mg
  base := base
  A := A.deeper (envOfC qual scope s.heap.objs.size f cd)
  N := N
  s_0 := s
  H_0 := H
  env := envOfC qual scope s.heap.objs.size f cd
  outer := outer
  stack := envOfC qual scope s.heap.objs.size f cd :: outer
  ex := []
  calm := true
  fn := fun _ => true
  pn := []
  xe := fun e s' => wpAny (model P w) (A.deeper (envOfC qual scope s.heap.objs.size f cd)) (leaving (envOfC qual scope s.heap.objs.size f cd) e) (fun _ s'' => CX outer H s E e s'') (fun e' s'' => CX outer H s E e' s'') s'
theorem cell_has {sc : Scope} {n : Nat} {x : Str} (h : sc.names.lookup x = some .cell) : ∃ c, (cellsFrom n sc.names []).lookup x = some c := by
  have q := PySem.W.cellsFrom_some sc.names n [] (.inl h)
  exact Option.isSome_iff_exists.mp q
theorem inv_start {CX : CXT} {P : Program} {w : World} {K : PySem.W.Frag} {mg : Str → Option Value} {base : Heap} {N ps : List Str} {qual : Str} {scope : Scope} {f : Addr} {cd : Value} {A : Around} {outer : List Env} {s s1 : Shared} {H : Hp} {E : XK} {us : List Value} {vs : List V}
    (S : FnScope N ps scope) (hd : A.handled = none) (e0 : Env0 P w K mg base A outer s H) (hl : vs.length = ps.length) (r : Vals vs us)
    (x : InCallC s s.heap.objs.size (bindL (envOfC qual scope s.heap.objs.size f cd).kindOf (ps.zip us) fun _ => none) (cellsFrom (s.heap.objs.size + 1) scope.names []) (bindC (envOfC qual scope s.heap.objs.size f cd).kindOf (ps.zip us) fun _ => none) s1) :
    Inv (cxOf CX P w K mg base N qual scope f cd A outer s H E) [] (start N vs) H s1 := by
  have hpl : ps.length ≤ N.length := by have := congrArg List.length S.pre; rw [List.length_take] at this; omega
  obtain ⟨h1, tk, rfl, hk⟩ := x.done
  have noA : ∀ b : Addr, b ∉ (cxOf CX P w K mg base N qual scope f cd A outer s H E).ex := fun b z => absurd (show b ∈ ([] : List Addr) from z) (by simp)
  refine ⟨⟨e0.mod, S.kind, rfl, rfl, Nat.le_refl _, fun y z c h1 h2 => ?_, fun y hy => ?_, fun y c _ h => ?_, fun _ => hd, Around.frames_deeper e0.frames, .inr ⟨rfl, rfl⟩, fun b z => absurd z (noA b), e0.bs, e0.bsz, fun b _ _ => noA b, fun b z => absurd z (noA b), e0.funs, e0.frf⟩,
    rfl, e0.bare, Un.kept hk, ⟨_, x.toInCall.ns, fun i y v h1 h2 h3 => ?_⟩, fun y c h => ⟨_, x.cell y c h⟩, e0.hok.fresh (Nat.le_refl _), fun y c h => ?_, fun p hp => absurd (show p ∈ ([] : List (Addr × Obj)) from hp) (by simp), e0.hok.kept hk, ?_⟩
  · exact name_of_addr x.apart (PySem.mem_of_lookup h1) (PySem.mem_of_lookup h2)
  · have hy : scope.names.lookup y = some .cell ∨ scope.names.lookup y = some .free := hy
    rcases hy with hy | hy
    · exact cell_has hy
    · exact absurd rfl (S.nofree _ (PySem.mem_of_lookup hy))
  · exact Nat.le_of_lt (x.above y c (PySem.mem_of_lookup h))
  · have hi : i < vs.length := by
      unfold start at h2
      by_cases hi : i < vs.length
      · exact hi
      · rw [List.getElem?_append_right (by simpa using hi)] at h2
        rw [List.getElem?_replicate] at h2
        split at h2 <;> cases h2
    have ha : vs[i]? = some v := by
      unfold start at h2
      rw [List.getElem?_append_left (by simpa using hi), List.getElem?_map] at h2
      cases e : vs[i]? with
      | none => rw [e] at h2; cases h2
      | some a => rw [e] at h2; cases h2; rfl
    obtain ⟨u, hu, rv⟩ := r.get ha
    have hp : ps[i]? = some y := by
      rw [← S.pre, List.getElem?_take_of_lt (by omega)]; exact h1
    have ndP : ps.Nodup := by rw [← S.pre]; exact S.nd.sublist (List.take_sublist _ _)
    refine ⟨u, rv, ?_⟩
    rcases S.par y (List.mem_of_getElem? hp) with k | k
    · exact .inl ⟨k, bindL_get ndP hp hu k⟩
    · obtain ⟨c, e⟩ := cell_has (n := s.heap.objs.size + 1) k
      refine .inr ⟨.inl k, c, e, ?_⟩
      have q := x.cell y c e
      rw [bindC_get ndP hp hu (by show scope.names.lookup y ≠ _; rw [k]; decide)] at q
      exact q
  · exact e0.hok.fresh (Nat.le_of_lt (x.above y c (PySem.mem_of_lookup h)))
  · unfold start
    show _ = N.length
    rw [List.length_append, List.length_map, List.length_replicate]
    omega
theorem fn_of {CX : CXT} {P : Program} {w : World} {K : PySem.W.Frag} {mg : Str → Option Value} {base : Heap} {k : Nat} {f : Addr} {name qual : Str} {params : Arguments} {body : List Stmt} {scope : Scope} {dV kV doc pm cdv ct oc : Value} {an od : Option Addr}
    {osl : Array (Option Value)} {N ps : List Str} {sp : Sp} (lk : K.lookup f = some ⟨oc, od, .func (PySem.W.fnOf name qual params body scope dV kV doc pm an cdv ct), osl⟩) (hcd : PySem.W.codeIn K cdv qual = true) (S : FnScope N ps scope)
    (len : ∀ vs H Q E, sp vs H Q E → vs.length = ps.length)
    (hbody : ∀ (A : Around) (outer : List Env) (s : Shared) (H : Hp) (vs : List V) (Q : VK) (E : XK), Room k (A.deeper (envOfC qual scope s.heap.objs.size f cdv)) → sp vs H Q E →
      ∃ t, PSs (cxOf CX P w K mg base N qual scope f cdv A outer s H E) body t ∧ t { nx := fun _ H' => Q .non H', rt := Q } (start N vs) H) :
    FnOk P w K mg base CX (k + 1) f (PySem.W.fnOf name qual params body scope dV kV doc pm an cdv ct) ps sp := by
  refine ⟨len, fun A outer s H args us vs Q E hr e0 hb r hsp => ?_⟩
  have hl := len _ _ _ _ hsp
  have KX : K.In s.heap := e0.mod.kin.keeps fun b o e => (e0.bs b o e).1
  have lim : s.heap.NoLimit := e0.mod.nolimit.keeps fun b o e => (e0.bs b o e).1
  have hkind : ∀ y ∈ ps.zip us, scope.names.lookup y.1 = some .local ∨ (scope.names.lookup y.1 = some .cell ∧ ((cellsFrom (s.heap.objs.size + 1) scope.names []).lookup y.1).isSome = true) := fun ⟨n, v⟩ hy => by
    rcases S.par n (List.of_mem_zip hy).1 with q | q
    · exact .inl q
    · exact .inr ⟨q, PySem.W.cellsFrom_some _ _ _ (.inl q)⟩
  refine codeAny_call_function hr.depth (KX _ _ lk) rfl S.co S.gen rfl (PySem.W.codeRec_of KX hcd) (hb _ _ _ _ ?_)
  refine wpAny_newFunctionEnv_cells S.kind hkind fun env he s1 x => ?_
  subst he
  refine ⟨lim.keeps x.toInCall.keep, codeAny_func ?_⟩
  obtain ⟨t, ht, hq⟩ := hbody A outer s H vs Q E (hr.deeper _) hsp
  have I : Inv (cxOf CX P w K mg base N qual scope f cdv A outer s H E) [] (start N vs) H s1 := inv_start S hr.hd e0 hl r x
  refine wpAny_mono (ht [] s1 (start N vs) H _ I hq) (fun fl s' hs => ?_) fun e s' hs => hs
  have fin : ∀ {σ' : St} {H' : Hp} {v : V} {u : Value}, Inv (cxOf CX P w K mg base N qual scope f cdv A outer s H E) [] σ' H' s' → RelV v u → Q v H' → CE outer P w H s Q u s' :=
    fun {σ' H' v u} J rv q => ⟨v, H', J.os, J.bare, J.base, J.hok, rv, q⟩
  cases fl with
  | ret u =>
    obtain ⟨v, σ', H', J, rv, q⟩ := hs
    exact fin J rv q
  | next =>
    obtain ⟨σ', H', J, q⟩ := hs
    exact fin (v := V.non) (u := Value.none) J rfl q
  | brk =>
    obtain ⟨_, _, _, q⟩ := hs
    exact False.elim q
  | cont =>
    obtain ⟨_, _, _, q⟩ := hs
    exact False.elim q
end L2
namespace L2
open PySem PySem.Spec PyProof.Rows
section
variable {X : Cx} {x : Str} {p pos : Pos} {e : Expr} {es : List Expr} {t : TA} {id T : String} {r : List V → Hp → VK → Prop}
noncomputable def tCB (r : List V → Hp → VK → Prop) (t : TA) : TE := fun σ H Q => t σ H fun vs H1 => r vs H1 Q
theorem pe_callB (hc : CallR X (.builtin id) r) (hg : Gl X x) (hm : X.mg x = none) (hv : bootBuiltins x = some (.builtin id)) (ha : PA X (e :: es) t) (hn : x ≠ "__name__" := by decide) (hdb : (x == ("__debug__" : Str)) = false := by decide)
    (he : starEach (e :: es) X.env = (false, eval e X.env) :: starEach es X.env := by rfl) (hpl : (backTo pos (starEach es X.env)).any (·.1) = false := by rfl) : PE X (.Call (.Name x p) (e :: es) [] pos) (tCB r t) := by
  intro pins s σ H Q I h
  refine wpAny_Call_Name_kw (ld_blt I hg hm hv ?_ hn hdb)
  exact PyProof.Rows.callWith_builtin1 (thn (ha pos pins s σ H _ I h) fun us s1 ⟨vs, H1, I1, r1, q1⟩ => hc pins s1 σ H1 vs us Q I1 r1 q1) he hpl
end
end L2
namespace HT
open PySem PyProof.Rows
section
open PySem.SeqAt
open PySem.AutoSeq1 (wpAny_loadPart')
open PySem.MeetsSeq PySem.MeetsSeq2 PySem.MeetsSeq3
end
section
variable {prog : Program} {w : World} {A : Around} {E : Value → Shared → Prop} {s : Shared}
noncomputable def sIx (n d : Nat) : Option Int → Nat
  | none => d
  | some v => if v < 0 then (v + (n : Int)).toNat else min v.toNat n
theorem sIx_none (n d : Nat) : sIx n d none = d := rfl
theorem sIx_nat (n d k : Nat) : sIx n d (some (k : Int)) = min k n := by
  show (if (k : Int) < 0 then ((k : Int) + (n : Int)).toNat else min (k : Int).toNat n) = min k n
  rw [if_neg (by omega), Int.toNat_natCast]
end
end HT
namespace L2
open PySem PySem.Spec PyProof.Rows
noncomputable abbrev TO := St → Hp → (Option Int → Hp → Prop) → Prop
noncomputable def PO (X : Cx) (e : Option Expr) (t : TO) : Prop :=
  ∀ (pins : List (Addr × Obj)) (s : Shared) (σ : St) (H : Hp) (Q : Option Int → Hp → Prop), Inv X pins σ H s → t σ H Q →
    wpAny (model X.prog X.w) X.A (evalPart e X.env) (fun u s' => ∃ o H', Inv X pins σ H' s' ∧ IsPart u o ∧ Q o H') X.xe s
noncomputable def tNoPart : TO := fun _ H Q => Q none H
inductive xPart (x : V) (H : Hp) (Q : Option Int → Hp → Prop) : Prop
  | mk (i : Int) (e : x = .int i) (q : Q (some i) H) : xPart x H Q
noncomputable def tPart (t : TE) : TO := fun σ H Q => t σ H fun x H1 => xPart x H1 Q
theorem intsAre_of {ns : List Int} : ∀ {us : List Value}, Vals (ns.map V.int) us → IntsAre us ns := by
  induction ns with
  | nil => intro us r; rw [List.map_nil] at r; cases r; exact .nil
  | cons n ns ih =>
    intro us r
    rw [List.map_cons] at r
    cases r with
    | cons r1 r2 =>
      obtain ⟨t, e⟩ := r1
      subst e
      exact .cons n t (ih r2)
section
variable {X : Cx} {e : Expr} {te : TE} {lo hi : Option Expr} {tl th : TO} {pos p2 : Pos}
theorem po_none : PO X none tNoPart := by
  intro pins s σ H Q I h
  rw [evalPart_none]
  exact wpAny_pure ⟨none, H, I, .none, h⟩
theorem po_some (h : PE X e te) : PO X (some e) (tPart te) := by
  intro pins s σ H Q I hw
  rw [evalPart_some]
  refine thn (h pins s σ H _ I hw) fun u s1 z__ => ?_
  obtain ⟨x, H1, I1, r1, q1⟩ := z__
  obtain ⟨i, rfl, q⟩ := q1
  obtain ⟨t, rfl⟩ := r1
  exact ⟨some i, H1, I1, .int i t, q⟩
noncomputable def SlR (X : Cx) (r : V → Option Int → Option Int → Hp → VK → Prop) : Prop :=
  ∀ (pins : List (Addr × Obj)) (s : Shared) (σ : St) (H : Hp) (x : V) (v vl vu : Value) (lo hi : Option Int) (sl : Addr) (Q : VK), Inv X pins σ H s → RelV x v → s.heap.IsSliceOf sl vl vu .none → IsPart vl lo → IsPart vu hi → r x lo hi H Q →
    ∃ T id, typeLookup (.type T) "__getitem__" = pure (some (.builtin id)) ∧ s.TypeIs v T ∧ wpAny (model X.prog X.w) X.A (getItem v (.ref sl)) (EP X pins σ Q) X.xe s
noncomputable def tSl (r : V → Option Int → Option Int → Hp → VK → Prop) (te : TE) (tl th : TO) : TE := fun σ H Q => te σ H fun x H1 => tl σ H1 fun l H2 => th σ H2 fun u H3 => r x l u H3 Q
theorem pe_slice {r : V → Option Int → Option Int → Hp → VK → Prop} (hr : SlR X r) (he : PE X e te) (hl : PO X lo tl) (hu : PO X hi th) : PE X (.Subscript e (.Slice lo hi none p2) pos) (tSl r te tl th) := by
  intro pins s σ H Q I h
  refine Subscript_ (thn (he pins s σ H _ I h) fun v s1 z__ => ?_)
  obtain ⟨x, H1, I1, r1, q1⟩ := z__
  refine wpAny_Slice (thn (hl pins s1 σ H1 _ I1 q1) fun vl s2 ⟨l, H2, I2, pl, q2⟩ => thn (hu pins s2 σ H2 _ I2 q2) fun vu s3 z__ => ?_)
  obtain ⟨u, H3, I3, pu, q3⟩ := z__
  rw [evalPart_none]
  refine wpAny_pure ?_
  have I4 : Inv X pins σ H3 { s3 with heap := s3.heap.push { cls := .type "slice", data := .fields #[vl, vu, .none] } } := I3.kept (t' := s3.toks) fun b ob q => Heap.get?_push_of_some _ q
  obtain ⟨T, id, hT, ht, hg⟩ := hr pins { s3 with heap := s3.heap.push { cls := .type "slice", data := .fields #[vl, vu, .none] } } σ H3 x v vl vu l u s3.heap.objs.size Q I4 r1 (Heap.IsSliceOf.new ..) pl pu q3
  show wpAny (model X.prog X.w) X.A (subscriptTail e (.Slice lo hi none p2) v (.ref s3.heap.objs.size)) (EP X pins σ Q) X.xe { s3 with heap := s3.heap.push { cls := .type "slice", data := .fields #[vl, vu, .none] } }
  exact tail_any (ops := [.ref s3.heap.objs.size, v]) ht hT hg (by with_unfolding_all rfl)
noncomputable def cutV (xs : List V) (lo hi : Option Int) : List V := (xs.drop (HT.sIx xs.length 0 lo)).take (HT.sIx xs.length xs.length hi - HT.sIx xs.length 0 lo)
theorem cutV_length (xs : List V) (lo hi : Option Int) : (cutV xs lo hi).length ≤ xs.length := by
  unfold cutV
  rw [List.length_take, List.length_drop]
  omega
end
end L2
namespace L2
open PySem PySem.Spec PyProof.Rows
noncomputable def ixN (n : Nat) (i : Int) : Option Nat := if 0 ≤ i then (if i < n then some i.toNat else none) else if -(n : Int) ≤ i then some (i + n).toNat else none
noncomputable def atI {α : Type} (xs : List α) (i : Int) : Option α := (ixN xs.length i).bind fun j => xs[j]?
theorem ixN_seq {n : Nat} {i : Int} {j : Nat} (h : ixN n i = some j) : seqIndex? i n = some j ∧ j < n ∧ -(n : Int) ≤ i ∧ i < n := by
  unfold ixN at h
  by_cases h0 : 0 ≤ i
  · rw [if_pos h0] at h
    by_cases h1 : i < n
    · rw [if_pos h1] at h
      have e : i.toNat = j := Option.some.inj h
      exact ⟨by rw [seqIndex_of h0 h1, e], by omega, by omega, h1⟩
    · rw [if_neg h1] at h; cases h
  · rw [if_neg h0] at h
    by_cases h1 : -(n : Int) ≤ i
    · rw [if_pos h1] at h
      have e : (i + n).toNat = j := Option.some.inj h
      exact ⟨by rw [seqIndex_neg (by omega) h1, e], by omega, h1, by omega⟩
    · rw [if_neg h1] at h; cases h
theorem atI_get {α : Type} {xs : List α} {i : Int} {v : α} (h : atI xs i = some v) : ∃ j, seqIndex? i xs.length = some j ∧ xs[j]? = some v ∧ j < xs.length ∧ -(xs.length : Int) ≤ i ∧ i < xs.length := by
  unfold atI at h
  cases e : ixN xs.length i with
  | none => rw [e] at h; cases h
  | some j =>
    rw [e] at h
    obtain ⟨h1, h2, h3, h4⟩ := ixN_seq e
    exact ⟨j, h1, h, h2, h3, h4⟩
theorem atI_nat {α : Type} {xs : List α} {j : Nat} {v : α} (h : xs[j]? = some v) : atI xs (j : Int) = some v := by
  have hj : j < xs.length := (List.getElem?_eq_some_iff.mp h).1
  have e : ixN xs.length (j : Int) = some j := by
    unfold ixN
    rw [if_pos (by omega), if_pos (by omega)]; simp
  unfold atI; rw [e]; exact h
noncomputable def PlainIx (b : Expr) : Prop := ∀ o i, subscripted b false o i = operate [o, i] (getItem o i)
noncomputable def IxR (X : Cx) (r : R2) : Prop :=
  ∀ (value slice : Expr) (pins : List (Addr × Obj)) (s : Shared) (σ : St) (H : Hp) (x y : V) (v u : Value) (Q : VK), Inv X pins σ H s → RelV x v → RelV y u → r x y H Q →
    subscripted slice false v u = operate [v, u] (getItem v u) → wpAny (model X.prog X.w) X.A (subscriptTail value slice v u) (EP X pins σ Q) X.xe s
noncomputable def MtR (X : Cx) (id : String) (r : V → List V → Hp → VK → Prop) : Prop :=
  ∀ (pins : List (Addr × Obj)) (s : Shared) (σ : St) (H : Hp) (x : V) (xs : List V) (v : Value) (us : List Value) (Q : VK), Inv X pins σ H s → RelV x v → Vals xs us → r x xs H Q →
    wpAny (model X.prog X.w) X.A (call (.builtin id) (v :: us)) (EP X pins σ Q) X.xe s
section
variable {X : Cx} {a b : Expr} {ta tb : TE} {pos : Pos}
theorem pe_ix {r : R2} (hr : IxR X r) (ha : PE X a ta) (hb : PE X b tb) (hs : PlainIx b) : PE X (.Subscript a b pos) (tOp r ta tb) := by
  intro pins s σ H Q I h
  exact Subscript_ (binT ha hb I h fun v u s2 x y H2 I2 rx ry q => hr a b pins s2 σ H2 x y v u Q I2 rx ry q (hs _ _))
inductive rIxL (K : PySem.W.Frag) (x y : V) (H : Hp) (Q : VK) : Prop
  | mk (p : Addr) (xs : List V) (i : Int) (v : V) (e1 : x = .ref p) (e2 : y = .int i) (s : SqL K H p xs) (h : atI xs i = some v) (q : Q v H) : rIxL K x y H Q
theorem ix_list : IxR X (rIxL X.K) := by
  intro value slice pins s σ H x y v u Q I rx ry h hs
  obtain ⟨p, xs, i, z, rfl, rfl, hq, he, q⟩ := h
  cases rx
  obtain ⟨t, rfl⟩ := ry
  obtain ⟨its, r, pl, hz⟩ := I.list hq
  obtain ⟨j, h1, h2, h3, h4, h5⟩ := atI_get he
  obtain ⟨w, ew, rw'⟩ := r.get h2
  have hl := r.length
  have hn := line63
  have fin : EP X pins σ Q w s := ⟨z, H, I, rw', q⟩
  by_cases h0 : 0 ≤ i
  · have hj : i.toNat = j := by
      rw [seqIndex_of h0 h5] at h1
      exact Option.some.inj h1
    exact item_listR pl.isList h0 (by omega) (by rw [hj]; simpa using ew) fin hs
  · have hj : (i + (its.toArray.size : Int)).toNat = j := by
      rw [seqIndex_neg (by omega) h4] at h1
      rw [List.size_toArray, ← hl]
      exact Option.some.inj h1
    exact subscriptTail_builtinR (x := w) pl.isList.typeIs slot_list_getitem.lookup
      (wpAny_getItem_list_neg (Q := fun r s' => r = w ∧ EP X pins σ Q r s') pl.isList (by omega) (by rw [List.size_toArray] <;> omega) (by omega) (by rw [hj]; simpa using ew) ⟨rfl, fin⟩) hs
theorem mapSeq_set (its : List Value) (n j : Nat) (u : Value) : Obj.mapSeq (·.setIfInBounds j u) { cls := .type "list", data := .seq its.toArray n } = { cls := .type "list", data := .seq (its.set j u).toArray n } := by
  simp [Obj.mapSeq]
theorem Inv.lst {pins : List (Addr × Obj)} {σ : St} {H : Hp} {s : Shared} {p : Addr} {xs : List V} (I : Inv X pins σ H s) (h : H p = some (.lst xs)) :
    ∃ (its : List Value) (n : Nat), Vals xs its ∧ s.heap.get? p = some { cls := .type "list", data := .seq its.toArray n } ∧ xs.length ≤ sizeLine := by
  obtain ⟨z, its, n, r, e⟩ := I.hok p _ h
  exact ⟨its, n, r, e, z⟩
theorem Inv.lstUpd {pins : List (Addr × Obj)} {σ : St} {H : Hp} {s : Shared} {p : Addr} {xs ys : List V} {its its' : List Value} {n n' : Nat} {f : Obj → Obj} (I : Inv X pins σ H s) (h : H p = some (.lst xs))
    (ho : s.heap.get? p = some { cls := .type "list", data := .seq its.toArray n }) (hf : f { cls := .type "list", data := .seq its.toArray n } = { cls := .type "list", data := .seq its'.toArray n' }) (r : Vals ys its') (hz : ys.length ≤ sizeLine) (t : Nat) :
    Inv X pins σ (upd H p (.lst ys)) { s with heap := s.heap.update p f, toks := t } := by
  have e : (s.heap.update p f).get? p = some { cls := .type "list", data := .seq its'.toArray n' } := by
    rw [Heap.get?_update_self f ho (by rw [hf] <;> rfl), hf]
  refine I.write (x := p) (e := p) (by rw [h]; trivial) (.inl rfl) (fun b u hb q => (Heap.get?_update_other _ _ (Ne.symm hb)).trans q) ⟨_, e⟩ ?_
  exact ⟨hz, its', n', r, e⟩
noncomputable def rSetL : V → V → V → Hp → (Hp → Prop) → Prop := fun o i v H Q => ∃ p xs k j, o = .ref p ∧ i = .int k ∧ H p = some (.lst xs) ∧ ixN xs.length k = some j ∧ Q (upd H p (.lst (xs.set j v)))
theorem set_list : PSet X rSetL := by
  intro pins s σ H o i v ov iv u Q I ro ri rv h
  obtain ⟨p, xs, k, j, rfl, rfl, hp, hj, q⟩ := h
  cases ro
  obtain ⟨t, rfl⟩ := ri
  obtain ⟨its, n, r, ho, hz⟩ := I.lst hp
  obtain ⟨h1, h2, h3, h4⟩ := ixN_seq hj
  have hl := r.length
  have hn := line63
  have I' : Inv X pins σ (upd H p (.lst (xs.set j v))) { s with heap := s.heap.update p (Obj.mapSeq (·.setIfInBounds j u)) } :=
    I.lstUpd hp ho (mapSeq_set its n j u) (r.set rv j) (by rw [List.length_set]; exact hz) s.toks
  by_cases h0 : 0 ≤ k
  · have hk : k.toNat = j := by
      rw [seqIndex_of h0 h4] at h1
      exact Option.some.inj h1
    exact PySem.W.ki_setAt ho h0 (by omega) (by rw [List.size_toArray, ← hl]; exact h4) (by rw [hk]; exact ⟨_, I', q⟩)
  · have hk : (k + (its.toArray.size : Int)).toNat = j := by
      rw [seqIndex_neg (by omega) h3] at h1
      rw [List.size_toArray, ← hl]
      exact Option.some.inj h1
    exact PySem.W.ki_setBack ho (by omega) (by rw [List.size_toArray, ← hl]; exact h3) (by omega) (by rw [hk]; exact ⟨_, I', q⟩)
theorem clip_ix (n d : Nat) (v : Option Int) : (match v with
    | none => (d : Int)
    | some i => max 0 (min (if i < 0 then i + (n : Int) else i) (n : Int))) = ((HT.sIx n d v : Nat) : Int) := by
  cases v with
  | none => rfl
  | some i =>
    show max 0 (min (if i < 0 then i + (n : Int) else i) (n : Int)) = ((if i < 0 then (i + (n : Int)).toNat else min i.toNat n : Nat) : Int)
    by_cases h : i < 0
    · rw [if_pos h, if_pos h, Int.min_eq_left (by omega), Int.max_comm, Int.ofNat_toNat]
    · rw [if_neg h, if_neg h]
      obtain ⟨k, rfl⟩ := Int.eq_ofNat_of_zero_le (Int.not_lt.mp h)
      show max 0 (min (k : Int) (n : Int)) = ((min k n : Nat) : Int)
      rcases Nat.le_total k n with z | z
      · rw [Int.min_eq_left (Int.ofNat_le.mpr z), Nat.min_eq_left z, Int.max_eq_right (Int.natCast_nonneg _)]
      · rw [Int.min_eq_right (Int.ofNat_le.mpr z), Nat.min_eq_right z, Int.max_eq_right (Int.natCast_nonneg _)]
theorem slice_bounds (lo hi : Option Int) (n : Nat) : (sliceBounds lo hi none n).1 = ((HT.sIx n 0 lo : Nat) : Int) ∧ (sliceBounds lo hi none n).2.1 = ((HT.sIx n n hi : Nat) : Int) ∧ (sliceBounds lo hi none n).2.2 = 1 := by
  refine ⟨?_, ?_, rfl⟩
  · rw [← clip_ix n 0 lo]
    cases lo <;> rfl
  · rw [← clip_ix n n hi]
    cases hi <;> rfl
theorem slicePick_cut (its : List Value) (lo hi : Option Int) : slicePick its.toArray lo hi none = ((its.drop (HT.sIx its.length 0 lo)).take (HT.sIx its.length its.length hi - HT.sIx its.length 0 lo)).toArray := by
  obtain ⟨h1, h2, h3⟩ := slice_bounds lo hi its.toArray.size
  unfold slicePick
  rw [h1, h2, h3]
  simp only [sliceRange_one, pick_run, List.size_toArray] <;> rfl
inductive rSlL (K : PySem.W.Frag) (x : V) (lo hi : Option Int) (H : Hp) (Q : VK) : Prop
  | mk (a : Addr) (xs : List V) (e : x = .ref a) (s : SqL K H a xs) (q : ∀ p, H p = none → Q (.ref p) (upd H p (.lst (cutV xs lo hi)))) : rSlL K x lo hi H Q
theorem sl_list : SlR X (rSlL X.K) := by
  intro pins s σ H x v vl vu lo hi sl Q I rx hs pl pu h
  obtain ⟨a, xs, rfl, hx, q⟩ := h
  cases rx
  obtain ⟨its, r, ht, hz⟩ := I.list hx
  have hlen := r.length
  refine ⟨"list", _, slot_list_getitem.lookup, ht.isList.typeIs, ?_⟩
  refine wpAny_getItem_list_slice ht.isList hs pl pu .none (by simp) ?_ (by rw [List.size_toArray] <;> omega)
  rw [slicePick_cut, ← hlen]
  refine ⟨.ref s.heap.objs.size, _, I.laid (t' := s.toks) (o := .lst (cutV xs lo hi)) (fun b ob q => Heap.get?_push_of_some _ q) (Nat.le_refl _) ?_, rfl, q _ (I.hok.fresh (Nat.le_refl _))⟩
  exact ⟨Nat.le_trans (cutV_length xs lo hi) hz, _, 0, (r.drop (HT.sIx xs.length 0 lo)).take (HT.sIx xs.length xs.length hi - HT.sIx xs.length 0 lo), Heap.get?_push_size _ rfl⟩
noncomputable def flatV : V → Bool
  | .non => true
  | .bl _ => true
  | .int _ => true
  | .str _ => true
  | _ => false
noncomputable def eqV : V → V → Bool
  | .non, .non => true
  | .bl a, .bl b => a == b
  | .bl a, .int b => (if a then 1 else 0) == b
  | .int a, .bl b => a == (if b then 1 else 0)
  | .int a, .int b => a == b
  | .str a, .str b => a == b
  | _, _ => false
theorem eqAt_V {A : Around} {s : Shared} {y x : V} {u v : Value} (ry : RelV y u) (rx : RelV x v) (fy : flatV y = true) (fx : flatV x = true) : SeqAt.EqAt A s u v (eqV y x) := by
  cases y with
  | non =>
    cases ry
    cases x with
    | non => cases rx; exact SeqAt.EqAt.same _
    | bl b => cases rx; exact SeqAt.EqAt.none_bool b
    | int b => obtain ⟨t, rfl⟩ := rx; exact SeqAt.EqAt.none_int b t
    | str b => obtain ⟨t, rfl⟩ := rx; exact SeqAt.EqAt.none_str b t
    | _ => exact absurd (show false = true from fx) Bool.false_ne_true
  | bl a =>
    cases ry
    cases x with
    | non => cases rx; exact SeqAt.EqAt.bool_none a
    | bl b => cases rx; exact SeqAt.EqAt.bool_bool a b
    | int b => obtain ⟨t, rfl⟩ := rx; exact SeqAt.EqAt.bool_int a b t
    | str b => obtain ⟨t, rfl⟩ := rx; exact SeqAt.EqAt.bool_str a b t
    | _ => exact absurd (show false = true from fx) Bool.false_ne_true
  | int a =>
    obtain ⟨t', rfl⟩ := ry
    cases x with
    | non => cases rx; exact SeqAt.EqAt.int_none a t'
    | bl b => cases rx; exact SeqAt.EqAt.int_bool a t' b
    | int b => obtain ⟨t, rfl⟩ := rx; exact SeqAt.EqAt.int_int a t' b t
    | str b => obtain ⟨t, rfl⟩ := rx; exact SeqAt.EqAt.int_str a t' b t
    | _ => exact absurd (show false = true from fx) Bool.false_ne_true
  | str a =>
    obtain ⟨t', rfl⟩ := ry
    cases x with
    | non => cases rx; exact SeqAt.EqAt.str_none a t'
    | bl b => cases rx; exact SeqAt.EqAt.str_bool a t' b
    | int b => obtain ⟨t, rfl⟩ := rx; exact SeqAt.EqAt.str_int a t' b t
    | str b => obtain ⟨t, rfl⟩ := rx; exact SeqAt.EqAt.str_str a t' b t
    | _ => exact absurd (show false = true from fx) Bool.false_ne_true
  | _ => exact absurd (show false = true from fy) Bool.false_ne_true
noncomputable def eqU (x : V) (u : Value) : Bool := match u with
  | .none => eqV .non x
  | .bool b => eqV (.bl b) x
  | .int i _ => eqV (.int i) x
  | .str z _ => eqV (.str z) x
  | _ => false
theorem eqU_of {x y : V} {u : Value} (r : RelV y u) (f : flatV y = true) : eqU x u = eqV y x := by
  cases y with
  | non => cases r; rfl
  | bl b => cases r; rfl
  | int i => obtain ⟨t, rfl⟩ := r; rfl
  | str z => obtain ⟨t, rfl⟩ := r; rfl
  | _ => exact absurd (show false = true from f) Bool.false_ne_true
theorem any_eqU {x : V} {xs : List V} {us : List Value} (h : Vals xs us) (f : xs.all flatV = true) : us.any (eqU x) = xs.any fun y => eqV y x := by
  induction h with
  | nil => rfl
  | cons r _ ih =>
    rw [List.all_cons, Bool.and_eq_true] at f
    rw [List.any_cons, List.any_cons, eqU_of r f.1, ih f.2]
theorem mem_eqAt {A : Around} {s : Shared} {x : V} {v : Value} (rx : RelV x v) (fx : flatV x = true) {xs : List V} {us : List Value} (h : Vals xs us) (f : xs.all flatV = true) : ∀ u ∈ us, SeqAt.EqAt A s u v (eqU x u) := by
  induction h with
  | nil => exact fun u hu => nomatch hu
  | cons r _ ih =>
    intro u' hu
    rw [List.all_cons, Bool.and_eq_true] at f
    rcases List.mem_cons.mp hu with e | hu
    · rw [e, eqU_of r f.1]; exact eqAt_V r rx f.1 fx
    · exact ih f.2 u' hu
noncomputable def inV (x : V) (xs : List V) : Bool := xs.any fun y => eqV y x
noncomputable def rIn (K : PySem.W.Frag) (neg : Bool) : R2 := fun x y H Q => ∃ p xs, y = .ref p ∧ (SqL K H p xs ∨ SqT K H p xs) ∧ flatV x = true ∧ xs.all flatV = true ∧ Q (.bl (if neg then !inV x xs else inV x xs)) H
theorem op_in_seq : OpR X (compareOp .In) (rIn X.K false) := by
  intro pins s σ H x y v u Q I rx ry h
  obtain ⟨p, xs, rfl, hq, fx, fs, q⟩ := h
  cases ry
  rcases hq with hq | hq
  · obtain ⟨its, r, pl, hz⟩ := I.list hq
    refine SeqAt.in_listAt (eqU x) pl.isList (fun w hw => mem_eqAt rx fx r fs w (by simpa using hw)) ⟨.bl _, H, I, rfl, ?_⟩
    rw [show its.toArray.any (eqU x) = its.any (eqU x) by simp, any_eqU r fs]
    exact q
  · obtain ⟨its, r, pl, hz⟩ := I.tuple hq
    refine SeqAt.in_tupleAt (eqU x) pl (fun w hw => mem_eqAt rx fx r fs w (by simpa using hw)) ⟨.bl _, H, I, rfl, ?_⟩
    rw [show its.toArray.any (eqU x) = its.any (eqU x) by simp, any_eqU r fs]
    exact q
inductive rLen (K : PySem.W.Frag) (xs : List V) (H : Hp) (Q : VK) : Prop
  | mk (p : Addr) (ys : List V) (e : xs = [.ref p]) (s : SqL K H p ys ∨ SqT K H p ys) (q : Q (.int ys.length) H) : rLen K xs H Q
theorem call_len_seq : CallR X (.builtin "len") (rLen X.K) := by
  intro pins s σ H xs us Q I r h
  obtain ⟨p, ys, rfl, hq, q⟩ := h
  obtain ⟨u, rfl, rx⟩ := vals1 r
  cases rx
  have hn := line63
  rcases hq with hq | hq
  · obtain ⟨its, r', pl, hz⟩ := I.list hq
    have hlen := r'.length
    exact Calls.call_len_list pl.isList (by simp only [List.size_toArray] <;> omega) ⟨.int ys.length, H, I.tok _, ⟨s.toks + 1, by rw [List.size_toArray, hlen]⟩, q⟩
  · obtain ⟨its, r', pl, hz⟩ := I.tuple hq
    have hlen := r'.length
    exact len_tuple pl (by simp only [List.size_toArray] <;> omega) ⟨.int ys.length, H, I.tok _, ⟨s.toks + 1, by rw [List.size_toArray, hlen]⟩, q⟩
noncomputable def tyV (K : PySem.W.Frag) (T : String) (x : V) (H : Hp) : Prop := match x with
  | .str _ => T = "str"
  | .int _ => T = "int"
  | .ref p => (T = "list" ∧ ∃ xs, SqL K H p xs) ∨ (T = "tuple" ∧ ∃ o, K.lookup p = some o ∧ o.cls = .type "tuple" ∧ o.dict = none) ∨
      (T = "dict" ∧ ((∃ kvs, H p = some (.dK kvs)) ∨ ∃ kvs, H p = some (.dT kvs))) ∨ (T = "set" ∧ ∃ S n, H p = some (.set S n))
  | _ => False
theorem tyV_is {pins : List (Addr × Obj)} {σ : St} {H : Hp} {s : Shared} {T : String} {x : V} {v : Value} (I : Inv X pins σ H s) (r : RelV x v) (ty : tyV X.K T x H) :
    s.TypeIs v T ∧ ∀ a, v = .ref a → ∃ ob, s.heap.get? a = some ob ∧ ob.dict = none := by
  cases x with
  | str z =>
    obtain ⟨t, rfl⟩ := r
    cases (show T = "str" from ty)
    exact ⟨typeIs_str s z t, fun _ e => nomatch e⟩
  | int i =>
    obtain ⟨t, rfl⟩ := r
    cases (show T = "int" from ty)
    exact ⟨typeIs_int s i t, fun _ e => nomatch e⟩
  | ref p =>
    cases r
    rcases ty with ⟨rfl, xs, hq⟩ | ⟨rfl, o, hk, hc, hd⟩ | ⟨rfl, hk⟩ | ⟨rfl, S, n, hk⟩
    · obtain ⟨its, _, pl, _⟩ := I.list hq
      refine ⟨pl.isList.typeIs, fun a e => ?_⟩
      cases e
      obtain ⟨o, n, e, c, hd, _⟩ := pl
      exact ⟨o, e, hd⟩
    · refine ⟨⟨o, I.kIn p o hk, hc⟩, fun a e => ?_⟩
      cases e
      exact ⟨o, I.kIn _ o hk, hd⟩
    · have z : ∃ o, s.heap.get? p = some o ∧ o.ExactDict := by
        rcases hk with ⟨kvs, hk⟩ | ⟨kvs, hk⟩
        · obtain ⟨_, _, _, _, o, _, _, e, ex, _⟩ := I.hok p _ hk
          exact ⟨o, e, ex⟩
        · obtain ⟨_, _, _, _, o, _, _, e, ex, _⟩ := I.hok p _ hk
          exact ⟨o, e, ex⟩
      obtain ⟨o, e, ex⟩ := z
      refine ⟨⟨o, e, ex.1⟩, fun a e2 => ?_⟩
      cases e2
      exact ⟨o, e, ex.2.1⟩
    · obtain ⟨o, _, _, _, e, ex, _⟩ := I.hok p _ hk
      refine ⟨⟨o, e, ex.1⟩, fun a e2 => ?_⟩
      cases e2
      exact ⟨o, e, ex.2.1⟩
  | _ => exact False.elim ty
noncomputable def tBM (K : PySem.W.Frag) (T : String) (r : V → List V → Hp → VK → Prop) (to : TE) (t : TA) : TE := fun σ H Q => to σ H fun x H1 => tyV K T x H1 ∧ t σ H1 fun xs H2 => r x xs H2 Q
variable {o e : Expr} {es : List Expr} {to : TE} {t : TA} {name : Str} {apos cpos : Pos} {T id : String} {r : V → List V → Hp → VK → Prop}
theorem pe_bm (pa : PlainAttrs T) (slot : Slot T name id) (hty : typeOf (.builtin id) = pure (.type "method_descriptor")) (hm : MtR X id r) (ho : PE X o to) (ha : PA X (e :: es) t)
    (hbase : attributeBase o name X.env (eval o X.env) = eval o X.env := by rfl)
    (hfew : ((backTo cpos (starEach (e :: es) X.env)).all (fun x => !x.1) && (backToKw cpos (keywordEach [] X.env)).all (fun x => x.1.isSome)
      && decide ((e :: es).length + ([] : List Keyword).length + (if ([] : List Keyword).isEmpty then 0 else 1) < 30)) = true := by rfl)
    (hline : (apos.endLine == cpos.line) = true := by rfl) (hs : starEach (e :: es) X.env = (false, eval e X.env) :: starEach es X.env := by rfl) (hplain : (backTo cpos (starEach es X.env)).any (·.1) = false := by rfl) :
    PE X (.Call (.Attribute o name apos) (e :: es) [] cpos) (tBM X.K T r to t) := by
  intro pins s σ H Q I h
  refine wpAny_Call_method_late hbase hfew hline rfl (thn (ho pins s σ H _ I h) fun v s1 z__ => ?_)
  obtain ⟨x, H1, I1, r1, ty, q1⟩ := z__
  obtain ⟨h1, h2⟩ := tyV_is I1 r1 ty
  refine ⟨T, id, pa, slot, hty, h1, h2, ?_⟩
  have hA := ha cpos pins s1 σ H1 _ I1 q1
  rw [hs] at hA ⊢
  refine Calls.callWith_builtin (by show (false || (backTo cpos (starEach es X.env)).any (·.1)) = false; rw [hplain] <;> rfl) (Calls.evalArgs_plain ?_)
  exact thn hA fun us s2 ⟨vs, H2, I2, r2, q2⟩ => hm pins s2 σ H2 x vs v us Q I2 r1 r2 q2
end
end L2
namespace L2
open PySem PySem.Spec PyProof.Rows
noncomputable def MtM (X : Cx) (id : String) (r : V → List V → Hp → VK → Prop) : Prop :=
  ∀ (pins : List (Addr × Obj)) (s : Shared) (σ : St) (H : Hp) (x : V) (xs : List V) (v : Value) (us : List Value) (Q : VK), Inv X pins σ H s → RelV x v → Vals xs us → r x xs H Q →
    wpAny (model X.prog X.w) X.A (call (.builtin id) (v :: us)) (EP X pins σ Q) X.xe s
theorem Vals.one {x : V} {us : List Value} (h : Vals [x] us) : ∃ u, us = [u] ∧ RelV x u := by
  cases h with
  | cons r t =>
    cases t
    exact ⟨_, rfl, r⟩
section
variable {X : Cx} {pins : List (Addr × Obj)} {σ : St} {H : Hp} {s : Shared} {l b : Addr} {xs ys zs : List V}
theorem Inv.lset {its its' : List Value} {n : Nat} {f : Array Value → Array Value} {t' : Nat} (I : Inv X pins σ H s) (hH : H l = some (.lst xs))
    (e : s.heap.get? l = some { cls := .type "list", data := .seq its.toArray n }) (hf : f its.toArray = its'.toArray) (hv : Vals ys its') (hz : ys.length ≤ sizeLine) :
    Inv X pins σ (upd H l (.lst ys)) { s with heap := s.heap.update l (Obj.mapSeq f), toks := t' } := by
  have q := PySem.IsL.update e f
  rw [hf] at q
  refine I.write (x := l) (e := l) (by rw [hH]; exact trivial) (.inl rfl) (fun b' u hb hu => (Heap.get?_update_other s.heap (Obj.mapSeq f) (Ne.symm hb)).trans hu) ⟨_, q⟩ ?_
  exact ⟨hz, its', _, hv, q⟩
theorem Inv.lnew {its : List Value} {t' : Nat} (I : Inv X pins σ H s) (hv : Vals ys its) (hz : ys.length ≤ sizeLine) :
    Inv X pins σ (upd H s.heap.objs.size (.lst ys)) { s with heap := s.heap.push { cls := .type "list", data := .seq its.toArray }, toks := t' } :=
  I.laid (fun _ _ q => Heap.get?_push_of_some _ q) (Nat.le_refl _) ⟨hz, its, 0, hv, Heap.get?_push_size _ rfl⟩
theorem Inv.fresh (I : Inv X pins σ H s) : H s.heap.objs.size = none := I.hok.fresh (Nat.le_refl _)
theorem Inv.lstM (I : Inv X pins σ H s) (hH : H l = some (.lst xs)) : xs.length ≤ sizeLine ∧ ∃ (its : List Value) (n : Nat), Vals xs its ∧ xs.length = its.length ∧ s.heap.get? l = some { cls := .type "list", data := .seq its.toArray n } := by
  obtain ⟨z, its, n, r, e⟩ := I.hok l _ hH
  exact ⟨z, its, n, r, r.length, e⟩
theorem notLongL {n : Nat} (h : n ≤ sizeLine) : Builtin.List.listTooLong n = false := by
  unfold Builtin.List.listTooLong
  exact decide_eq_false (by omega)
end
section
variable {X : Cx}
noncomputable def rAppend : V → List V → Hp → VK → Prop := fun x vs H Q => ∃ l xs y, x = .ref l ∧ vs = [y] ∧ H l = some (.lst xs) ∧ xs.length < sizeLine ∧ Q .non (upd H l (.lst (xs ++ [y])))
theorem mt_append : MtM X "list.append" rAppend := by
  intro pins s σ H x vs v us Q I rx rv h
  obtain ⟨l, xs, y, rfl, rfl, hH, hz, q⟩ := h
  cases rx
  obtain ⟨u, rfl, ru⟩ := rv.one
  obtain ⟨z, its, n, r, hl, e⟩ := I.lstM hH
  refine call_meets F.slot_list_append ⟨_, e, rfl⟩ F.entry_list_append (F.args_list_append_2 _ _) (PySem.list_append l its.toArray n u (by rw [List.size_toArray]; omega)) ⟨e, ?_⟩
  refine ⟨.non, _, I.lset (its' := its ++ [u]) hH e (by simp) (r.append (.cons ru .nil)) ?_, rfl, q⟩
  rw [List.length_append, List.length_singleton]
  omega
noncomputable def rExtend : V → List V → Hp → VK → Prop := fun x vs H Q => ∃ l b xs zs, x = .ref l ∧ vs = [.ref b] ∧ H l = some (.lst xs) ∧ H b = some (.lst zs) ∧ xs.length + zs.length ≤ sizeLine ∧ Q .non (upd H l (.lst (xs ++ zs)))
theorem mt_extend : MtM X "list.extend" rExtend := by
  intro pins s σ H x vs v us Q I rx rv h
  obtain ⟨l, b, xs, zs, rfl, rfl, hH, hB, hz, q⟩ := h
  cases rx
  obtain ⟨u, rfl, ru⟩ := rv.one
  cases ru
  obtain ⟨z, its, n, r, hl, e⟩ := I.lstM hH
  obtain ⟨z2, its2, n2, r2, hl2, e2⟩ := I.lstM hB
  have hsz : its.toArray.size + its2.toArray.size ≤ sizeLine := by rw [List.size_toArray, List.size_toArray]; omega
  have hlong : ¬ (!its.toArray.isEmpty && Builtin.List.listTooLong (its.toArray.size + its2.toArray.size)) = true := by
    rw [notLongL hsz, Bool.and_false]
    exact Bool.false_ne_true
  refine call_meets F.slot_list_extend ⟨_, e, rfl⟩ F.entry_list_extend (F.args_list_extend_2 _ _)
    (AutoSeq1.list_extend_list_list_0 l its.toArray n b its2.toArray n2 hlong (by rw [List.size_toArray]; omega) (by omega)) ⟨e, e2, ?_⟩
  refine ⟨.non, _, I.lset (its' := its ++ its2) hH e (by simp) (r.append r2) ?_, rfl, q⟩
  rw [List.length_append]
  omega
inductive rCat (x y : V) (H : Hp) (Q : VK) : Prop
  | mk (l b : Addr) (xs zs : List V) (e1 : x = .ref l) (e2 : y = .ref b) (h1 : H l = some (.lst xs)) (h2 : H b = some (.lst zs)) (z : xs.length + zs.length ≤ sizeLine) (q : ∀ p, H p = none → Q (.ref p) (upd H p (.lst (xs ++ zs)))) : rCat x y H Q
theorem op_cat : OpR X (binaryOp .Add) rCat := by
  intro pins s σ H x y v u Q I rx ry h
  obtain ⟨l, b, xs, zs, rfl, rfl, hH, hB, hz, q⟩ := h
  cases rx
  cases ry
  obtain ⟨z, its, n, r, hl, e⟩ := I.lstM hH
  obtain ⟨z2, its2, n2, r2, hl2, e2⟩ := I.lstM hB
  refine PySem.P.add_list e e2 ?_ (by rw [List.size_toArray, List.size_toArray]; omega)
  have ea : its.toArray ++ its2.toArray = (its ++ its2).toArray := by simp
  rw [ea]
  exact ⟨.ref _, _, I.lnew (t' := s.toks) (r.append r2) (by rw [List.length_append]; omega), rfl, q _ I.fresh⟩
end
section
variable {prog : Program} {w : World} {A : Around} {E : Value → Shared → Prop} {s : Shared}
set_option maxRecDepth 100000 in
end
section
variable {X : Cx}
end
end L2
namespace L2
open PySem PySem.Spec PyProof.Rows
section
variable {prog : Program} {w : World} {A : Around} {E : Value → Shared → Prop} {s : Shared} {l : Addr} {its : List Value} {ns : List Int} {Q : Value → Shared → Prop}
end
section
variable {X : Cx}
end
section
variable {X : Cx}
inductive rIndex (K : PySem.W.Frag) (x : V) (xs : List V) (H : Hp) (Q : VK) : Prop
  | mk (a : Addr) (ys : List V) (y : V) (j : Nat) (z : V) (e1 : x = V.ref a) (e2 : xs = [y]) (s : SqL K H a ys) (f : flatV y = true) (g : ys.all flatV = true) (h : ys[j]? = some z) (i : eqV z y = true) (m : ∀ (m : Nat) (z' : V), m < j → ys[m]? = some z' → eqV z' y = false) (q : Q (.int (j : Nat)) H) : rIndex K x xs H Q
theorem flat_at {ys : List V} (f : ys.all flatV = true) {j : Nat} {z : V} (h : ys[j]? = some z) : flatV z = true := List.all_eq_true.mp f z (List.mem_of_getElem? h)
theorem mt_index : MtR X "list.index" (rIndex X.K) := by
  intro pins s σ H x xs v us Q I rx rxs h
  obtain ⟨a, ys, y, j, z, rfl, rfl, hs, fy, fys, hz, hzj, hno, q⟩ := h
  cases rx
  cases rxs with
  | cons ry rt =>
    rename_i uy ut
    cases rt
    obtain ⟨its, rv, ⟨⟨cls, dd, data, sl⟩, n, ho, hc, hdn, hd⟩, hlen⟩ := I.list hs
    simp only at hc hd
    subst hc hd
    obtain ⟨u, hu, ru⟩ := rv.get hz
    obtain ⟨hjl, hje⟩ := List.getElem?_eq_some_iff.mp hu
    have hvl := rv.length
    have hj : j < its.toArray.size := by simpa using hjl
    have hsl := sizeLine_eq
    refine call_meets PySem.F.slot_list_index ⟨_, ho, rfl⟩ PySem.F.entry_list_index (PySem.F.args_list_index_2 _ _)
      (SeqAt.list_indexAt a its.toArray n dd sl uy (eqU y) j hj (by omega) ?_ ?_) ⟨ho, fun u' hu' => mem_eqAt ry fy rv fys u' (by simpa using hu'), ?_⟩
    · have e1 : its.toArray[j] = u := by simpa using hje
      rw [e1, eqU_of ru (flat_at fys hz)]
      exact hzj
    · intro m hm hmj
      have hml : m < its.length := by simpa using hm
      have hmy : m < ys.length := by omega
      have hy' : ys[m]? = some ys[m] := List.getElem?_eq_getElem hmy
      obtain ⟨u2, hu2, ru2⟩ := rv.get hy'
      obtain ⟨_, hme⟩ := List.getElem?_eq_some_iff.mp hu2
      have e1 : its.toArray[m] = u2 := by simpa using hme
      rw [e1, eqU_of ru2 (flat_at fys hy')]
      exact hno m _ hmj hy'
    · exact ⟨.int (j : Nat), H, I.tok _, ⟨_, rfl⟩, q⟩
end
section
variable {X : Cx}
end
section
variable {X : Cx}
end
section
variable {X : Cx} {pins : List (Addr × Obj)} {σ : St} {H : Hp} {s : Shared}
end
section
variable {X : Cx}
end
end L2
namespace L2
open PySem PySem.Spec PyProof.Rows
noncomputable abbrev CellAt (h : Heap) (c : Addr) (v : Option Value) : Prop := h.IsCell c v
noncomputable def relS (scope sc : Scope) : Scope :=
  { scope with names := scope.names.map fun (n, k) => if (k == .free && sc.kind == .function && sc.names.lookup n == some .cell) then (n, .cell) else (n, k) }
noncomputable def cloFrom (cells : List (Str × Addr)) : List (Str × NameKind) → List (Str × Addr) → List (Str × Addr)
  | [], acc => acc
  | (n, k) :: r, acc => if k == .free then cloFrom cells r ((n, (cells.lookup n).getD 0) :: acc) else cloFrom cells r acc
theorem closure_loop (env : Env) (f : Str × NameKind → List (Str × Addr) → Sem (ForInStep (List (Str × Addr))))
    (hf : ∀ n k c, f (n, k) c = if k == .free then (do let a ← cellOf env n; pure (.yield ((n, a) :: c))) else pure (.yield c)) :
    ∀ (names : List (Str × NameKind)) (acc : List (Str × Addr)), (∀ y ∈ names, y.2 = .free → ∃ c, env.cells.lookup y.1 = some c) → forIn names acc f = pure (cloFrom env.cells names acc)
  | [], acc, _ => by rw [List.forIn_nil]; rfl
  | (n, k) :: r, acc, h => by
    rw [List.forIn_cons, hf]
    have ih := fun acc => closure_loop env f hf r acc fun y hy => h y (List.mem_cons_of_mem _ hy)
    unfold cloFrom
    by_cases hk : (k == NameKind.free) = true
    · rw [if_pos hk, if_pos hk]
      obtain ⟨c, hc⟩ := h (n, k) List.mem_cons_self (by simpa using hk)
      have e : cellOf env n = pure c := by unfold cellOf; rw [hc]
      rw [e]
      have e2 : (env.cells.lookup n).getD 0 = c := by rw [hc]; rfl
      rw [e2]
      exact ih _
    · rw [if_neg hk, if_neg hk]
      exact ih _
theorem closure_ok {scope : Scope} {env : Env} (h : ∀ y ∈ scope.names, y.2 = .free → ∃ c, env.cells.lookup y.1 = some c) : closureFor scope env = pure (cloFrom env.cells scope.names []) := by
  simp only [closureFor]
  rw [closure_loop env _ (fun n k c => rfl) scope.names [] h]
  rfl
theorem mem_lookup {α : Type} {l : List (Str × α)} {n : Str} {c : α} (h : (n, c) ∈ l) : ∃ c', l.lookup n = some c' := by
  induction l with
  | nil => cases h
  | cons p r ih =>
    obtain ⟨k, v⟩ := p
    rw [List.lookup_cons]
    cases hb : n == k with
    | true => exact ⟨_, rfl⟩
    | false =>
      rcases List.mem_cons.mp h with e | h
      · cases e; simp at hb
      · exact ih h
theorem cloFrom_mem {cells : List (Str × Addr)} : ∀ {names : List (Str × NameKind)} {acc : List (Str × Addr)} {n : Str} {c : Addr}, (n, c) ∈ cloFrom cells names acc → (n, c) ∈ acc ∨ ((n, .free) ∈ names ∧ c = (cells.lookup n).getD 0)
  | [], _, _, _, h => .inl h
  | (m, k) :: r, acc, n, c, h => by
    unfold cloFrom at h
    split at h
    · rename_i hk
      have hk : k = .free := by simpa using hk
      rcases cloFrom_mem h with h | ⟨h1, h2⟩
      · rcases List.mem_cons.mp h with e | h
        · cases e; exact .inr ⟨hk ▸ List.mem_cons_self, rfl⟩
        · exact .inl h
      · exact .inr ⟨List.mem_cons_of_mem _ h1, h2⟩
    · rcases cloFrom_mem h with h | ⟨h1, h2⟩
      · exact .inl h
      · exact .inr ⟨List.mem_cons_of_mem _ h1, h2⟩
theorem cloFrom_acc {cells : List (Str × Addr)} : ∀ {names : List (Str × NameKind)} {acc : List (Str × Addr)} {p : Str × Addr}, p ∈ acc → p ∈ cloFrom cells names acc
  | [], _, _, h => h
  | (m, k) :: r, acc, p, h => by
    unfold cloFrom
    split
    · exact cloFrom_acc (List.mem_cons_of_mem _ h)
    · exact cloFrom_acc h
theorem cloFrom_has {cells : List (Str × Addr)} : ∀ {names : List (Str × NameKind)} {acc : List (Str × Addr)} {n : Str}, (n, .free) ∈ names → (n, (cells.lookup n).getD 0) ∈ cloFrom cells names acc
  | (m, k) :: r, acc, n, h => by
    unfold cloFrom
    rcases List.mem_cons.mp h with e | h
    · cases e
      exact cloFrom_acc List.mem_cons_self
    · split
      · exact cloFrom_has h
      · exact cloFrom_has h
theorem cells_mem : ∀ {names : List (Str × NameKind)} {h : Heap} {acc : List (Str × Addr)} {x : Str} {c : Addr}, (x, c) ∈ cellsFrom h.objs.size names acc →
    (x, c) ∈ acc ∨ ((x, .cell) ∈ names ∧ h.objs.size ≤ c ∧ CellAt (pushCells h names) c none)
  | [], _, _, _, _, h => .inl h
  | (n, k) :: r, h, acc, x, c, hm => by
    unfold cellsFrom at hm
    unfold pushCells
    split at hm
    · rename_i hk
      rw [if_pos hk]
      have hk : k = .cell := by simpa using hk
      rw [← Heap.size_push h { cls := .type "cell", data := .cell none }] at hm
      rcases cells_mem hm with hm | ⟨h1, h2, h3⟩
      · rcases List.mem_cons.mp hm with e | hm
        · cases e
          exact .inr ⟨hk ▸ List.mem_cons_self, Nat.le_refl _, _, pushCells_keeps r _ _ _ (Heap.get?_push_size _ rfl), rfl⟩
        · exact .inl hm
      · rw [Heap.size_push] at h2
        exact .inr ⟨List.mem_cons_of_mem _ h1, Nat.le_of_succ_le h2, h3⟩
    · rename_i hk
      rw [if_neg hk]
      rcases cells_mem hm with hm | ⟨h1, h2, h3⟩
      · exact .inl hm
      · exact .inr ⟨List.mem_cons_of_mem _ h1, h2, h3⟩
theorem cells_acc : ∀ {names : List (Str × NameKind)} {n : Nat} {acc : List (Str × Addr)} {p : Str × Addr}, p ∈ acc → p ∈ cellsFrom n names acc
  | [], _, _, _, h => h
  | (m, k) :: r, n, acc, p, h => by
    unfold cellsFrom
    split
    · exact cells_acc (List.mem_cons_of_mem _ h)
    · exact cells_acc h
theorem cells_has : ∀ {names : List (Str × NameKind)} {n : Nat} {acc : List (Str × Addr)} {x : Str}, (x, .cell) ∈ names → ∃ c, (x, c) ∈ cellsFrom n names acc
  | (m, k) :: r, n, acc, x, h => by
    unfold cellsFrom
    rcases List.mem_cons.mp h with e | h
    · cases e
      exact ⟨n, cells_acc List.mem_cons_self⟩
    · split
      · exact cells_has h
      · exact cells_has h
theorem cells_inj : ∀ {names : List (Str × NameKind)} {h : Heap} {acc : List (Str × Addr)} {x y : Str} {c : Addr}, (∀ p ∈ acc, p.2 < h.objs.size) → (∀ x y c, (x, c) ∈ acc → (y, c) ∈ acc → x = y) →
    (x, c) ∈ cellsFrom h.objs.size names acc → (y, c) ∈ cellsFrom h.objs.size names acc → x = y
  | [], _, _, _, _, _, _, hi, h1, h2 => hi _ _ _ h1 h2
  | (n, k) :: r, h, acc, x, y, c, hl, hi, h1, h2 => by
    unfold cellsFrom at h1 h2
    split at h1
    · rename_i hk
      rw [if_pos hk] at h2
      rw [← Heap.size_push h { cls := .type "cell", data := .cell none }] at h1 h2
      refine cells_inj (h := h.push _) (fun p hp => ?_) (fun x y c a b => ?_) h1 h2
      · rw [Heap.size_push]
        rcases List.mem_cons.mp hp with rfl | hp
        · exact Nat.lt_succ_self _
        · exact Nat.lt_succ_of_lt (hl p hp)
      · rcases List.mem_cons.mp a with e | a <;> rcases List.mem_cons.mp b with e' | b
        · cases e; cases e'; rfl
        · cases e; exact absurd (hl _ b) (Nat.lt_irrefl _)
        · cases e'; exact absurd (hl _ a) (Nat.lt_irrefl _)
        · exact hi _ _ _ a b
    · rename_i hk
      rw [if_neg hk] at h2
      exact cells_inj hl hi h1 h2
theorem newEnv_comp {M : Model} {A : Around} {E : Value → Shared → Prop} {s : Shared} {scope : Scope} {globals : Addr} {closure : List (Str × Addr)} {qual : Str} {func : Option Addr} {code : Value} {around : Env} {builtins : Addr} {Q : Env → Shared → Prop}
    (h : Q (newEnv scope s.heap.objs.size globals (cellsFrom (s.heap.objs.size + 1) scope.names closure) qual func code (some around) builtins)
      { s with heap := pushCells (s.heap.push { cls := .type "dict", data := .dict #[] }) scope.names }) :
    wpAny M A (newFunctionEnv scope globals closure [] qual func code (some around) builtins) Q E s := by
  simp only [newFunctionEnv, Option.isSome_some, if_true]
  refine wpAny_bind (wpAny_alloc ?_)
  refine wpAny_bind (wpAny_layCells _ (fun n k c => rfl) scope.names closure _ _ ?_)
  rw [show ({ s with heap := s.heap.push { cls := .type "dict", data := .dict #[] } } : Shared).heap.objs.size = s.heap.objs.size + 1 from Heap.size_push ..]
  rw [List.forIn_nil]
  exact wpAny_bind (wpAny_pure (wpAny_pure h))
theorem lookup_relS {sc : Scope} : ∀ {names : List (Str × NameKind)} {x : Str} {k : NameKind},
    (names.map fun (n, k) => if (k == NameKind.free && sc.kind == .function && sc.names.lookup n == some .cell) then (n, NameKind.cell) else (n, k)).lookup x = some k →
    ∃ k', names.lookup x = some k' ∧ (k = k' ∨ (k' = .free ∧ k = .cell))
  | [], _, _, h => by simp at h
  | (n, k₀) :: r, x, k, h => by
    have ih := @lookup_relS sc r x k
    have h' : List.lookup x ((if (k₀ == NameKind.free && sc.kind == .function && sc.names.lookup n == some .cell) = true then (n, NameKind.cell) else (n, k₀)) :: (r.map _)) = some k := h
    cases hx : x == n with
    | true =>
      simp only [List.lookup_cons, hx]
      by_cases hc : (k₀ == NameKind.free && sc.kind == .function && sc.names.lookup n == some .cell) = true
      · rw [if_pos hc] at h'
        simp only [List.lookup_cons, hx] at h'
        cases h'
        simp only [Bool.and_eq_true, beq_iff_eq] at hc
        exact ⟨k₀, rfl, .inr ⟨hc.1.1, rfl⟩⟩
      · rw [if_neg hc] at h'
        simp only [List.lookup_cons, hx] at h'
        cases h'
        exact ⟨_, rfl, .inl rfl⟩
    | false =>
      simp only [List.lookup_cons, hx]
      by_cases hc : (k₀ == NameKind.free && sc.kind == .function && sc.names.lookup n == some .cell) = true
      · rw [if_pos hc] at h'
        simp only [List.lookup_cons, hx] at h'
        exact ih h'
      · rw [if_neg hc] at h'
        simp only [List.lookup_cons, hx] at h'
        exact ih h'
structure BlkOk (N : List Str) (sc scope : Scope) (own : List (Str × Nat)) : Prop where
  kind : scope.kind = .function
  uniq : ∀ y ∈ scope.names, scope.names.lookup y.1 = some y.2
  ix : ∀ p ∈ own, N[p.2]? = some p.1
  free : ∀ y ∈ scope.names, y.2 = .free → sc.names.lookup y.1 = some .cell ∨ sc.names.lookup y.1 = some .free
  own : ∀ y ∈ scope.names, y.2 = .local ∨ y.2 = .cell → y.1 ∈ own.map (·.1) ∨ y.1 ∉ N
noncomputable def wipe (σ : St) : List Nat → St
  | [] => σ
  | v :: vs => (wipe σ vs).set v none
theorem wipe_length (σ : St) : ∀ vs : List Nat, (wipe σ vs).length = σ.length
  | [] => rfl
  | v :: vs => by unfold wipe; rw [List.length_set, wipe_length σ vs]
theorem wipe_some {σ : St} {i : Nat} {x : V} : ∀ {vs : List Nat}, (wipe σ vs)[i]? = some (some x) → σ[i]? = some (some x) ∧ i ∉ vs
  | [], h => ⟨h, by simp⟩
  | v :: vs, h => by
    unfold wipe at h
    by_cases hi : v = i
    · subst hi
      by_cases hv : v < (wipe σ vs).length
      · rw [List.getElem?_set_self hv] at h; cases h
      · rw [List.getElem?_eq_none (by simpa using hv)] at h; cases h
    · rw [List.getElem?_set_ne hi] at h
      obtain ⟨h1, h2⟩ := wipe_some h
      exact ⟨h1, by simp only [List.mem_cons, not_or]; exact ⟨fun e => hi e.symm, h2⟩⟩
noncomputable abbrev Cx.blk (X : Cx) (s : Shared) (H : Hp) (scope : Scope) (cenv : Env) (fp : List Addr) : Cx := { X with s_0 := s, H_0 := H, env := cenv, outer := X.stack, ex := fp, fn := fun x => scope.names.lookup x == some .cell, pn := [], xe := fun _ _ => False }
section
variable {X : Cx} {pins : List (Addr × Obj)} {σ : St} {H : Hp} {s : Shared}
theorem block_start {scope : Scope} {own : List (Str × Nat)} {fp : List Addr} (I : Inv X pins σ H s) (ok : BlkOk X.N X.env.scope scope own) (hN : X.N.Nodup) (hfp : ∀ b ∈ fp, FpOk X pins H b ∧ b < s.heap.objs.size) :
    Inv (X.blk s H scope (compEnvC scope (cellsFrom (s.heap.objs.size + 1) scope.names (cloFrom X.env.cells scope.names [])) s.heap.objs.size X.env) fp) [] (wipe σ (own.map (·.2))) H { s with heap := pushCells (s.heap.push { cls := .type "dict", data := .dict #[] }) scope.names } := by
  have hfree : ∀ y ∈ scope.names, y.2 = .free → ∃ c, X.env.cells.lookup y.1 = some c := fun y hy e => by
    rcases ok.free y hy e with k | k
    · exact I.ok.has _ (.inl k)
    · exact I.ok.has _ (.inr k)
  generalize hcenv : compEnvC scope (cellsFrom (s.heap.objs.size + 1) scope.names (cloFrom X.env.cells scope.names [])) s.heap.objs.size X.env = cenv
  have kp : ∀ b o, s.heap.get? b = some o → (pushCells (s.heap.push { cls := .type "dict", data := .dict #[] }) scope.names).get? b = some o := fun b o e => pushCells_keeps _ _ _ _ (Heap.get?_push_of_some _ e)
  have hL : cenv.locals = s.heap.objs.size := by rw [← hcenv]; rfl
  have hcl : cenv.cells = cellsFrom (s.heap.objs.size + 1) scope.names (cloFrom X.env.cells scope.names []) := by rw [← hcenv]; rfl
  have hsc : cenv.scope = relS scope X.env.scope := by rw [← hcenv]; rfl
  rw [← Heap.size_push s.heap { cls := .type "dict", data := .dict #[] }] at hcl
  have cm : ∀ {y c}, (y, c) ∈ cloFrom X.env.cells scope.names [] → X.env.cells.lookup y = some c ∧ c < s.heap.objs.size := fun {y c} hm => by
    rcases cloFrom_mem hm with hm | ⟨h1, rfl⟩
    · cases hm
    · obtain ⟨c, hc⟩ := hfree _ h1 rfl
      rw [hc]
      obtain ⟨w, z⟩ := I.cell _ _ hc
      exact ⟨rfl, z.lt⟩
  have mem : ∀ {y c}, cenv.cells.lookup y = some c → (X.env.cells.lookup y = some c ∧ c < s.heap.objs.size) ∨ (s.heap.objs.size + 1 ≤ c ∧ CellAt (pushCells (s.heap.push { cls := .type "dict", data := .dict #[] }) scope.names) c none) := fun {y c} e => by
    rw [hcl] at e
    rcases cells_mem (PySem.mem_of_lookup e) with hm | ⟨_, h2, h3⟩
    · exact .inl (cm hm)
    · rw [Heap.size_push] at h2; exact .inr ⟨h2, h3⟩
  have look : ∀ {y}, scope.names.lookup y = some .free → ∃ c, cenv.cells.lookup y = some c ∧ X.env.cells.lookup y = some c := fun {y} hl => by
    have hy : (y, NameKind.free) ∈ scope.names := PySem.mem_of_lookup hl
    obtain ⟨c', e'⟩ := mem_lookup (cells_acc (names := scope.names) (n := (s.heap.push { cls := .type "dict", data := .dict #[] }).objs.size) (cloFrom_has (cells := X.env.cells) (acc := []) hy))
    rw [← hcl] at e'
    refine ⟨c', e', ?_⟩
    rw [hcl] at e'
    rcases cells_mem (PySem.mem_of_lookup e') with hm | ⟨h1, _, _⟩
    · exact (cm hm).1
    · have := ok.uniq _ h1
      rw [hl] at this; cases this
  have okB : (X.blk s H scope cenv fp).Ok := by
    refine ⟨I.ok.mod, by show cenv.scope.kind = _; rw [hsc]; exact ok.kind, by show cenv.globals = _; rw [← hcenv]; exact I.ok.glob, by show cenv.builtins = _; rw [← hcenv]; exact I.ok.blt, by show s.heap.objs.size ≤ cenv.locals; rw [hL]; exact Nat.le_refl _,
      fun y z c e1 e2 => ?_, fun y hy => ?_, fun y c z e => ?_, I.ok.hd, I.ok.frames, .inl rfl, fun b hb => ⟨?_, fun y c e z => ?_⟩, I.bs, Nat.le_trans I.ok.bsz I.sz, fun b o e hb => ?_, fun b hb z => ?_, I.stack, I.stkFree⟩
    · have e1 : cenv.cells.lookup y = some c := e1
      have e2 : cenv.cells.lookup z = some c := e2
      rw [hcl] at e1 e2
      refine cells_inj (fun p hp => ?_) (fun y z c a b => I.ok.inj y z c (cm a).1 (cm b).1) (PySem.mem_of_lookup e1) (PySem.mem_of_lookup e2)
      rw [Heap.size_push]
      exact Nat.lt_succ_of_lt (cm (y := p.1) (c := p.2) hp).2
    · show ∃ c, cenv.cells.lookup y = some c
      have key : ∀ k, cenv.kindOf y = some k → (k = .cell ∨ k = .free) → ∃ c, cenv.cells.lookup y = some c := fun k hk hk' => by
        unfold Env.kindOf at hk
        rw [hsc] at hk
        obtain ⟨k', e, r⟩ := lookup_relS hk
        have : k' = .cell ∨ k' = .free := by
          rcases r with rfl | ⟨rfl, _⟩
          · exact hk'
          · exact .inr rfl
        rcases this with rfl | rfl
        · obtain ⟨c, hm⟩ := cells_has (n := (s.heap.push { cls := .type "dict", data := .dict #[] }).objs.size) (acc := cloFrom X.env.cells scope.names []) (PySem.mem_of_lookup e)
          obtain ⟨c', e'⟩ := mem_lookup hm
          exact ⟨c', by rw [hcl]; exact e'⟩
        · obtain ⟨c, h1, _⟩ := look e
          exact ⟨c, h1⟩
      rcases hy with hy | hy
      · exact key _ hy (.inl rfl)
      · exact key _ hy (.inr rfl)
    · have z : (scope.names.lookup y == some NameKind.cell) = true := z
      have z : scope.names.lookup y = some .cell := by simpa using z
      have e : cenv.cells.lookup y = some c := e
      rw [hcl] at e
      rcases cells_mem (PySem.mem_of_lookup e) with hm | ⟨_, h2, _⟩
      · rcases cloFrom_mem hm with hm | ⟨h1, _⟩
        · cases hm
        · have q := ok.uniq _ h1
          rw [z] at q; cases q
      · rw [Heap.size_push] at h2
        exact Nat.le_of_succ_le h2
    · show b ≠ cenv.locals
      rw [hL]; exact Nat.ne_of_lt (hfp b hb).2
    · have e : cenv.cells.lookup y = some c := e
      rcases mem e with ⟨h1, _⟩ | ⟨h1, _⟩
      · exact (hfp b hb).1.2.2.2.2.1 y c h1 z
      · have h2 : s.heap.objs.size + 1 ≤ b := by rw [← z]; exact h1
        exact absurd (Nat.lt_of_lt_of_le (hfp b hb).2 (Nat.le_of_succ_le h2)) (Nat.lt_irrefl _)
    · rcases (hfp b hb).1.2.2.2.1 with z | z
      · exact I.ok.noex b o e z
      · exact absurd (Nat.lt_of_lt_of_le (Heap.lt_size e) (Nat.le_trans I.ok.bsz z)) (Nat.lt_irrefl _)
    · rcases List.mem_cons.mp (I.stkSub b z) with z | z
      · exact (hfp b hb).1.2.1 z
      · exact (hfp b hb).1.2.2.1 z
  refine ⟨okB, rfl, I.bare, Un.kept kp, ⟨fun _ => none, ?_, fun i y av e1 e2 e3 => ?_⟩, fun y c e => ?_, ?_, fun y c e => ?_, fun p hp => ?_, I.hok.kept kp, by rw [wipe_length]; exact I.len⟩
  · show Heap.Ns _ cenv.locals _
    rw [hL]
    exact Heap.Ns.keeps (Heap.Ns.new ..) fun b o e => pushCells_keeps _ _ _ _ e
  · obtain ⟨e2, hne⟩ := wipe_some e2
    have hfr : scope.names.lookup y = some .free ∧ (cenv.kindOf y = some .cell ∨ cenv.kindOf y = some .free) := by
      have key : ∀ k, cenv.scope.names.lookup y = some k → k = .local ∨ k = .cell ∨ k = .free → scope.names.lookup y = some .free ∧ (cenv.kindOf y = some .cell ∨ cenv.kindOf y = some .free) := fun k hk hk' => by
        have hk0 := hk
        rw [hsc] at hk
        obtain ⟨k', e, r⟩ := lookup_relS hk
        have no : ¬ (k' = .local ∨ k' = .cell) := fun hh => by
          rcases ok.own _ (PySem.mem_of_lookup e) hh with e' | e'
          · obtain ⟨p, hp, hpy⟩ := List.mem_map.mp e'
            have e3 := ok.ix p hp
            have : p.1 = y := hpy
            rw [this] at e3
            exact hne (List.mem_map.mpr ⟨p, hp, nodup_ix hN e3 e1⟩)
          · exact e' (List.mem_of_getElem? e1)
        rcases r with rfl | ⟨rfl, rfl⟩
        · rcases hk' with rfl | rfl | rfl
          · exact absurd (.inl rfl) no
          · exact absurd (.inr rfl) no
          · exact ⟨e, .inr hk0⟩
        · exact ⟨e, .inl hk0⟩
      have e3 : Vis cenv.scope y := e3
      rcases e3 with e3 | e3 | e3
      · exact key _ e3 (.inl rfl)
      · exact key _ e3 (.inr (.inl rfl))
      · exact key _ e3 (.inr (.inr rfl))
    obtain ⟨m, hn, hl⟩ := I.loc
    have hvis : Vis X.env.scope y := (ok.free _ (PySem.mem_of_lookup hfr.1) rfl).elim (fun k => .inr (.inl k)) (fun k => .inr (.inr k))
    obtain ⟨w, r, q⟩ := hl i y av e1 e2 hvis
    refine ⟨w, r, .inr ⟨hfr.2, ?_⟩⟩
    obtain ⟨c, h1, h2⟩ := look hfr.1
    rcases q with ⟨k, _⟩ | ⟨_, c', e', z⟩
    · have k : X.env.scope.names.lookup y = some .local := k
      rcases ok.free _ (PySem.mem_of_lookup hfr.1) rfl with k' | k' <;> rw [show X.env.scope.names.lookup y = _ from k'] at k <;> cases k
    · rw [h2] at e'; cases e'
      exact ⟨c, h1, z.keeps kp⟩
  · have e : cenv.cells.lookup y = some c := e
    rcases mem e with ⟨h1, _⟩ | ⟨_, z⟩
    · obtain ⟨w, z⟩ := I.cell y c h1
      exact ⟨w, z.keeps kp⟩
    · exact ⟨_, z⟩
  · show H cenv.locals = none
    rw [hL]; exact I.hok.fresh (Nat.le_refl _)
  · have e : cenv.cells.lookup y = some c := e
    rcases mem e with ⟨h1, _⟩ | ⟨h1, _⟩
    · exact I.freeC y c h1
    · exact I.hok.fresh (Nat.le_of_succ_le h1)
  · exact absurd (show p ∈ ([] : List (Addr × Obj)) ++ [] from hp) (by simp)
theorem app_ok {E : Value → Shared → Prop} {D : Addr} {xs : List V} {y : V} {v : Value} {Q : Value → Shared → Prop} (I : Inv X pins σ H s) (hD : H D = some (.lst xs)) (hz : xs.length < sizeLine) (r : RelV y v)
    (h : ∀ s', Inv X pins σ (upd H D (.lst (xs ++ [y]))) s' → Q .none s') : wpAny (model X.prog X.w) X.A (call (.builtin "list.append") [.ref D, v]) Q E s := by
  obtain ⟨hz', its, n, ri, e⟩ := I.hok D _ hD
  have hl := ri.length
  refine append_at (hsz := by rw [List.size_toArray]; omega) e fun h' sb ho' => ?_
  refine h { s with heap := h' } (I.write (t' := s.toks) (by rw [hD]; trivial) (.inl rfl) (fun b u hb q => (sb.2 b hb).trans q) ⟨_, ho'⟩ ⟨by rw [List.length_append]; exact hz, its ++ [v], n + 1, ri.append (.cons r .nil), ?_⟩)
  rw [ho']
  simp
noncomputable def PTs (X : Cx) (ifs : List Expr) (t : TT) : Prop :=
  ∀ (pins : List (Addr × Obj)) (s : Shared) (σ : St) (H : Hp) (Q : Bool → Hp → Prop), Inv X pins σ H s → t σ H Q →
    wpAny (model X.prog X.w) X.A (forIn ifs true fun c r => if r = true then do let ok ← isTrue c X.env (eval c X.env); pure (ForInStep.yield ok) else pure (ForInStep.yield r)) (TP X pins σ Q) X.xe s
noncomputable def tYes : TT := fun _ H Q => Q true H
theorem pts_nil : PTs X [] tYes := fun _ _ _ H _ I h => wpAny_tests_nil ⟨H, I, h⟩
end
theorem thnF {α : Type} {t : Sem α} {Q Q' : α → Shared → Prop} {M : Model} {A : Around} {E : Value → Shared → Prop} {s : Shared} (h : wpAny M A t Q (fun _ _ => False) s) (hQ : ∀ a s, Q a s → Q' a s) : wpAny M A t Q' E s := wpAny_mono h hQ fun _ _ z => False.elim z
theorem compLoop_any {prog : Program} {w : World} {A : Around} {R : Result → Shared → Prop} {s : Shared} {elt target iter : Expr} {ifs : List Expr} {scope : Scope} {pos : Pos} {it acc : Value} {env : Env} (I : Nat → Shared → Prop)
    (turn : ∀ n s, I n s → wpAny (model prog w) A (pyNext it) (fun r s₁ => match r with
      | none => R (.ok .next) s₁
      | some v => wpAny (model prog w) A (letOwnedTupleGo target it v) (fun _ s₁' => wpAny (model prog w) A (assign target env v) (fun _ s₂ =>
          wpAny (model prog w) A (forIn ifs true fun c r => if r = true then do let ok ← isTrue c env (eval c env); pure (ForInStep.yield ok) else pure (ForInStep.yield r)) (fun ok s₃ =>
            if ok = true then wpAny (model prog w) A (eval elt env) (fun x s₄ =>
              wpAny (model prog w) A (call (.builtin "list.append") [acc, x]) (fun _ s₅ => ∃ m, m < n ∧ I m s₅) (notedBy (model prog w) A env fun e s' => R (.error e) s') s₄) (notedBy (model prog w) A env fun e s' => R (.error e) s') s₃
            else ∃ m, m < n ∧ I m s₃) (notedBy (model prog w) A env fun e s' => R (.error e) s') s₂) (notedBy (model prog w) A env fun e s' => R (.error e) s') s₁') (notedBy (model prog w) A env fun e s' => R (.error e) s') s₁) (notedBy (model prog w) A env fun e s' => R (.error e) s') s)
    (n : Nat) (h : I n s) :
    codeAny (model prog w) A (.compLoop (.ListComp elt [⟨target, iter, ifs, 0⟩] scope pos) 0 it acc env) R s := by
  refine codeAny_loop rfl I (fun n s hI => ?_) n h
  show wpAny _ A ((compTurn (.ListComp elt [⟨target, iter, ifs, 0⟩] scope pos) 0 it acc env).onRaise (fun x => do noteFrame x env; theTreesLotGoes x)) _ _ s
  refine wpAny_noted ?_
  rw [compTurn_list]
  refine wpAny_bind (wpAny_standAt (wpAny_bind (wpAny_mono (turn n s hI) (fun r s₁ h₁ => ?_) fun _ _ h' => h')))
  cases r with
  | none => exact wpAny_pure h₁
  | some v =>
    refine wpAny_bind (wpAny_mono h₁ (fun _ s₁' h₁' => ?_) fun _ _ h' => h')
    refine wpAny_bind (wpAny_mono h₁' (fun _ s₂ h₂ => wpAny_bind (wpAny_mono h₂ (fun ok s₃ h₃ => ?_) fun _ _ h' => h')) fun _ _ h' => h')
    cases ok with
    | false => exact wpAny_pure ⟨rfl, h₃⟩
    | true =>
      exact wpAny_bind (wpAny_bind (wpAny_mono h₃ (fun x s₄ h₄ => wpAny_bind (wpAny_mono h₄ (fun _ s₅ h₅ => wpAny_pure (wpAny_pure ⟨rfl, h₅⟩)) fun _ _ h' => h')) fun _ _ h' => h'))
section
variable {X : Cx}
noncomputable def tLc (wi : TI) (g : TG) (tt : TT) (te : TE) (vs : List Nat) : TE := fun σ H Q => wi σ H fun J H1 => ∀ D, H1 D = none → ∃ W : Nat → Nat → Hp → Prop, (∃ m, W 0 m (upd H1 D (.lst []))) ∧ ∀ i m H, W i m H →
  (J.stop i H ∧ Q (.ref D) H) ∨ (J.go i H ∧ ∃ Nx : Hp → Prop, (∀ H', Nx H' → ∃ m', m' < m ∧ W (i + 1) m' H') ∧ ∀ x H', J.yld i H x H' → g x (wipe σ vs) H' fun σ2 H2 => wipe σ2 vs = wipe σ vs ∧ tt σ2 H2 fun b H3 =>
    if b = true then te σ2 H3 fun y H4 => ∃ acc, H4 D = some (.lst acc) ∧ acc.length < sizeLine ∧ Nx (upd H4 D (.lst (acc ++ [y]))) else Nx H3)
theorem lc_core {pins : List (Addr × Obj)} {s : Shared} {σ : St} {H : Hp} {Q : VK} {elt tg iter : Expr} {ifs : List Expr} {scope : Scope} {own : List (Str × Nat)} {pos pos' : Pos} {wi : TI} {g : TG} {tt : TT} {te : TE} {use : Option (Value → Sem Unit)} {Qf : Value → Shared → Prop}
    (hc : X.calm = true) (hN : X.N.Nodup) (I : Inv X pins σ H s) (hi : PI X tg iter wi) (ok : BlkOk X.N X.env.scope scope own)
    (hg : ∀ (s : Shared) (H : Hp) (C : Addr) (cl : List (Str × Addr)) (fp : List Addr), PG (X.blk s H scope (compEnvC scope cl C X.env) fp) tg g) (ht : ∀ (s : Shared) (H : Hp) (C : Addr) (cl : List (Str × Addr)) (fp : List Addr), PTs (X.blk s H scope (compEnvC scope cl C X.env) fp) ifs tt)
    (he : ∀ (s : Shared) (H : Hp) (C : Addr) (cl : List (Str × Addr)) (fp : List Addr), PE (X.blk s H scope (compEnvC scope cl C X.env) fp) elt te) (hs : ∀ x, foldedSetIterable iter X.env x = pure x)
    (h : tLc wi g tt te (own.map (·.2)) σ H Q)
    (hRR : ∀ D C s' m H', Inv X pins σ H' s' → Q (.ref D) H' → s'.heap.Ns C m → FpOk X pins H' C → compPost (model X.prog X.w) X.A X.xe use Qf (.ref D) C (.ok .next) s') :
    wpAny (model X.prog X.w) X.A (comprehension (.ListComp elt [⟨tg, iter, ifs, 0⟩] scope pos) scope X.env pos' (newList []) false (eval iter X.env) use) Qf X.xe s := by
  have hfree : ∀ y ∈ scope.names, y.2 = .free → ∃ c, X.env.cells.lookup y.1 = some c := fun y hy e => by
    rcases ok.free y hy e with k | k
    · exact I.ok.has _ (.inl k)
    · exact I.ok.has _ (.inr k)
  refine wpAny_comprehension_free (use := use) rfl hs (closure_ok hfree) ok.kind (fun y hy e => by rw [ok.uniq y hy, e])
    (thn (hi pins s σ H _ I h) fun xv s1 hx => thn hx fun itv s2 h2 => ?_)
  obtain ⟨it, fp, tn, J, H2, e, I2, T, st2, f2, q⟩ := h2
  subst e
  refine wpAny_newObj_type (newEnv_comp ?_) (by show 0 ≤ sizeLine; decide)
  generalize hD : s2.heap.objs.size = D
  have hDn : H2 D = none := I2.hok.fresh (Nat.le_of_eq hD)
  obtain ⟨W, ⟨m0, w0⟩, turn⟩ := q D hDn
  generalize hs3 : ({ s2 with heap := s2.heap.push { cls := .type "list", data := .seq ([] : List Value).toArray } } : Shared) = s3
  have I3 : Inv X pins σ (upd H2 D (.lst [])) s3 := by
    rw [← hs3]
    refine I2.laid (t' := s2.toks) (fun b o e => Heap.get?_push_of_some _ e) (Nat.le_of_eq hD) ⟨Nat.zero_le _, [], 0, .nil, ?_⟩
    rw [← hD]
    exact Heap.get?_push_size _ rfl
  have h3 : s3.heap = s2.heap.push { cls := .type "list", data := .seq ([] : List Value).toArray } := by rw [← hs3]
  have sz : ∀ b ∈ fp, b < s2.heap.objs.size := fun b hb => by
    obtain ⟨o, e, _⟩ := T.obj _ _ st2 b hb
    exact Heap.lt_size e
  have f3 : ∀ b ∈ fp, FpOk X pins (upd H2 D (.lst [])) b ∧ b < s3.heap.objs.size := fun b hb => by
    have hlt := sz b hb
    refine ⟨⟨?_, (f2 b hb).2⟩, by rw [h3, Heap.size_push]; exact Nat.lt_succ_of_lt hlt⟩
    rw [upd_ne (by rw [← hD]; exact Nat.ne_of_lt hlt)]
    exact (f2 b hb).1
  have st3 : tn 0 s3.heap := T.keep _ _ _ st2 fun b _ o e => by rw [h3]; exact Heap.get?_push_of_some _ e
  have I4 := block_start I3 ok hN f3
  have pg := hg s3 (upd H2 D (.lst [])) s3.heap.objs.size (cellsFrom (s3.heap.objs.size + 1) scope.names (cloFrom X.env.cells scope.names [])) fp
  have pt := ht s3 (upd H2 D (.lst [])) s3.heap.objs.size (cellsFrom (s3.heap.objs.size + 1) scope.names (cloFrom X.env.cells scope.names [])) fp
  have pe := he s3 (upd H2 D (.lst [])) s3.heap.objs.size (cellsFrom (s3.heap.objs.size + 1) scope.names (cloFrom X.env.cells scope.names [])) fp
  show codeAny _ _ (.compStart (.ListComp elt [⟨tg, iter, ifs, 0⟩] scope pos) 0 (.ref it) (.ref D) (compEnvC scope (cellsFrom (s3.heap.objs.size + 1) scope.names (cloFrom X.env.cells scope.names [])) s3.heap.objs.size X.env)) (compPost (model X.prog X.w) X.A X.xe use Qf (.ref D) s3.heap.objs.size) { s3 with heap := pushCells (s3.heap.push { cls := .type "dict", data := .dict #[] }) scope.names }
  have nfp : ∀ b ∈ fp, (upd H2 D (.lst [])) b = none := fun b hb => (f3 b hb).1.1
  generalize hce : compEnvC scope (cellsFrom (s3.heap.objs.size + 1) scope.names (cloFrom X.env.cells scope.names [])) s3.heap.objs.size X.env = ce at I4 pg pt pe ⊢
  have cL : ce.locals = s3.heap.objs.size := by subst hce; rfl
  generalize hH3 : upd H2 D (.lst []) = H3 at I3 I4 pg pt pe w0 nfp f3
  generalize hs4 : ({ s3 with heap := pushCells (s3.heap.push { cls := .type "dict", data := .dict #[] }) scope.names } : Shared) = s4 at I4 ⊢
  have st4 : tn 0 s4.heap := T.keep _ _ _ st3 fun b _ o e => by rw [← hs4]; exact pushCells_keeps _ _ _ _ (Heap.get?_push_of_some _ e)
  have stat : ∀ {σ' : St} {H' : Hp} {s' : Shared}, Inv (X.blk s3 H3 scope ce fp) [] σ' H' s' → (∀ b ∈ fp, H' b = none) → ∀ b ∈ fp, FpOk (X.blk s3 H3 scope ce fp) [] H' b := fun {σ' H' s'} I' hn b hb =>
    ⟨hn b hb, (I'.ok.exf b hb).1, I'.ok.exfs b hb, .inl hb, fun x c e => (I'.ok.exf b hb).2 x c e, fun p hp => absurd (show p ∈ ([] : List (Addr × Obj)) ++ [] from hp) (by simp)⟩
  have loop : codeAny (model X.prog X.w) X.A (.compLoop (.ListComp elt [⟨tg, iter, ifs, 0⟩] scope pos) 0 (.ref it) (.ref D) ce) (compPost (model X.prog X.w) X.A X.xe use Qf (.ref D) s3.heap.objs.size) s4 := by
    refine compLoop_any (fun n s' => ∃ i H', Inv (X.blk s3 H3 scope ce fp) [] (wipe σ (own.map (·.2))) H' s' ∧ tn i s'.heap ∧ (∀ b ∈ fp, H' b = none) ∧ W i n H') ?_ m0 ⟨0, H3, I4, st4, nfp, w0⟩
    rintro n s5 ⟨i, H5, I5, st5, n5, w5⟩
    rcases turn i n H5 w5 with ⟨stop, qq⟩ | ⟨go, Nx, hNx, step⟩
    · have td := T.done (X.blk s3 H3 scope ce fp) rfl rfl rfl hc i [] s5 _ H5 (fun _ _ => False) I5 (stat I5 n5) st5 stop
      refine thnF td fun r s6 z__ => ?_
      obtain ⟨hr, I6⟩ := z__
      subst hr
      have I7 : Inv X pins σ H5 s6 := I3.call' (ch := fp) I6.os I6.base I6.hok I6.bare fun b hb => ⟨(f3 b hb).1.2.2.2.1, (f3 b hb).1.2.1, (f3 b hb).1.2.2.2.2.1, (f3 b hb).1.2.2.2.2.2⟩
      have nC : H5 s3.heap.objs.size = none := by
        have z : H5 ce.locals = none := I6.free
        rw [cL] at z
        exact z
      obtain ⟨m, hn, _⟩ := I6.loc
      have hn : s6.heap.Ns ce.locals m := hn
      rw [cL] at hn
      exact hRR D s3.heap.objs.size s6 m H5 I7 qq hn (I3.fpOk (Nat.le_refl _) nC)
    · have ti := T.item (X.blk s3 H3 scope ce fp) rfl rfl rfl hc i [] s5 _ H5 (fun _ _ => False) I5 (stat I5 n5) st5 go
      refine thnF ti fun r s6 z__ => ?_
      obtain ⟨u, hr, h6⟩ := z__
      subst hr
      refine thnF h6 fun _ s7 z__ => ?_
      obtain ⟨x, H7, I7, r7, y7, st7, n7⟩ := z__
      have I7' := I7.pinned (stat I7 n7) (T.obj _ _ st7)
      refine thnF (pg _ s7 _ H7 x u _ I7' r7 (step x H7 y7)) fun _ s8 z__ => ?_
      obtain ⟨σ8, H8, I8, hw8, q8⟩ := z__
      refine thnF (pt _ s8 σ8 H8 _ I8 q8) fun b s9 z__ => ?_
      obtain ⟨H9, I9, q9⟩ := z__
      have fin : ∀ {s' : Shared} {H' : Hp}, Inv (X.blk s3 H3 scope ce fp) ([] ++ pinsAt fp s7.heap) σ8 H' s' → Nx H' → ∃ m, m < n ∧ ∃ i H', Inv (X.blk s3 H3 scope ce fp) [] (wipe σ (own.map (·.2))) H' s' ∧ tn i s'.heap ∧ (∀ b ∈ fp, H' b = none) ∧ W i m H' := fun {s' H'} I' nx => by
        obtain ⟨m', hm, w'⟩ := hNx H' nx
        have pin' : ∀ b ∈ fp, ∀ o, s7.heap.get? b = some o → s'.heap.get? b = some o ∧ H' b = none := fun b hb o e =>
          let z := I'.pin (b, o) (List.mem_append_right _ (List.mem_append_right _ (mem_pinsAt hb e)))
          ⟨z.1, z.2.1⟩
        have hl : (wipe σ (own.map (·.2))).length = σ8.length := by rw [← hw8, wipe_length]
        refine ⟨m', hm, i + 1, H', (I'.unpinned (pins := [])).weak hl (fun j v e => ?_), T.keep _ _ _ st7 fun b hb o e => (pin' b hb o e).1, fun b hb => ?_, w'⟩
        · rw [← hw8] at e
          exact (wipe_some e).1
        · obtain ⟨o, e, _⟩ := T.obj _ _ st7 b hb
          exact (pin' b hb o e).2
      cases b with
      | false =>
        simp only [Bool.false_eq_true, if_false] at q9 ⊢
        exact fin I9 q9
      | true =>
        simp only [if_true] at q9 ⊢
        refine thnF (pe _ s9 σ8 H9 _ I9 q9) fun z s10 z__ => ?_
        obtain ⟨yv, H10, I10, r10, acc, hD10, hz10, nx⟩ := z__
        exact app_ok (X := X.blk s3 H3 scope ce fp) I10 hD10 hz10 r10 fun s11 I11 => fin I11 nx
  exact codeAny_compStart_list loop (T.self X.A 0 _ _ _ st4 loop)
theorem pe_lc {elt tg iter : Expr} {ifs : List Expr} {scope : Scope} {own : List (Str × Nat)} {pos : Pos} {wi : TI} {g : TG} {tt : TT} {te : TE} (hc : X.calm = true) (hN : X.N.Nodup) (hi : PI X tg iter wi) (ok : BlkOk X.N X.env.scope scope own)
    (hg : ∀ (s : Shared) (H : Hp) (C : Addr) (cl : List (Str × Addr)) (fp : List Addr), PG (X.blk s H scope (compEnvC scope cl C X.env) fp) tg g) (ht : ∀ (s : Shared) (H : Hp) (C : Addr) (cl : List (Str × Addr)) (fp : List Addr), PTs (X.blk s H scope (compEnvC scope cl C X.env) fp) ifs tt)
    (he : ∀ (s : Shared) (H : Hp) (C : Addr) (cl : List (Str × Addr)) (fp : List Addr), PE (X.blk s H scope (compEnvC scope cl C X.env) fp) elt te) (hs : ∀ x, foldedSetIterable iter X.env x = pure x := by intro _; rfl) :
    PE X (.ListComp elt [⟨tg, iter, ifs, 0⟩] scope pos) (tLc wi g tt te (own.map (·.2))) := by
  intro pins s σ H Q I h
  rw [eval_ListComp]
  refine lc_core hc hN I hi ok hg ht he hs h fun D C s' m H' I' q hn f => ⟨m, hn, fun h'' sb => ?_⟩
  obtain ⟨f0, f1, f2, f3, f4, f5⟩ := f
  exact ⟨.ref D, H', I'.turned (t' := s'.toks) (fun b o hb e => (sb.2 b hb).trans e) f0 f1 f3 f4 f5, rfl, q⟩
theorem ps_setLc {i : Nat} {y : Str} {py : Pos} {elt tg iter : Expr} {ifs : List Expr} {scope : Scope} {own : List (Str × Nat)} {pos spos : Pos} {wi : TI} {g : TG} {tt : TT} {te : TE} (hc : X.calm = true) (hN : X.N.Nodup) (hy : X.N[i]? = some y) (hyl : X.env.scope.names.lookup y = some .local)
    (hsw : swapsWith (.ListComp elt [⟨tg, iter, ifs, 0⟩] scope pos) (some (.Name y py)) spos.line X.env = pure true) (hi : PI X tg iter wi) (ok : BlkOk X.N X.env.scope scope own)
    (hg : ∀ (s : Shared) (H : Hp) (C : Addr) (cl : List (Str × Addr)) (fp : List Addr), PG (X.blk s H scope (compEnvC scope cl C X.env) fp) tg g) (ht : ∀ (s : Shared) (H : Hp) (C : Addr) (cl : List (Str × Addr)) (fp : List Addr), PTs (X.blk s H scope (compEnvC scope cl C X.env) fp) ifs tt)
    (he : ∀ (s : Shared) (H : Hp) (C : Addr) (cl : List (Str × Addr)) (fp : List Addr), PE (X.blk s H scope (compEnvC scope cl C X.env) fp) elt te) (hs : ∀ x, foldedSetIterable iter X.env x = pure x := by intro _; rfl) :
    PS X (.Assign [.Name y py] (.ListComp elt [⟨tg, iter, ifs, 0⟩] scope pos) spos) (tAsg (tLc wi g tt te (own.map (·.2))) (gName i)) := by
  intro pins s σ H D I h
  rw [exec_Assign_Name_used _ _ _ _ hsw]
  refine wpAny_bind (wpAny_standAt (wpAny_bind ?_))
  show wpAny _ X.A (do let _ ← comprehension (.ListComp elt [⟨tg, iter, ifs, 0⟩] scope pos) scope X.env (firstIterPos [⟨tg, iter, ifs, 0⟩] pos) (newList []) false (eval iter X.env) (some (assign (.Name y py) X.env))) _ _ s
  have h : tLc wi g tt te (own.map (·.2)) σ H (fun x H1 => gName i x σ H1 D.nx) := h
  refine wpAny_bind (thn (lc_core (Qf := fun _ s' => SP X pins D .next s') hc hN I hi ok hg ht he hs h fun L C s' m H' I' q hn f => ?_) fun _ s' hq => wpAny_pure (wpAny_pure hq))
  show wpAny _ _ (assign (.Name y py) X.env (.ref L)) _ _ _
  refine wpAny_assign_Name (store_ok2 (v := V.ref L) I' hN hy (.inl hyl) rfl (fun s2 I2 z__ => ?_) (.inr hyl))
  obtain ⟨a, sb, ha⟩ := z__
  obtain ⟨f0, f1, f2, f3, f4, f5⟩ := f
  have haC : C ≠ a := by
    rcases ha with z | z
    · rw [z]; exact f1
    · exact fun e => f4 y a z e.symm
  refine ⟨m, hn.sameBut sb haC, fun h3 sb3 => ?_⟩
  exact ⟨_, H', I2.turned (t' := s2.toks) (fun b o hb e => (sb3.2 b hb).trans e) f0 f1 f3 f4 f5, q⟩
theorem sw_true {elt : Expr} {gs : List Comprehension} {scope : Scope} {pos py : Pos} {y : Str} {l : Nat} {env : Env} (hk : env.scope.kind = .function) (hy : env.scope.names.lookup y = some .local) (hl : (py.line == pos.line) = true)
    (ha : (scope.names.any fun (n, k) => n == y && (k == .local || k == .cell)) = false) : swapsWith (.ListComp elt gs scope pos) (some (.Name y py)) l env = pure true := by
  have ky : env.kindOf y = some .local := hy
  have hb : env.blockKind = .function := by unfold Env.blockKind; rw [hk]; rfl
  show (pure (env.blockKind == .function && env.kindOf y == some .local && py.line == pos.line && !(scope.names.any fun (n, k) => n == y && (k == .local || k == .cell))) : Sem Bool) = pure true
  rw [hb, ky, hl, ha]
  rfl
end
theorem lc_range {lo : Int} {n : Nat} {g : TG} {tt : TT} {te : TE} {vs : List Nat} {σ : St} {H1 : Hp} {D : Addr} {Qd : Hp → Prop} (Pv : Nat → Hp → Prop) (h0 : Pv 0 (upd H1 D (.lst [])))
    (hs : ∀ i H, i < n → Pv i H → g (.int (lo + i)) (wipe σ vs) H fun σ2 H2 => wipe σ2 vs = wipe σ vs ∧ tt σ2 H2 fun b H3 =>
      if b = true then te σ2 H3 fun y H4 => ∃ acc, H4 D = some (.lst acc) ∧ acc.length < sizeLine ∧ Pv (i + 1) (upd H4 D (.lst (acc ++ [y]))) else Pv (i + 1) H3) (hd : ∀ H, Pv n H → Qd H) :
    ∃ W : Nat → Nat → Hp → Prop, (∃ m, W 0 m (upd H1 D (.lst []))) ∧ ∀ i m H, W i m H →
      ((Itr lo n).stop i H ∧ Qd H) ∨ ((Itr lo n).go i H ∧ ∃ Nx : Hp → Prop, (∀ H', Nx H' → ∃ m', m' < m ∧ W (i + 1) m' H') ∧ ∀ x H', (Itr lo n).yld i H x H' → g x (wipe σ vs) H' fun σ2 H2 => wipe σ2 vs = wipe σ vs ∧ tt σ2 H2 fun b H3 =>
        if b = true then te σ2 H3 fun y H4 => ∃ acc, H4 D = some (.lst acc) ∧ acc.length < sizeLine ∧ Nx (upd H4 D (.lst (acc ++ [y]))) else Nx H3) := by
  refine ⟨fun i m H => m = n - i ∧ i ≤ n ∧ Pv i H, ⟨n, by simp, Nat.zero_le _, h0⟩, ?_⟩
  rintro i m H ⟨rfl, hi, p⟩
  by_cases hlt : i < n
  · refine .inr ⟨hlt, Pv (i + 1), fun H' p' => ⟨n - (i + 1), by omega, rfl, hlt, p'⟩, fun x H' y => ?_⟩
    obtain ⟨e, y⟩ := y
    subst e y
    exact hs i _ hlt p
  · have e : i = n := by omega
    subst e
    exact .inl ⟨Nat.le_refl _, hd H p⟩
theorem lc_list {K : PySem.W.Frag} {a : Addr} {xs : List V} {g : TG} {tt : TT} {te : TE} {vs : List Nat} {σ : St} {H1 : Hp} {D : Addr} {Qd : Hp → Prop} (Pv : Nat → Hp → Prop) (h0 : Pv 0 (upd H1 D (.lst []))) (hl : ∀ i H, i ≤ xs.length → Pv i H → SqL K H a xs)
    (hs : ∀ i x H, xs[i]? = some x → Pv i H → g x (wipe σ vs) H fun σ2 H2 => wipe σ2 vs = wipe σ vs ∧ tt σ2 H2 fun b H3 =>
      if b = true then te σ2 H3 fun y H4 => ∃ acc, H4 D = some (.lst acc) ∧ acc.length < sizeLine ∧ Pv (i + 1) (upd H4 D (.lst (acc ++ [y]))) else Pv (i + 1) H3) (hd : ∀ H, Pv xs.length H → Qd H) :
    ∃ W : Nat → Nat → Hp → Prop, (∃ m, W 0 m (upd H1 D (.lst []))) ∧ ∀ i m H, W i m H →
      ((Itl K a).stop i H ∧ Qd H) ∨ ((Itl K a).go i H ∧ ∃ Nx : Hp → Prop, (∀ H', Nx H' → ∃ m', m' < m ∧ W (i + 1) m' H') ∧ ∀ x H', (Itl K a).yld i H x H' → g x (wipe σ vs) H' fun σ2 H2 => wipe σ2 vs = wipe σ vs ∧ tt σ2 H2 fun b H3 =>
        if b = true then te σ2 H3 fun y H4 => ∃ acc, H4 D = some (.lst acc) ∧ acc.length < sizeLine ∧ Nx (upd H4 D (.lst (acc ++ [y]))) else Nx H3) := by
  refine ⟨fun i m H => m = xs.length - i ∧ i ≤ xs.length ∧ Pv i H, ⟨xs.length, by simp, Nat.zero_le _, h0⟩, ?_⟩
  rintro i m H ⟨rfl, hi, p⟩
  have q := hl i H hi p
  by_cases hlt : i < xs.length
  · refine .inr ⟨⟨xs, xs[i], q, by simp [hlt]⟩, Pv (i + 1), fun H' p' => ⟨xs.length - (i + 1), by omega, rfl, hlt, p'⟩, fun x H' y => ?_⟩
    obtain ⟨e, y⟩ := y
    subst e
    exact hs i x _ (y xs q) p
  · have e : i = xs.length := by omega
    subst e
    exact .inl ⟨⟨xs, q, Nat.le_refl _⟩, hd H p⟩
noncomputable def blkC (N : List Str) (sc scope : Scope) (own : List (Str × Nat)) : Bool :=
  (match scope.kind with | .function => true | _ => false) && (scope.names.all fun y => decide (scope.names.lookup y.1 = some y.2)) && (own.all fun p => decide (N[p.2]? = some p.1)) &&
    (scope.names.all fun y => match y.2 with
      | .free => (match sc.names.lookup y.1 with | some .cell => true | some .free => true | _ => false)
      | .local => decide (y.1 ∈ own.map (·.1)) || decide (y.1 ∉ N)
      | .cell => decide (y.1 ∈ own.map (·.1)) || decide (y.1 ∉ N)
      | _ => true)
theorem blkOk_by {N : List Str} {sc scope : Scope} {own : List (Str × Nat)} (h : blkC N sc scope own = true) : BlkOk N sc scope own := by
  unfold blkC at h
  simp only [Bool.and_eq_true, List.all_eq_true, decide_eq_true_eq] at h
  obtain ⟨⟨⟨h1, h2⟩, h3⟩, h4⟩ := h
  refine ⟨?_, h2, h3, fun y hy e => ?_, fun y hy e => ?_⟩
  · split at h1
    · assumption
    · cases h1
  · have q := h4 y hy
    simp only [e] at q
    split at q <;> first | exact .inl (by assumption) | exact .inr (by assumption) | cases q
  · have q := h4 y hy
    rcases e with e | e <;> (simp only [e, Bool.or_eq_true, decide_eq_true_eq] at q; exact q)
end L2
namespace L2
open PySem PySem.Spec PyProof.Rows
section
variable {prog : Program} {w : World} {A : Around} {R : Result → Shared → Prop} {s : Shared} {elt t0 i0 t1 i1 : Expr} {ifs0 ifs1 : List Expr} {scope : Scope} {pos : Pos} {it acc : Value} {env : Env}
end
section
variable {X : Cx}
end
end L2
namespace L2
open PySem PySem.Spec PyProof.Rows
section
variable {κ : Type} [DecidableEq κ]
noncomputable def valV (kvs : List (κ × V)) (k : κ) : Option V := (kvs.find? fun kv => decide (kv.1 = k)).map (·.2)
theorem valV_pos {p : κ × V} {r : List (κ × V)} {k : κ} (e : p.1 = k) : valV (p :: r) k = some p.2 := by simp [valV, List.find?_cons, e]
theorem valV_neg {p : κ × V} {r : List (κ × V)} {k : κ} (e : ¬ p.1 = k) : valV (p :: r) k = valV r k := by simp [valV, List.find?_cons, e]
theorem RelO.isSome_eq {o : Option V} {u : Option Value} (r : RelO o u) : o.isSome = u.isSome := by
  cases o with
  | none => cases u with
    | none => rfl
    | some _ => exact (show False from r).elim
  | some _ => cases u with
    | none => exact (show False from r).elim
    | some _ => rfl
theorem KV.val {kvs : List (κ × V)} {vs : List (κ × Value)} (r : KV kvs vs) (k : κ) : RelO (valV kvs k) (valueAt vs k) := by
  unfold KV at r
  induction r with
  | nil => exact True.intro
  | @cons p q ps qs h t ih =>
    obtain ⟨h1, h2⟩ := h
    by_cases e : p.1 = k
    · have e' : q.1 = k := h1.symm.trans e
      have b : valueAt (q :: qs) k = some q.2 := by simp [valueAt, List.find?_cons, e']
      rw [valV_pos e, b]; exact h2
    · have e' : ¬ q.1 = k := fun z => e (h1.trans z)
      have b : valueAt (q :: qs) k = valueAt qs k := by simp [valueAt, List.find?_cons, e']
      rw [valV_neg e, b]; exact ih
end
theorem kV_is {P : Program} {w : World} {k : Key} {u : Value} (r : RelV (kV k) u) : (mixKind P w).is k u = true := by
  cases k with
  | inl i => obtain ⟨t, e⟩ := (show ∃ t, u = Value.int i t from r); subst e; exact mixKind_int P w i t
  | inr x => obtain ⟨t, e⟩ := (show ∃ t, u = Value.str x t from r); subst e; exact mixKind_str P w x t
section
variable {P : Program} {w : World} {H : Hp} {h : Heap} {a : Addr}
end
section
variable {X : Cx} {pins : List (Addr × Obj)} {σ : St} {H : Hp} {s : Shared} {a : Addr} {y v : V} {u r : Value} {o : Option V} {A : Around} {E : Value → Shared → Prop}
end
section
variable {X : Cx} {pins : List (Addr × Obj)} {σ : St} {H : Hp} {s : Shared} {a : Addr} {kvs : List (Key × V)} {k : Key} {u : Value} {A : Around} {E : Value → Shared → Prop}
end
noncomputable def NoSl (i : Expr) : Prop := ∀ ov iv, subscripted i false ov iv = operate [ov, iv] (getItem ov iv)
theorem subD_of {prog : Program} {w : World} {A : Around} {E : Value → Shared → Prop} {s : Shared} {env : Env} {value slice : Expr} {pos : Pos} {T id : String} {Q : Value → Shared → Prop}
    (hl : typeLookup (.type T) "__getitem__" = pure (some (.builtin id))) (hs : NoSl slice)
    (h : wpAny (model prog w) A (eval value env) (fun o s₁ => wpAny (model prog w) A (eval slice env) (fun i s₂ => s₂.TypeIs o T ∧ wpAny (model prog w) A (getItem o i) Q E s₂) E s₁) E s) :
    wpAny (model prog w) A (eval (.Subscript value slice pos) env) Q E s := by
  refine Subscript_ (wpAny_mono h (fun o s₁ h₁ => wpAny_mono h₁ (fun i s₂ h₂ => ?_) fun _ _ x => x) fun _ _ x => x)
  obtain ⟨hT, h₂⟩ := h₂
  unfold subscriptTail
  refine wpAny_bind ?_
  rw [getitemInPython_of_ne hT.not_modules]
  refine wpAny_bind (wpAny_specialOf hT hl ?_)
  have fin : wpAny (model prog w) A (subscripted slice false o i) (fun r s₃ => wpAny (model prog w) A (letTemporaryGo value o r >>= fun _ => pure r) Q E s₃) E s₂ := by
    rw [hs o i]
    exact wpAny_operating (wpAny_mono h₂ (fun r s₃ h₃ => wpAny_bind (wpAny_letTemporaryGo (wpAny_pure h₃))) fun _ _ x => x)
  first
    | exact wpAny_pure (wpAny_bind fin)
    | exact wpAny_bind (wpAny_pure (wpAny_bind fin))
    | exact wpAny_bind fin
section
variable {X : Cx} {o i e value : Expr} {pos pos' tpos : Pos} {td ty tv : TE}
end
section
variable {X : Cx} {pos : Pos}
end
section
variable {X : Cx} {pins : List (Addr × Obj)} {σ : St} {H : Hp} {s : Shared} {a : Addr} {y d : V} {u r : Value} {o : Option V} {A : Around} {E : Value → Shared → Prop}
end
section
variable {X : Cx} {o e f : Expr} {apos cpos : Pos} {td ty tx : TE}
end
section
variable {X : Cx} {pins : List (Addr × Obj)} {σ : St} {H : Hp} {s : Shared} {a : Addr} {kvs : List (Key × V)} {A : Around} {E : Value → Shared → Prop}
end
section
variable {X : Cx} {pins : List (Addr × Obj)} {σ : St} {H : Hp} {s : Shared} {a : Addr} {y : V} {u : Value} {A : Around} {E : Value → Shared → Prop}
end
end L2
namespace L2
open PySem PySem.Spec PyProof.Rows
section
variable {prog : Program} {w : World} {A : Around} {E : Value → Shared → Prop}
end
section
variable {X : Cx}
end
end L2
namespace L2
open PySem PySem.Spec PyProof.Rows
section
variable {X : Cx} {pins : List (Addr × Obj)} {σ : St} {H : Hp} {s : Shared} {h' : Heap}
theorem Inv.turnedL {t' : Nat} {ch : List Addr} (I : Inv X pins σ H s) (k : ∀ b o, b ∉ ch → s.heap.get? b = some o → h'.get? b = some o) (hf : ∀ b ∈ ch, FpOk X pins H b) : Inv X pins σ H { s with heap := h', toks := t' } := by
  have nit : ∀ b u, H b = some u → b ∉ ch := fun b u e z => by
    have q := (hf b z).1
    rw [q] at e; cases e
  refine I.step (g' := s.gens) (d' := s.drawn) (ch := ch) (fun b hb => ⟨(hf b hb).2.2.2.1, (hf b hb).2.1, (hf b hb).2.2.2.2.1, (hf b hb).2.2.2.2.2⟩) (fun b o _ _ hc e _ => k b o hc e) (fun b o _ _ hc e _ => ⟨o.slots, k b o hc e⟩)
    (fun _ _ _ _ n => n) (fun b o hc e => ⟨o, k b o hc e⟩) (fun _ _ e => e) (fun _ _ _ e => e) (fun b ps e => ⟨#[], by rw [e]; simp⟩) (fun m hm => ?_) (fun b u e => ?_) I.bare
  · obtain ⟨o, es, ep, ho, r⟩ := hm
    exact ⟨o, es, ep, k _ o (fun z => (hf _ z).2.1 rfl) ho, r⟩
  · refine (I.hok b u e).stay (fun c v hc q => k c v ?_ q) (fun _ q => q) fun _ _ q => q
    rcases hc with z | z
    · rw [z]; exact nit b u e
    · exact nit c _ z
theorem Inv.turnedNew {t' : Nat} {ch : List Addr} {T : Addr} {ob : HO} (I : Inv X pins σ H s) (k : ∀ b o, b ∉ ch → s.heap.get? b = some o → h'.get? b = some o) (hf : ∀ b ∈ ch, FpOk X pins H b) (hT : s.heap.objs.size ≤ T)
    (new : ObjOk X.prog X.w (upd H T ob) h' T ob) : Inv X pins σ (upd H T ob) { s with heap := h', toks := t' } := by
  have hn : H T = none := I.hok.fresh hT
  have nit : ∀ b u, H b = some u → b ∉ ch := fun b u e z => by
    have q := (hf b z).1
    rw [q] at e; cases e
  refine I.step (g' := s.gens) (d' := s.drawn) (ch := ch) (fun b hb => ⟨(hf b hb).2.2.2.1, (hf b hb).2.1, (hf b hb).2.2.2.2.1, (hf b hb).2.2.2.2.2⟩) (fun b o _ _ hc e _ => k b o hc e) (fun b o _ _ hc e _ => ⟨o.slots, k b o hc e⟩)
    (fun b o _ e n => ?_) (fun b o hc e => ⟨o, k b o hc e⟩) (fun b xs e => ?_) (fun b o u e => ?_) (fun b ps e => ⟨#[], ?_⟩) (fun m hm => ?_) (fun b u e => ?_) I.bare
  · rw [upd_ne (Nat.ne_of_lt (Nat.lt_of_lt_of_le (Heap.lt_size e) hT))]; exact n
  · rw [upd_ne (ne_of_none e hn)]; exact e
  · rw [upd_ne (ne_of_none e hn)]; exact e
  · rw [upd_ne (ne_of_none e hn), e]; simp
  · obtain ⟨o, es, ep, ho, r⟩ := hm
    exact ⟨o, es, ep, k _ o (fun z => (hf _ z).2.1 rfl) ho, r⟩
  · by_cases hb : b = T
    · subst hb
      rw [upd_same] at e
      cases e
      exact new
    · rw [upd_ne hb] at e
      refine (I.hok b u e).stay (fun c v hc q => k c v ?_ q) (fun c q => by rw [upd_ne (ne_of_none q hn)]; exact q) fun c xs q => by rw [upd_ne (ne_of_none q hn)]; exact q
      rcases hc with z | z
      · rw [z]; exact nit b u e
      · exact nit c _ z
end
section
variable {X : Cx}
theorem pi_one {tg : Expr} {pins : List (Addr × Obj)} {σ : St} {H : Hp} {s : Shared} {R : It → Hp → Prop} {J : It} {tn : Nat → Heap → Prop} {tk : Nat} (I : Inv X pins σ H s) (o : Obj)
    (T : Turn X.prog X.w X.K tg J [s.heap.objs.size] s.heap.objs.size tn) (st : tn 0 (s.heap.push o)) (q : R J H) : PIE X pins σ tg R (.ref s.heap.objs.size) { s with heap := s.heap.push o, toks := tk } := by
  refine ⟨s.heap.objs.size, [s.heap.objs.size], tn, J, H, rfl, I.kept fun b ob e => Heap.get?_push_of_some _ e, T, st, fun b hb => ?_, q⟩
  have e : b = s.heap.objs.size := by simpa using hb
  subst e
  exact I.fpOk (Nat.le_refl _) (I.hok.fresh (Nat.le_refl _))
end
noncomputable def Itc (lo c : Int) (n : Nat) : It := ⟨fun i _ => i < n, fun i H x H' => H' = H ∧ x = .int (lo + (i : Nat) * c), fun i _ => n ≤ i⟩
theorem turn_rangeC {P : Program} {w : World} {K : PySem.W.Frag} {tg : Expr} (it : Addr) (lo c : Int) (n : Nat) : Turn P w K tg (Itc lo c n) [it] it (fun i h => IsRangeIter h it (lo + (i : Nat) * c) ((n : Int) - (i : Nat)) c) where
  mem := by simp
  obj := fun i h st b hb => by
    have e : b = it := by simpa using hb
    subst e
    exact ⟨_, st, fun v z => nomatch z⟩
  keep := fun i h h' st k => k it (by simp) _ st
  item := by
    intro X hP hw hK hc i pins s σ H E I hf st hg
    subst hP hw hK
    obtain ⟨f0, f1, f2, f3, f4, f5⟩ := hf it (by simp)
    have W := Walks.range (prog := X.prog) (w := X.w) (I.ok.hd hc) it lo c n
    refine W.item i s _ _ hg st fun v h' tk hv st' kk => ?_
    obtain ⟨t, rfl⟩ := hv
    have I1 : Inv X pins σ H { s with heap := h', toks := tk } := I.turned (fun b o hb e => kk b o (by simpa using hb) e) f0 f1 f3 f4 f5
    exact ⟨_, rfl, go_of (s := { s with heap := h', toks := tk }) (n := "range_iterator") st' rfl rfl (by decide) ⟨.int (lo + (i : Nat) * c), H, I1, ⟨t, rfl⟩, ⟨rfl, rfl⟩, st', fun b hb => (hf b hb).1⟩⟩
  done := by
    intro X hP hw hK hc i pins s σ H E I hf st hg
    subst hP hw hK
    obtain ⟨f0, f1, f2, f3, f4, f5⟩ := hf it (by simp)
    exact wpAny_pyNext_range_end (I.ok.hd hc) st (by have : n ≤ i := hg; omega) fun h' eb => ⟨rfl, I.turned (t' := s.toks) (fun b o hb e => eb b o hb e) f0 f1 f3 f4 f5⟩
  self := fun A i s Q E st h => wpAny_pyIter_rangeiter st h
noncomputable def RgC (i j c : Int) (n : Nat) : Prop := c ≠ 0 ∧ c.natAbs < 1073741824 ∧ Builtin.Range.small i j c = true ∧ Builtin.Range.rangeSize i j c = n
noncomputable def iRng3 (ta : TA) : TI := fun σ H R => ta σ H fun vs H1 => ∃ (i j c : Int) (n : Nat), vs = [.int i, .int j, .int c] ∧ RgC i j c n ∧ R (Itc i c n) H1
section
variable {X : Cx} {tg : Expr}
theorem pi_range3 {a b c : Expr} {ta : TA} {p pos : Pos} (hg : Gl X "range") (hm : X.mg "range" = none) (ha : PA X [a, b, c] ta)
    (hs : starEach [a, b, c] X.env = (false, eval a X.env) :: starEach [b, c] X.env := by rfl) (hpl : (backTo pos (starEach [b, c] X.env)).any (·.1) = false := by rfl) :
    PI X tg (.Call (.Name "range" p) [a, b, c] [] pos) (iRng3 ta) := by
  intro pins s σ H R I h
  refine Call_ (ld_blt I hg hm boot_range (PyProof.Rows.callWith_type1 (thn (ha pos pins s σ H _ I h) fun us s1 z__ => ?_) hs hpl))
  obtain ⟨vs, H1, I1, r1, q1⟩ := z__
  obtain ⟨i, j, k, n, e, ⟨c0, c1, c2, c3⟩, q⟩ := q1
  subst e
  cases r1 with
  | cons r rr =>
    cases rr with
    | cons r' rr =>
      cases rr with
      | cons r'' rr =>
        cases rr
        obtain ⟨t, rfl⟩ := r
        obtain ⟨t', rfl⟩ := r'
        obtain ⟨t'', rfl⟩ := r''
        refine call_range_3 c0 ?_ (.inl (PyProof.noPylong_small c1))
        refine wpAny_pyIter_range (IsRange.new ..) c2 ?_
        have I2 : Inv X pins σ H1 { s1 with heap := s1.heap.push { cls := .type "range", data := .fields #[.int i t, .int j t', .int k t''] } } := I1.kept (t' := s1.toks) fun b o e => Heap.get?_push_of_some _ e
        refine pi_one (tk := s1.toks) I2 _ (turn_rangeC _ i k n) ?_ q
        have e1 : i + ((0 : Nat) : Int) * k = i := by simp
        have e2 : (n : Int) - ((0 : Nat) : Int) = Builtin.Range.rangeSize i j k := by rw [c3]; simp
        show IsRangeIter _ _ (i + ((0 : Nat) : Int) * k) ((n : Int) - ((0 : Nat) : Int)) k
        rw [e1, e2]
        exact Heap.get?_push_size _ rfl
end
section
variable {X : Cx} {tg : Expr}
end
section
variable {prog : Program} {w : World} {A : Around} {E : Value → Shared → Prop} {s : Shared}
end
section
variable {X : Cx} {pins : List (Addr × Obj)} {σ : St} {H : Hp} {s : Shared} {d : Addr} {o : Obj}
end
section
variable {P : Program} {w : World} {K : PySem.W.Frag} {tg : Expr} {d : Addr} {o : Obj} {es : Array DictEntry} {ep : Nat}
end
section
variable {X : Cx} {tg e : Expr} {td : TE} {apos cpos : Pos}
end
noncomputable def Ite (K : PySem.W.Frag) (a : Addr) : It :=
  ⟨fun i H => ∃ (xs : List V) (x : V), SqL K H a xs ∧ xs[i]? = some x, fun i H v H' => ∃ T x, v = .ref T ∧ H T = none ∧ H' = upd H T (.tup [.int (i : Nat), x]) ∧ ∀ xs, SqL K H a xs → xs[i]? = some x, fun i H => ∃ xs : List V, SqL K H a xs ∧ xs.length ≤ i⟩
theorem turn_enum {P : Program} {w : World} {K : PySem.W.Frag} {elts : List Expr} {kk : Nat} {tpos : Pos} (a e it : Addr) :
    Turn P w K (.Tuple elts kk tpos) (Ite K a) [e, it] e (fun i h => (∃ old, IsEnum h e it ((i : Nat) : Int) old) ∧ h.IsListIter it a i ∧ e ≠ it) where
  mem := by simp
  obj := fun i h st b hb => by
    obtain ⟨⟨old, he⟩, ⟨o, ho, hc, hd⟩, _⟩ := st
    have e' : b = e ∨ b = it := by simpa using hb
    rcases e' with z | z
    · rw [z]; exact ⟨_, he, fun v q => nomatch q⟩
    · rw [z]; exact ⟨o, ho, fun v q => by rw [hd] at q; cases q⟩
  keep := fun i h h' st k => let ⟨⟨old, he⟩, hi, hne⟩ := st; ⟨⟨old, k e (by simp) _ he⟩, hi.at fun o q => k it (by simp) o q, hne⟩
  item := by
    intro X hP hw hK hc i pins s σ H E I hf st hg
    subst hP hw hK
    obtain ⟨⟨old, he⟩, hit, hne⟩ := st
    obtain ⟨xs, x, hq, hx⟩ := hg
    obtain ⟨its, rv, p, hz⟩ := I.list hq
    obtain ⟨u, hu, ru⟩ := rv.get hx
    have hel : e < s.heap.objs.size := Heap.lt_size he
    have hil : it < s.heap.objs.size := by obtain ⟨_, q, _⟩ := hit; exact Heap.lt_size q
    refine wpAny_pyNext_enum_item he hit p.isList (x := u) (by simpa using hu) hne fun h' ho hit' hT hsz hk => ?_
    refine ⟨_, rfl, wpAny_letOwnedTupleGo_enum (s := { s with heap := h', toks := s.toks + 1 }) ho fun h'' he' sb => ?_⟩
    have hT2 : h''.get? s.heap.objs.size = some { cls := .type "tuple", data := .seq #[.int i s.toks, u] } := (sb.2 _ (Nat.ne_of_gt hel)).trans hT
    have new : ObjOk X.prog X.w (upd H s.heap.objs.size (.tup [.int (i : Nat), x])) h'' s.heap.objs.size (.tup [.int (i : Nat), x]) :=
      ⟨by show 2 ≤ sizeLine; decide, [.int i s.toks, u], .cons ⟨_, rfl⟩ (.cons ru .nil), ⟨_, hT2, rfl, _, rfl⟩⟩
    have I1 : Inv X pins σ (upd H s.heap.objs.size (.tup [.int (i : Nat), x])) { s with heap := h'', toks := s.toks + 1 } :=
      I.turnedNew (ch := [e, it]) (fun b ob hb q => (sb.2 b (fun z => hb (by simp [z]))).trans (hk b ob (fun z => hb (by simp [z])) (fun z => hb (by simp [z])) q)) hf (Nat.le_refl _) new
    refine ⟨.ref s.heap.objs.size, _, I1, rfl, ⟨_, x, rfl, I.hok.fresh (Nat.le_refl _), rfl, fun ys hy => by rw [I.list_inj hy hq]; exact hx⟩, ⟨⟨u, ?_⟩, hit'.at fun o q => (sb.2 it (Ne.symm hne)).trans q, hne⟩, fun b hb => ?_⟩
    · have e1 : ((i + 1 : Nat) : Int) = (i : Int) + 1 := by omega
      rw [e1]; exact he'
    · have hb' : b < s.heap.objs.size := by
        have e' : b = e ∨ b = it := by simpa using hb
        rcases e' with z | z
        · rw [z]; exact hel
        · rw [z]; exact hil
      rw [upd_ne (Nat.ne_of_lt hb')]
      exact (hf b hb).1
  done := by
    intro X hP hw hK hc i pins s σ H E I hf st hg
    subst hP hw hK
    obtain ⟨⟨old, he⟩, hit, hne⟩ := st
    obtain ⟨xs, hq, hx⟩ := hg
    obtain ⟨its, rv, p, hz⟩ := I.list hq
    obtain ⟨f0, f1, f2, f3, f4, f5⟩ := hf it (by simp)
    have hl := rv.length
    exact wpAny_pyNext_enum_end (I.ok.hd hc) he hit p.isList (by simp; omega) fun h' eb => ⟨rfl, I.turned (t' := s.toks) (fun b o hb q => eb b o hb q) f0 f1 f3 f4 f5⟩
  self := fun A i s Q E st h => let ⟨⟨_, he⟩, _⟩ := st; wpAny_pyIter_enum he h
inductive xEnum (K : PySem.W.Frag) (vs : List V) (H : Hp) (R : It → Hp → Prop) : Prop
  | mk (a : Addr) (xs : List V) (e : vs = [.ref a]) (s : SqL K H a xs) (q : R (Ite K a) H) : xEnum K vs H R
noncomputable def iEnum (K : PySem.W.Frag) (ta : TA) : TI := fun σ H R => ta σ H fun vs H1 => xEnum K vs H1 R
theorem pi_enum {X : Cx} {e : Expr} {ta : TA} {p pos tpos : Pos} {elts : List Expr} {kk : Nat} (hg : Gl X "enumerate") (hm : X.mg "enumerate" = none) (ha : PA X [e] ta) (hs : starEach [e] X.env = [(false, eval e X.env)] := by rfl) :
    PI X (.Tuple elts kk tpos) (.Call (.Name "enumerate" p) [e] [] pos) (iEnum X.K ta) := by
  intro pins s σ H R I h
  refine Call_ (ld_blt I hg hm boot_enumerate (PyProof.Rows.callWith_type1 (thn (ha pos pins s σ H _ I h) fun us s1 z__ => ?_) hs rfl))
  obtain ⟨vs, H1, I1, r1, q1⟩ := z__
  obtain ⟨a, xs, ex, hq, q⟩ := q1
  subst ex
  cases r1 with
  | cons r rr =>
    cases rr
    cases r
    obtain ⟨its, rv, p', hz⟩ := I1.list hq
    refine call_enumerate_list p'.isList fun h' he hit hsz hk => wpAny_pyIter_enum he ?_
    have I2 : Inv X pins σ H1 { s1 with heap := h' } := I1.kept (t' := s1.toks) hk
    refine ⟨s1.heap.objs.size + 1, [s1.heap.objs.size + 1, s1.heap.objs.size], _, _, H1, rfl, I2, turn_enum a (s1.heap.objs.size + 1) s1.heap.objs.size, ⟨⟨.none, he⟩, hit, Nat.succ_ne_self _⟩, fun b hb => ?_, q⟩
    have e' : b = s1.heap.objs.size + 1 ∨ b = s1.heap.objs.size := by simpa using hb
    have hle : s1.heap.objs.size ≤ b := by
      rcases e' with z | z
      · rw [z]; exact Nat.le_add_right _ _
      · rw [z]; exact Nat.le_refl _
    exact I1.fpOk hle (I1.hok.fresh hle)
theorem boot_zip5 : bootBuiltins "zip" = some (.type "zip") := by decide +kernel
noncomputable def Itz (K : PySem.W.Frag) (a b : Addr) : It :=
  ⟨fun i H => ∃ (xs ys : List V) (x y : V), SqL K H a xs ∧ SqL K H b ys ∧ xs[i]? = some x ∧ ys[i]? = some y,
    fun i H v H' => ∃ T x y, v = .ref T ∧ H T = none ∧ H' = upd H T (.tup [x, y]) ∧ (∀ xs, SqL K H a xs → xs[i]? = some x) ∧ ∀ ys, SqL K H b ys → ys[i]? = some y,
    fun i H => ∃ xs ys : List V, SqL K H a xs ∧ SqL K H b ys ∧ (xs.length ≤ i ∨ ys.length ≤ i)⟩
theorem turn_zip {P : Program} {w : World} {K : PySem.W.Frag} {elts : List Expr} {kk : Nat} {tpos : Pos} {a b z TI TO i1 i2 : Addr} (D : ZipApart z TI TO i1 i2 a b) :
    Turn P w K (.Tuple elts kk tpos) (Itz K a b) [z, TI, TO, i1, i2] z (fun i h => IsZip h z TI TO .none ∧ IsPair h TI (.ref i1) (.ref i2) ∧ (∃ x y, IsPair h TO x y) ∧ h.IsListIter i1 a i ∧ h.IsListIter i2 b i) where
  mem := by simp
  obj := fun i h st c hc => by
    obtain ⟨hz, hTI, ⟨x, y, hTO⟩, ⟨o1, e1, _, d1⟩, ⟨o2, e2, _, d2⟩⟩ := st
    have e' : c = z ∨ c = TI ∨ c = TO ∨ c = i1 ∨ c = i2 := by simpa using hc
    rcases e' with q | q | q | q | q
    · rw [q]; exact ⟨_, hz, fun v q => nomatch q⟩
    · rw [q]; exact ⟨_, hTI, fun v q => nomatch q⟩
    · rw [q]; exact ⟨_, hTO, fun v q => nomatch q⟩
    · rw [q]; exact ⟨o1, e1, fun v q => by rw [d1] at q; cases q⟩
    · rw [q]; exact ⟨o2, e2, fun v q => by rw [d2] at q; cases q⟩
  keep := fun i h h' st k => by
    obtain ⟨hz, hTI, ⟨x, y, hTO⟩, h1, h2⟩ := st
    exact ⟨k z (by simp) _ hz, k TI (by simp) _ hTI, ⟨x, y, k TO (by simp) _ hTO⟩, h1.at fun o q => k i1 (by simp) o q, h2.at fun o q => k i2 (by simp) o q⟩
  item := by
    intro X hP hw hK hc i pins s σ H E I hf st hg
    subst hP hw hK
    obtain ⟨hz, hTI, ⟨x0, y0, hTO⟩, h1, h2⟩ := st
    obtain ⟨xs, ys, x, y, hqx, hqy, hx, hy⟩ := hg
    obtain ⟨its, rv, p, _⟩ := I.list hqx
    obtain ⟨its2, rv2, p2, _⟩ := I.list hqy
    obtain ⟨u, hu, ru⟩ := rv.get hx
    obtain ⟨u2, hu2, ru2⟩ := rv2.get hy
    have hzl : z < s.heap.objs.size := Heap.lt_size hz
    refine wpAny_pyNext_zip_item D hz hTI hTO h1 h2 p.isList p2.isList (x := u) (y := u2) (by simpa using hu) (by simpa using hu2) fun h' z' TO' h1' h2' hT hsz hk => ?_
    refine ⟨_, rfl, wpAny_letOwnedTupleGo_zip (s := { s with heap := h' }) z' fun h'' z'' sb => ?_⟩
    have hT2 : h''.get? s.heap.objs.size = some { cls := .type "tuple", data := .seq #[u, u2] } := (sb.2 _ (Nat.ne_of_gt hzl)).trans hT
    have new : ObjOk X.prog X.w (upd H s.heap.objs.size (.tup [x, y])) h'' s.heap.objs.size (.tup [x, y]) :=
      ⟨by show 2 ≤ sizeLine; decide, [u, u2], .cons ru (.cons ru2 .nil), ⟨_, hT2, rfl, _, rfl⟩⟩
    have I1 : Inv X pins σ (upd H s.heap.objs.size (.tup [x, y])) { s with heap := h'' } :=
      I.turnedNew (t' := s.toks) (ch := [z, TI, TO, i1, i2]) (fun c o hb q => (sb.2 c (fun q' => hb (by simp [q']))).trans (hk c o (fun q' => hb (by simp [q'])) (fun q' => hb (by simp [q'])) (fun q' => hb (by simp [q'])) (fun q' => hb (by simp [q'])) q)) hf (Nat.le_refl _) new
    refine ⟨.ref s.heap.objs.size, _, I1, rfl, ⟨_, x, y, rfl, I.hok.fresh (Nat.le_refl _), rfl, fun l hl => by rw [I.list_inj hl hqx]; exact hx, fun l hl => by rw [I.list_inj hl hqy]; exact hy⟩, ⟨z'', ?_, ⟨u, u2, ?_⟩, ?_, ?_⟩, fun c hcm => ?_⟩
    · exact (sb.2 _ D.TIz).trans (hk _ _ D.TIz D.TITO D.TIi1 D.TIi2 hTI)
    · exact (sb.2 _ D.TOz).trans TO'
    · exact h1'.at fun o q => (sb.2 _ D.i1z).trans q
    · exact h2'.at fun o q => (sb.2 _ D.i2z).trans q
    · have hlt : c < s.heap.objs.size := by
        have e' : c = z ∨ c = TI ∨ c = TO ∨ c = i1 ∨ c = i2 := by simpa using hcm
        rcases e' with q | q | q | q | q
        · rw [q]; exact hzl
        · rw [q]; exact Heap.lt_size hTI
        · rw [q]; exact Heap.lt_size hTO
        · rw [q]; obtain ⟨_, e1, _⟩ := h1; exact Heap.lt_size e1
        · rw [q]; obtain ⟨_, e2, _⟩ := h2; exact Heap.lt_size e2
      rw [upd_ne (Nat.ne_of_lt hlt)]
      exact (hf c hcm).1
  done := by
    intro X hP hw hK hc i pins s σ H E I hf st hg
    subst hP hw hK
    obtain ⟨hz, hTI, ⟨x0, y0, hTO⟩, h1, h2⟩ := st
    obtain ⟨xs, ys, hqx, hqy, hend⟩ := hg
    obtain ⟨its, rv, p, _⟩ := I.list hqx
    obtain ⟨its2, rv2, p2, _⟩ := I.list hqy
    have l1 := rv.length
    have l2 := rv2.length
    have he : its.toArray[i]? = none ∨ its2.toArray[i]? = none := by
      rcases hend with q | q
      · exact .inl (by simp; omega)
      · exact .inr (by simp; omega)
    exact wpAny_pyNext_zip_end (I.ok.hd hc) D hz hTI hTO h1 h2 p.isList p2.isList he fun h' hk => ⟨rfl, I.turnedL (t' := s.toks) (ch := [z, TI, TO, i1, i2]) (fun c o hb q =>
      hk c o (fun q' => hb (by simp [q'])) (fun q' => hb (by simp [q'])) (fun q' => hb (by simp [q'])) (fun q' => hb (by simp [q'])) q) hf⟩
  self := fun A i s Q E st h => wpAny_pyIter_zip st.1 h
noncomputable def iZip (K : PySem.W.Frag) (ta : TA) : TI := fun σ H R => ta σ H fun vs H1 => ∃ a b xs ys, vs = [.ref a, .ref b] ∧ SqL K H1 a xs ∧ SqL K H1 b ys ∧ R (Itz K a b) H1
theorem pi_zip {X : Cx} {e e2 : Expr} {ta : TA} {p pos tpos : Pos} {elts : List Expr} {kk : Nat} (hg : Gl X "zip") (hm : X.mg "zip" = none) (ha : PA X [e, e2] ta)
    (hs : starEach [e, e2] X.env = (false, eval e X.env) :: starEach [e2] X.env := by rfl) (hpl : (backTo pos (starEach [e2] X.env)).any (·.1) = false := by rfl) :
    PI X (.Tuple elts kk tpos) (.Call (.Name "zip" p) [e, e2] [] pos) (iZip X.K ta) := by
  intro pins s σ H R I h
  refine Call_ (ld_blt I hg hm boot_zip5 (PyProof.Rows.callWith_type1 (thn (ha pos pins s σ H _ I h) fun us s1 z__ => ?_) hs hpl))
  obtain ⟨vs, H1, I1, r1, q1⟩ := z__
  obtain ⟨a, b, xs, ys, ex, hqx, hqy, q⟩ := q1
  subst ex
  cases r1 with
  | cons r rr =>
    cases rr with
    | cons r' rr =>
      cases rr
      cases r
      cases r'
      obtain ⟨its, rv, p1, _⟩ := I1.list hqx
      obtain ⟨its2, rv2, p2, _⟩ := I1.list hqy
      have la : a < s1.heap.objs.size := p1.lt
      have lb : b < s1.heap.objs.size := p2.lt
      refine call_zip_2 p1.isList p2.isList fun h' hz hTI hTO h1 h2 hsz hk => wpAny_pyIter_zip hz ?_
      have I2 : Inv X pins σ H1 { s1 with heap := h' } := I1.kept (t' := s1.toks) hk
      refine ⟨s1.heap.objs.size + 4, [s1.heap.objs.size + 4, s1.heap.objs.size + 2, s1.heap.objs.size + 3, s1.heap.objs.size, s1.heap.objs.size + 1], _, _, H1, rfl, I2, turn_zip (PySem.W.ktu_apart s1.heap.objs.size a b la lb), ⟨hz, hTI, ⟨_, _, hTO⟩, h1, h2⟩, fun c hcm => ?_, q⟩
      have e' : c = s1.heap.objs.size + 4 ∨ c = s1.heap.objs.size + 2 ∨ c = s1.heap.objs.size + 3 ∨ c = s1.heap.objs.size ∨ c = s1.heap.objs.size + 1 := by simpa using hcm
      have hle : s1.heap.objs.size ≤ c := by
        rcases e' with z | z | z | z | z
        · rw [z]; exact Nat.le_add_right _ _
        · rw [z]; exact Nat.le_add_right _ _
        · rw [z]; exact Nat.le_add_right _ _
        · rw [z]; exact Nat.le_refl _
        · rw [z]; exact Nat.le_add_right _ _
      exact I1.fpOk hle (I1.hok.fresh hle)
end L2
section 
namespace Bits
open PySem PyProof.Rows
end Bits
end 
section 
namespace TL
open PySem PySem.Builtin PySem.Builtin.Str PySem.StrLaws
end TL
end 
namespace L2
open PySem PySem.Spec PyProof.Rows
section
variable {X : Cx} {pins : List (Addr × Obj)} {σ : St} {H : Hp} {s : Shared} {Q : VK}
end
section
variable {X : Cx}
end
section
variable {X : Cx} {o e : Expr} {to te : TE}
end
end L2
namespace L2
open PySem PySem.Spec PyProof.Rows
section
variable {X : Cx}
end
end L2
namespace Att
open PySem PySem.W PySem.Calls PyProof.Rows
section
variable {prog : Program} {w : World} {A : Around} {E : Value → Shared → Prop} {s : Shared} {K : Frag}
end
end Att
namespace L2
open PySem PySem.Spec PyProof.Rows
end L2
namespace L2
open PySem PySem.Spec PyProof.Rows
noncomputable abbrev KOf {K : PySem.W.Frag} {h : Heap} (_ : K.In h) : PySem.W.Frag := K
end L2
namespace L2
open PySem PySem.Spec PyProof.Rows
noncomputable def inClass (s : Stmt) (j : Nat) : Stmt := match s with
  | .ClassDef _ _ _ body _ _ _ _ _ _ _ => body.getD j (.Pass ⟨0, 0, 0, 0⟩)
  | _ => .Pass ⟨0, 0, 0, 0⟩
noncomputable def defArgs (s : Stmt) : Arguments := match s with
  | .FunctionDef _ a _ _ _ _ _ _ _ _ => a
  | _ => { posonlyargs := [], args := [], vararg := none, kwonlyargs := [], kw_defaults := [], kwarg := none, defaults := [] }
noncomputable def defBody (s : Stmt) : List Stmt := match s with
  | .FunctionDef _ _ b _ _ _ _ _ _ _ => b
  | _ => []
noncomputable def defScope (s : Stmt) : Scope := match s with
  | .FunctionDef _ _ _ _ _ _ sc _ _ _ => sc
  | _ => { kind := .function, names := [], isGenerator := false, isCoroutine := false }
noncomputable abbrev CX0 : CXT := fun _ _ _ _ _ _ => False
noncomputable abbrev E0 : XK := fun _ _ _ => False
theorem pass0 {X : Cx} : Passes CX0 X E0 := fun _ _ _ _ _ _ _ h => h.elim
structure Fun (K : PySem.W.Frag) (x qual : Str) (st : Stmt) (f : Addr) (fd : FuncData) : Prop where
  ex : ∃ (oc : Value) (od : Option Addr) (kV doc pm : Value) (an : Option Addr) (cdv ct : Value) (osl : Array (Option Value)),
    fd = PySem.W.fnOf x qual (defArgs st) (defBody st) (defScope st) .none kV doc pm an cdv ct ∧ K.lookup f = some ⟨oc, od, .func fd, osl⟩ ∧ PySem.W.codeIn K cdv qual = true
  kp : PySem.W.keepIn K (.ref f) = true
section
variable {P : Program} {w : World} {K : PySem.W.Frag} {mg : Str → Option Value} {base : Heap}
theorem Fun.ok {x qual : Str} {st : Stmt} {f : Addr} {fd : FuncData} {N ps : List Str} {k : Nat} {sp : Sp} (F : Fun K x qual st f fd) (S : FnScope N ps (defScope st)) (len : ∀ vs H Q E, sp vs H Q E → vs.length = ps.length)
    (hbody : ∀ (cdv : Value) (A : Around) (outer : List Env) (s : Shared) (H : Hp) (vs : List V) (Q : VK) (E : XK), Room k (A.deeper (envOfC qual (defScope st) s.heap.objs.size f cdv)) → sp vs H Q E →
      ∃ t, PSs (cxOf CX0 P w K mg base N qual (defScope st) f cdv A outer s H E).nox (defBody st) t ∧ t { nx := fun _ H' => Q .non H', rt := Q } (start N vs) H) : FnOk P w K mg base CX0 (k + 1) f fd ps sp := by
  obtain ⟨oc, od, kV, doc, pm, an, cdv, ct, osl, rfl, lk, hcd⟩ := F.ex
  refine fn_of lk hcd S len fun A outer s H vs Q E hr hsp => ?_
  obtain ⟨t, h, q⟩ := hbody cdv A outer s H vs Q E hr hsp
  exact ⟨t, h.nox, q⟩
theorem Fun.binds {x qual : Str} {st : Stmt} {f : Addr} {fd : FuncData} {ps : List Str} (F : Fun K x qual st f fd)
    (h : ∀ (kV doc pm : Value) (an : Option Addr) (cdv ct : Value) (us : List Value), us.length = ps.length → bindArgs (PySem.W.fnOf x qual (defArgs st) (defBody st) (defScope st) .none kV doc pm an cdv ct) ⟨us, []⟩ = pure (ps.zip us)) : Binds K fd ps [] := by
  obtain ⟨oc, od, kV, doc, pm, an, cdv, ct, osl, rfl, lk, hcd⟩ := F.ex
  exact .all (h kV doc pm an cdv ct)
theorem fun_mk {x qual : Str} {st : Stmt} {f : Addr} {oc : Value} {od an : Option Addr} {osl : Array (Option Value)} {kV doc pm cdv ct : Value} (l : K.lookup f = some ⟨oc, od, .func (PySem.W.fnOf x qual (defArgs st) (defBody st) (defScope st) .none kV doc pm an cdv ct), osl⟩)
    (c : PySem.W.codeIn K cdv qual = true) (k : PySem.W.keepIn K (.ref f) = true) : Fun K x qual st f (PySem.W.fnOf x qual (defArgs st) (defBody st) (defScope st) .none kV doc pm an cdv ct) := ⟨⟨oc, od, kV, doc, pm, an, cdv, ct, osl, rfl, l, c⟩, k⟩
end
theorem small1000 {n : Nat} (h : n ≤ 1000) : n < sizeLine := Nat.lt_of_le_of_lt h (by decide)
section
variable {X : Cx}
theorem pv (i : Nat) {x : Str} {pos : Pos} (hN : X.N[i]? = some x := by rfl) (hv : Vis X.env.scope x := by trivial) (hd : (x == ("__debug__" : Str)) = false := by decide)
    (hcd : (x == ("__classdict__" : Str)) = false := by decide) : PE X (.Name x pos) (tVar i) := pe_var hN hv hd hcd
end
theorem iteF {A B : Prop} (h : B) : if false = true then A else B := by
  rw [if_neg Bool.false_ne_true]
  exact h
theorem iteT {A B : Prop} (h : A) : if true = true then A else B := by
  rw [if_pos rfl]
  exact h
theorem ite2 {c A B : Prop} [Decidable c] (h1 : c → A) (h2 : ¬ c → B) : if c then A else B := by
  by_cases h : c
  · rw [if_pos h]
    exact h1 h
  · rw [if_neg h]
    exact h2 h
noncomputable def Same (H H' : Hp) : Prop := ∀ b o, H b = some o → H' b = some o
theorem Same.refl (H : Hp) : Same H H := fun _ _ h => h
theorem Same.trans {H H1 H2 : Hp} (a : Same H H1) (b : Same H1 H2) : Same H H2 := fun c o h => b c o (a c o h)
theorem Same.free {H H' : Hp} (e : Same H H') {l : Addr} (h : H' l = Option.none) : H l = Option.none := by
  cases q : H l with
  | none => rfl
  | some o =>
    rw [e l o q] at h
    cases h
theorem Same.seq {K : PySem.W.Frag} {H H' : Hp} {a : Addr} {xs : List V} (e : Same H H') (h : SqL K H a xs) : SqL K H' a xs := by
  rcases h with (h | ⟨o, h⟩) | h
  · exact .inl (.inl (e _ _ h))
  · exact .inl (.inr ⟨o, e _ _ h⟩)
  · exact .inr h
section
variable {κ : Type} [DecidableEq κ]
theorem nd_snoc : ∀ {l : List κ} {k : κ}, l.Nodup → ¬ k ∈ l → (l ++ [k]).Nodup
  | [], k, _, _ => by simp
  | a :: r, k, h, hk => by
    obtain ⟨h1, h2⟩ := List.nodup_cons.mp h
    show (a :: (r ++ [k])).Nodup
    refine List.nodup_cons.mpr ⟨fun m => ?_, nd_snoc h2 fun m => hk (List.mem_cons.mpr (Or.inr m))⟩
    rcases List.mem_append.mp m with q | q
    · exact h1 q
    · exact hk (List.mem_cons.mpr (Or.inl (List.mem_singleton.mp q).symm))
end
theorem nd_ix {α : Type} {l : List α} (hN : l.Nodup) {i j : Nat} {x : α} (a : l[i]? = some x) (b : l[j]? = some x) : i = j := by
  obtain ⟨h1, e1⟩ := List.getElem?_eq_some_iff.mp a
  obtain ⟨h2, e2⟩ := List.getElem?_eq_some_iff.mp b
  exact (List.getElem_inj hN).mp (e1.trans e2.symm)
theorem Same.made {H H1 : Hp} {x dx C : Addr} (nx : H x = Option.none) (nd : H dx = Option.none) (k : ∀ b o, (upd (upd H dx (.own x)) x (.ins C dx [])) b = some o → b ≠ x → H1 b = some o) : Same H H1 := fun b o e =>
  k b o (by rw [upd_ne (ne_of_none e nx), upd_ne (ne_of_none e nd)]; exact e) (ne_of_none e nx)
end L2
section
set_option Elab.async false
set_option linter.all false
set_option maxRecDepth 100000
set_option maxHeartbeats 2000000
namespace L2
open PySem PySem.Spec PyProof.Rows
open PySem.W (WData Codec OpenSpec Well WellAll ReadsW ReadsAllW)
mutual
inductive Dw (K : PySem.W.Frag) (H : Hp) : V → WData → Prop
  | non : Dw K H .non .none
  | bl (b : Bool) : Dw K H (.bl b) (.bool b)
  | int (i : Int) : Dw K H (.int i) (.int i)
  | str (x : Str) : Dw K H (.str x) (.str x)
  | byt (b : Array UInt8) : Dw K H (.byt b) (.bytes b.toList)
  | lst {a : Addr} {xs : List V} {ds : List WData} : SqL K H a xs → DwAll K H xs ds → Dw K H (.ref a) (.list ds)
  | tup {a : Addr} {xs : List V} {ds : List WData} : SqT K H a xs → DwAll K H xs ds → Dw K H (.ref a) (.tuple ds)
inductive DwAll (K : PySem.W.Frag) (H : Hp) : List V → List WData → Prop
  | nil : DwAll K H [] []
  | cons {v : V} {vs : List V} {d : WData} {ds : List WData} : Dw K H v d → DwAll K H vs ds → DwAll K H (v :: vs) (d :: ds)
end
theorem dw_ints {K : PySem.W.Frag} {H : Hp} : ∀ ns : List Int, DwAll K H (ns.map V.int) (ns.map WData.int)
  | [] => .nil
  | n :: r => .cons (.int n) (dw_ints r)
theorem ints_dw {K : PySem.W.Frag} {H : Hp} : ∀ (ns : List Int) (xs : List V), DwAll K H xs (ns.map WData.int) → xs = ns.map V.int
  | [], xs, h => by
    cases h
    rfl
  | n :: r, xs, h => by
    cases h with
    | cons h1 h2 =>
      cases h1
      rw [ints_dw r _ h2] <;> rfl
section
variable {P : Program} {w : World} {K : PySem.W.Frag} {H : Hp} {h : Heap} {R : PySem.W.WRecords} {cl : Str → Option Addr}
theorem sqL_at {a : Addr} {xs : List V} (hok : HOk P w H h) (KX : K.In h) (q : SqL K H a xs) : ∃ (its : List Value) (o : Obj) (n : Nat), Vals xs its ∧ h.get? a = some o ∧ o.cls = .type "list" ∧ o.data = .seq its.toArray n := by
  rcases q with q | ⟨o, its, n, e, hc, _, hd, _, hv⟩
  · obtain ⟨_, its, n, hv, e⟩ := (show ObjOk P w H h a (.lst xs) from q.ok hok)
    exact ⟨its, _, n, hv, e, rfl, rfl⟩
  · exact ⟨its.toList, o, n, hv, KX _ _ e, hc, by simp [hd]⟩
theorem sqT_at {a : Addr} {xs : List V} (hok : HOk P w H h) (KX : K.In h) (q : SqT K H a xs) : ∃ (its : List Value) (o : Obj) (n : Nat), Vals xs its ∧ h.get? a = some o ∧ o.cls = .type "tuple" ∧ o.data = .seq its.toArray n := by
  rcases q with q | ⟨o, its, n, e, hc, hd, _, hv⟩
  · obtain ⟨_, its, hv, o, e, hc, n, hd⟩ := (show ObjOk P w H h a (.tup xs) from q.ok hok)
    exact ⟨its, o, n, hv, e, hc, hd⟩
  · exact ⟨its.toList, o, n, hv, KX _ _ e, hc, by simp [hd]⟩
mutual
theorem Dw.reads (hok : HOk P w H h) (KX : K.In h) : ∀ (d : WData) (v : V) (u : Value), Dw K H v d → RelV v u → ∃ as, ReadsW R cl h u d as
  | .none, _, _, x, r => by
    cases x
    cases r
    exact ⟨_, ReadsW.none⟩
  | .bool b, _, _, x, r => by
    cases x
    cases r
    exact ⟨_, ReadsW.bool b⟩
  | .int i, _, _, x, r => by
    cases x
    obtain ⟨t, rfl⟩ := r
    exact ⟨_, ReadsW.int i t⟩
  | .str s, _, _, x, r => by
    cases x
    obtain ⟨t, rfl⟩ := r
    exact ⟨_, ReadsW.str s t⟩
  | .bytes b, _, _, x, r => by
    cases x
    obtain ⟨t, rfl⟩ := r
    exact ⟨_, ReadsW.bytes _ t⟩
  | .list ds, _, _, x, r => by
    cases x with
    | lst hs ha =>
      cases r
      obtain ⟨its, o, n, rv, ho, hc, hd⟩ := sqL_at hok KX hs
      obtain ⟨as, hr⟩ := Dw.readsAll hok KX ds _ its ha rv
      exact ⟨_, ReadsW.list ho hc hd hr⟩
  | .tuple ds, _, _, x, r => by
    cases x with
    | tup hs ha =>
      cases r
      obtain ⟨its, o, n, rv, ho, hc, hd⟩ := sqT_at hok KX hs
      obtain ⟨as, hr⟩ := Dw.readsAll hok KX ds _ its ha rv
      exact ⟨_, ReadsW.tuple ho hc hd hr⟩
  | .float _, _, _, x, _ => by cases x
  | .dict _, _, _, x, _ => by cases x
  | .bytearray _, _, _, x, _ => by cases x
  | .set _, _, _, x, _ => by cases x
  | .frozenset _, _, _, x, _ => by cases x
  | .obj _ _, _, _, x, _ => by cases x
theorem Dw.readsAll (hok : HOk P w H h) (KX : K.In h) : ∀ (ds : List WData) (vs : List V) (us : List Value), DwAll K H vs ds → Vals vs us → ∃ as, ReadsAllW R cl h us ds as
  | [], _, _, x, r => by
    cases x
    cases r
    exact ⟨_, ReadsAllW.nil⟩
  | d :: ds, _, _, x, r => by
    cases x with
    | cons h1 h2 =>
      cases r with
      | cons r1 r2 =>
        obtain ⟨as, q1⟩ := Dw.reads hok KX d _ _ h1 r1
        obtain ⟨bs, q2⟩ := Dw.readsAll hok KX ds _ _ h2 r2
        exact ⟨_, ReadsAllW.cons q1 q2⟩
end
end
mutual
noncomputable def plW : WData → Bool
  | .none => true
  | .bool _ => true
  | .int _ => true
  | .str _ => true
  | .bytes _ => true
  | .list xs => plWs xs
  | .tuple xs => plWs xs
  | _ => false
noncomputable def plWs : List WData → Bool
  | [] => true
  | x :: r => plW x && plWs r
end
theorem plWs_map {α : Type} {f : α → WData} (h : ∀ a, plW (f a) = true) : ∀ l : List α, plWs (l.map f) = true
  | [] => rfl
  | x :: r => by
    show (plW (f x) && plWs (r.map f)) = true
    rw [h x, plWs_map h r] <;> rfl
theorem pl_enc : ∀ (c : Codec) (a : c.denote), plW (c.enc a) = true
  | .unit, _ => rfl
  | .bool, _ => rfl
  | .int _ _, _ => rfl
  | .nat _ _, _ => rfl
  | .u8, _ => rfl
  | .bytes _ _, _ => rfl
  | .text _ _ _ _, _ => rfl
  | .list _ _ c, a => plWs_map (fun x => pl_enc c x) a
  | .pair c d, a => by
    show (plW (c.enc a.1) && (plW (d.enc a.2) && true)) = true
    rw [pl_enc c a.1, pl_enc d a.2] <;> rfl
  | .triple c d e, a => by
    show (plW (c.enc a.1) && (plW (d.enc a.2.1) && (plW (e.enc a.2.2) && true))) = true
    rw [pl_enc c a.1, pl_enc d a.2.1, pl_enc e a.2.2] <;> rfl
  | .option c, none => rfl
  | .option c, some x => pl_enc c x
theorem pl_encAll : ∀ (cs : List Codec) (a : Codec.denoteAll cs), plWs (Codec.encAll cs a) = true
  | [], _ => rfl
  | c :: cs, a => by
    show (plW (c.enc a.1) && plWs (Codec.encAll cs a.2)) = true
    rw [pl_enc c a.1, pl_encAll cs a.2] <;> rfl
theorem weight_mem : ∀ {xs : List WData} {d : WData}, d ∈ xs → d.weight ≤ WData.weightAll xs
  | [], d, h => absurd h (by simp)
  | x :: r, d, h => by
    show d.weight ≤ x.weight + 1 + WData.weightAll r
    rcases List.mem_cons.mp h with e | m
    · rw [e]
      omega
    · have z := weight_mem m
      omega
noncomputable def toV : Value → V
  | .none => .non
  | .bool b => .bl b
  | .int i _ => .int i
  | .str x _ => .str x
  | .bytes b _ => .byt b
  | .ref a => .ref a
  | _ => .non
noncomputable def OkU (A : List Addr) : Value → Prop
  | .none => True
  | .bool _ => True
  | .int _ _ => True
  | .str _ _ => True
  | .bytes _ _ => True
  | .ref a => a ∈ A
  | _ => False
theorem OkU.mono {A B : List Addr} (h : ∀ a ∈ A, a ∈ B) : ∀ {u : Value}, OkU A u → OkU B u := fun {u} x => by
  cases u with
  | ref a => exact h a x
  | none => trivial
  | bool b => trivial
  | int i t => trivial
  | str s t => trivial
  | bytes b t => trivial
  | _ => exact False.elim x
theorem relV_toV {A : List Addr} {u : Value} (x : OkU A u) : RelV (toV u) u := by
  cases u with
  | ref a => rfl
  | none => rfl
  | bool b => rfl
  | int i t => exact ⟨t, rfl⟩
  | str s t => exact ⟨t, rfl⟩
  | bytes b t => exact ⟨t, rfl⟩
  | _ => exact False.elim x
theorem vals_toV {A : List Addr} : ∀ {vs : List Value}, (∀ u ∈ vs, OkU A u) → Vals (vs.map toV) vs
  | [], _ => .nil
  | u :: r, h => .cons (relV_toV (h u (List.mem_cons_self ..))) (vals_toV fun x hx => h x (List.mem_cons_of_mem _ hx))
noncomputable def ArgOb (h : Heap) (A : List Addr) (a : Addr) : Prop := ∃ vs : List Value, vs.length ≤ sizeLine ∧ (∀ u ∈ vs, OkU A u) ∧
  (h.get? a = some { cls := .type "list", data := .seq vs.toArray } ∨ h.get? a = some { cls := .type "tuple", data := .seq vs.toArray })
theorem ArgOb.mono {h : Heap} {A B : List Addr} {a : Addr} (k : ∀ a ∈ A, a ∈ B) (x : ArgOb h A a) : ArgOb h B a := by
  obtain ⟨vs, h1, h2, h3⟩ := x
  exact ⟨vs, h1, fun u hu => (h2 u hu).mono k, h3⟩
theorem wellAll_len {P : Params} {h : Heap} {vs : List Value} {ds : List WData} (z : WellAll P h vs ds) : vs.length = ds.length := by
  induction vs generalizing ds with
  | nil =>
    cases z
    rfl
  | cons v vs ih =>
    cases z with
    | cons _ b => exact congrArg (· + 1) (ih b)
theorem well_list {P : Params} {h : Heap} {v : Value} {ds : List WData} (x : Well P h v (.list ds)) : ∃ (a : Addr) (vs : List Value), v = .ref a ∧ h.get? a = some { cls := .type "list", data := .seq vs.toArray } ∧ WellAll P h vs ds := by
  cases x with
  | list ho hall => exact ⟨_, _, rfl, ho, hall⟩
theorem well_tuple {P : Params} {h : Heap} {v : Value} {ds : List WData} (x : Well P h v (.tuple ds)) : ∃ (a : Addr) (vs : List Value), v = .ref a ∧ h.get? a = some { cls := .type "tuple", data := .seq vs.toArray } ∧ WellAll P h vs ds := by
  cases x with
  | tuple ho hall => exact ⟨_, _, rfl, ho, hall⟩
theorem well_cons {P : Params} {h : Heap} {us : List Value} {d : WData} {ds : List WData} (x : WellAll P h us (d :: ds)) : ∃ (v : Value) (vs : List Value), us = v :: vs ∧ Well P h v d ∧ WellAll P h vs ds := by
  cases x with
  | cons a b => exact ⟨_, _, rfl, a, b⟩
theorem line_of {n : Nat} (h : n ≤ 1048576) : n ≤ sizeLine := Nat.le_trans h (by decide)
section
variable {P : Params} {h : Heap}
mutual
theorem area_one : ∀ (d : WData) (v : Value), Well P h v d → plW d = true → d.weight ≤ 1048576 → ∃ A : List Addr, OkU A v ∧ ∀ a ∈ A, ArgOb h A a
  | .none, _, x, _, _ => by
    cases x
    exact ⟨[], trivial, fun a m => absurd m (by simp)⟩
  | .bool b, _, x, _, _ => by
    cases x
    exact ⟨[], trivial, fun a m => absurd m (by simp)⟩
  | .int i, _, x, _, _ => by
    cases x
    exact ⟨[], trivial, fun a m => absurd m (by simp)⟩
  | .str s, _, x, _, _ => by
    cases x
    exact ⟨[], trivial, fun a m => absurd m (by simp)⟩
  | .bytes b, _, x, _, _ => by
    cases x
    exact ⟨[], trivial, fun a m => absurd m (by simp)⟩
  | .list ds, _, x, p, z => by
    obtain ⟨a, vs, rfl, ho, hall⟩ := well_list x
    have z2 : WData.weightAll ds ≤ 1048576 := z
    obtain ⟨A, h1, h2⟩ := area_all ds _ hall p fun d hd => Nat.le_trans (weight_mem hd) z2
    have k : ∀ b ∈ A, b ∈ a :: A := fun b hb => List.mem_cons_of_mem _ hb
    refine ⟨a :: A, List.mem_cons_self .., fun b hb => ?_⟩
    rcases List.mem_cons.mp hb with e | m
    · rw [e]
      exact ⟨vs, line_of (by rw [wellAll_len hall]; exact Nat.le_trans (PySem.W.length_le_weightAllW ds) z2), fun u hu => (h1 u hu).mono k, .inl ho⟩
    · exact (h2 b m).mono k
  | .tuple ds, _, x, p, z => by
    obtain ⟨a, vs, rfl, ho, hall⟩ := well_tuple x
    have z2 : WData.weightAll ds ≤ 1048576 := z
    obtain ⟨A, h1, h2⟩ := area_all ds _ hall p fun d hd => Nat.le_trans (weight_mem hd) z2
    have k : ∀ b ∈ A, b ∈ a :: A := fun b hb => List.mem_cons_of_mem _ hb
    refine ⟨a :: A, List.mem_cons_self .., fun b hb => ?_⟩
    rcases List.mem_cons.mp hb with e | m
    · rw [e]
      exact ⟨vs, line_of (by rw [wellAll_len hall]; exact Nat.le_trans (PySem.W.length_le_weightAllW ds) z2), fun u hu => (h1 u hu).mono k, .inr ho⟩
    · exact (h2 b m).mono k
  | .float _, _, _, p, _ => Bool.noConfusion (show false = true from p)
  | .dict _, _, _, p, _ => Bool.noConfusion (show false = true from p)
  | .bytearray _, _, _, p, _ => Bool.noConfusion (show false = true from p)
  | .set _, _, _, p, _ => Bool.noConfusion (show false = true from p)
  | .frozenset _, _, _, p, _ => Bool.noConfusion (show false = true from p)
  | .obj _ _, _, _, p, _ => Bool.noConfusion (show false = true from p)
theorem area_all : ∀ (ds : List WData) (vs : List Value), WellAll P h vs ds → plWs ds = true → (∀ d ∈ ds, d.weight ≤ 1048576) → ∃ A : List Addr, (∀ u ∈ vs, OkU A u) ∧ ∀ a ∈ A, ArgOb h A a
  | [], _, x, _, _ => by
    cases x
    exact ⟨[], fun u m => absurd m (by simp), fun a m => absurd m (by simp)⟩
  | d :: ds, _, x, p, z => by
    obtain ⟨v, vs, rfl, x1, x2⟩ := well_cons x
    have q : plW d = true ∧ plWs ds = true := Bool.and_eq_true_iff.mp p
    obtain ⟨A, a1, a2⟩ := area_one d v x1 q.1 (z d (List.mem_cons_self ..))
    obtain ⟨B, b1, b2⟩ := area_all ds vs x2 q.2 fun e he => z e (List.mem_cons_of_mem _ he)
    have kA : ∀ b ∈ A, b ∈ A ++ B := fun b hb => List.mem_append.mpr (.inl hb)
    have kB : ∀ b ∈ B, b ∈ A ++ B := fun b hb => List.mem_append.mpr (.inr hb)
    refine ⟨A ++ B, fun u hu => ?_, fun b hb => ?_⟩
    · rcases List.mem_cons.mp hu with e | m
      · rw [e]
        exact a1.mono kA
      · exact (b1 u m).mono kB
    · rcases List.mem_append.mp hb with m | m
      · exact (a2 b m).mono kA
      · exact (b2 b m).mono kB
end
end
noncomputable def hoOf (o : Obj) : Option HO := match o.data with
  | .seq vs _ => if (o.cls == Value.type "list") = true then some (.frz o (.lst (vs.toList.map toV))) else some (.frz o (.tup (vs.toList.map toV)))
  | _ => none
noncomputable def argH (K : PySem.W.Frag) (h : Heap) (A : List Addr) : Hp := fun b => if b ∈ A then (if (K.lookup b).isNone = true then (h.get? b).bind hoOf else none) else none
noncomputable def OnlyF (H : Hp) : Prop := ∀ b, H b = none ∨ ∃ o u, H b = some (.frz o u)
theorem hoOf_lst (vs : List Value) : hoOf { cls := .type "list", data := .seq vs.toArray } = some (.frz { cls := .type "list", data := .seq vs.toArray } (.lst (vs.map toV))) := by
  show (if (Value.type "list" == Value.type "list") = true then some (HO.frz { cls := .type "list", data := .seq vs.toArray } (.lst (vs.toArray.toList.map toV))) else some (HO.frz { cls := .type "list", data := .seq vs.toArray } (.tup (vs.toArray.toList.map toV)))) = _
  rw [if_pos (beq_self_eq_true _)]
theorem hoOf_tup (vs : List Value) : hoOf { cls := .type "tuple", data := .seq vs.toArray } = some (.frz { cls := .type "tuple", data := .seq vs.toArray } (.tup (vs.map toV))) := by
  show (if (Value.type "tuple" == Value.type "list") = true then some (HO.frz { cls := .type "tuple", data := .seq vs.toArray } (.lst (vs.toArray.toList.map toV))) else some (HO.frz { cls := .type "tuple", data := .seq vs.toArray } (.tup (vs.toArray.toList.map toV)))) = _
  rw [if_neg (by decide)]
section
variable {P : Program} {w : World} {K : PySem.W.Frag} {h : Heap} {A : List Addr}
theorem argH_at {b : Addr} {o : Obj} (hb : b ∈ A) (hk : K.lookup b = none) (e : h.get? b = some o) : argH K h A b = hoOf o := by
  unfold argH
  rw [if_pos hb, hk, if_pos (show (none : Option Obj).isNone = true from rfl), e] <;> rfl
theorem of_argH {b : Addr} {u : HO} (q : argH K h A b = some u) : b ∈ A ∧ K.lookup b = none := by
  unfold argH at q
  by_cases hb : b ∈ A
  · rw [if_pos hb] at q
    cases hk : K.lookup b with
    | none => exact ⟨hb, rfl⟩
    | some o =>
      rw [hk, if_neg (by simp)] at q
      cases q
  · rw [if_neg hb] at q
    cases q
theorem argH_is (ar : ∀ a ∈ A, ArgOb h A a) {b : Addr} {u : HO} (q : argH K h A b = some u) : K.lookup b = none ∧ ∃ vs : List Value, vs.length ≤ sizeLine ∧ (∀ u ∈ vs, OkU A u) ∧
    ((h.get? b = some { cls := .type "list", data := .seq vs.toArray } ∧ u = .frz { cls := .type "list", data := .seq vs.toArray } (.lst (vs.map toV))) ∨
     (h.get? b = some { cls := .type "tuple", data := .seq vs.toArray } ∧ u = .frz { cls := .type "tuple", data := .seq vs.toArray } (.tup (vs.map toV)))) := by
  obtain ⟨hb, hk⟩ := of_argH q
  obtain ⟨vs, h1, h2, h3⟩ := ar b hb
  refine ⟨hk, vs, h1, h2, ?_⟩
  rcases h3 with e | e
  · rw [argH_at hb hk e, hoOf_lst] at q
    exact .inl ⟨e, (Option.some.inj q).symm⟩
  · rw [argH_at hb hk e, hoOf_tup] at q
    exact .inr ⟨e, (Option.some.inj q).symm⟩
theorem argH_only (ar : ∀ a ∈ A, ArgOb h A a) : OnlyF (argH K h A) := fun b => by
  cases q : argH K h A b with
  | none => exact .inl rfl
  | some u =>
    obtain ⟨_, vs, _, _, ⟨_, e⟩ | ⟨_, e⟩⟩ := argH_is ar q
    · exact .inr ⟨_, _, by rw [e]⟩
    · exact .inr ⟨_, _, by rw [e]⟩
theorem argH_ok (ar : ∀ a ∈ A, ArgOb h A a) : HOk P w (argH K h A) h := fun b u q => by
  obtain ⟨_, vs, h1, h2, ⟨e, rfl⟩ | ⟨e, rfl⟩⟩ := argH_is ar q
  · exact ⟨e, by rw [List.length_map]; exact h1, vs, _, vals_toV h2, e⟩
  · exact ⟨e, by rw [List.length_map]; exact h1, vs, vals_toV h2, _, e, rfl, _, rfl⟩
theorem seq_inj {c c' : Value} {vs us : List Value} (e : (some { cls := c, data := .seq vs.toArray } : Option Obj) = some { cls := c', data := .seq us.toArray }) : c = c' ∧ vs = us := by
  have e1 := Option.some.inj e
  have e2 : c = c' := congrArg Obj.cls e1
  have e3 : Data.seq vs.toArray = Data.seq us.toArray := congrArg Obj.data e1
  injection e3 with e4
  refine ⟨e2, ?_⟩
  have e5 := congrArg Array.toList e4
  simpa using e5
theorem argL (KX : K.In h) (ar : ∀ a ∈ A, ArgOb h A a) {a : Addr} {vs : List Value} (ha : a ∈ A) (e : h.get? a = some { cls := .type "list", data := .seq vs.toArray }) : (∀ u ∈ vs, OkU A u) ∧ SqL K (argH K h A) a (vs.map toV) := by
  obtain ⟨us, h1, h2, h3⟩ := ar a ha
  have hu : us = vs := by
    rcases h3 with q | q
    · rw [e] at q
      exact (seq_inj q).2.symm
    · rw [e] at q
      exact absurd (Value.type.inj (seq_inj q).1) (by decide)
  subst hu
  refine ⟨h2, ?_⟩
  cases hk : K.lookup a with
  | none => exact .inl (.inr ⟨_, by rw [argH_at ha hk e, hoOf_lst]⟩)
  | some o =>
    have e2 := KX a o hk
    rw [e] at e2
    obtain rfl := Option.some.inj e2
    exact .inr ⟨_, us.toArray, _, hk, rfl, rfl, rfl, by rw [List.size_toArray]; exact h1, by simpa using vals_toV h2⟩
theorem argT (KX : K.In h) (ar : ∀ a ∈ A, ArgOb h A a) {a : Addr} {vs : List Value} (ha : a ∈ A) (e : h.get? a = some { cls := .type "tuple", data := .seq vs.toArray }) : (∀ u ∈ vs, OkU A u) ∧ SqT K (argH K h A) a (vs.map toV) := by
  obtain ⟨us, h1, h2, h3⟩ := ar a ha
  have hu : us = vs := by
    rcases h3 with q | q
    · rw [e] at q
      exact absurd (Value.type.inj (seq_inj q).1) (by decide)
    · rw [e] at q
      exact (seq_inj q).2.symm
  subst hu
  refine ⟨h2, ?_⟩
  cases hk : K.lookup a with
  | none => exact .inl (.inr ⟨_, by rw [argH_at ha hk e, hoOf_tup]⟩)
  | some o =>
    have e2 := KX a o hk
    rw [e] at e2
    obtain rfl := Option.some.inj e2
    exact .inr ⟨_, us.toArray, _, hk, rfl, rfl, by rw [List.size_toArray]; exact h1, by simpa using vals_toV h2⟩
mutual
theorem dw_one {Pm : Params} (KX : K.In h) (ar : ∀ a ∈ A, ArgOb h A a) : ∀ (d : WData) (v : Value), Well Pm h v d → plW d = true → OkU A v → Dw K (argH K h A) (toV v) d
  | .none, _, x, _, _ => by
    cases x
    exact .non
  | .bool b, _, x, _, _ => by
    cases x
    exact .bl b
  | .int i, _, x, _, _ => by
    cases x
    exact .int i
  | .str s, _, x, _, _ => by
    cases x
    exact .str s
  | .bytes b, _, x, _, _ => by
    cases x
    have z := Dw.byt (K := K) (H := argH K h A) b.toArray
    exact z
  | .list ds, _, x, p, hu => by
    obtain ⟨a, vs, rfl, ho, hall⟩ := well_list x
    obtain ⟨h2, hs⟩ := argL KX ar hu ho
    exact .lst hs (dw_all KX ar ds _ hall p h2)
  | .tuple ds, _, x, p, hu => by
    obtain ⟨a, vs, rfl, ho, hall⟩ := well_tuple x
    obtain ⟨h2, hs⟩ := argT KX ar hu ho
    exact .tup hs (dw_all KX ar ds _ hall p h2)
  | .float _, _, _, p, _ => Bool.noConfusion (show false = true from p)
  | .dict _, _, _, p, _ => Bool.noConfusion (show false = true from p)
  | .bytearray _, _, _, p, _ => Bool.noConfusion (show false = true from p)
  | .set _, _, _, p, _ => Bool.noConfusion (show false = true from p)
  | .frozenset _, _, _, p, _ => Bool.noConfusion (show false = true from p)
  | .obj _ _, _, _, p, _ => Bool.noConfusion (show false = true from p)
theorem dw_all {Pm : Params} (KX : K.In h) (ar : ∀ a ∈ A, ArgOb h A a) : ∀ (ds : List WData) (vs : List Value), WellAll Pm h vs ds → plWs ds = true → (∀ u ∈ vs, OkU A u) → DwAll K (argH K h A) (vs.map toV) ds
  | [], _, x, _, _ => by
    cases x
    exact .nil
  | d :: ds, _, x, p, hu => by
    obtain ⟨v, vs, rfl, x1, x2⟩ := well_cons x
    have q : plW d = true ∧ plWs ds = true := Bool.and_eq_true_iff.mp p
    exact .cons (dw_one KX ar d v x1 q.1 (hu _ (List.mem_cons_self ..))) (dw_all KX ar ds vs x2 q.2 fun u m => hu u (List.mem_cons_of_mem _ m))
end
end
theorem spec_call {P : Program} {w : World} {K : PySem.W.Frag} {mg mb : Str → Option Value} {CX : CXT} {k : Nat} {fa : Addr} {fd : FuncData} {ps : List Str} {sp : Sp} {s₁ : Shared} {vals : List Value} {ds : List WData} {R : PySem.W.WRecords} {cl : Str → Option Addr} {d0 : WData}
    (KX : K.In s₁.heap) (hns : s₁.heap.Ns mainGlobals mg) (hb : s₁.heap.Ns builtinsNs mb) (hbb : ∀ x : Str, x ≠ "__name__" → mb x = bootBuiltins x) (hlim : s₁.heap.NoLimit) (hg : s₁.gens = #[])
    (hwl : WellAll w.params s₁.heap vals ds) (hpl : plWs ds = true) (hwt : ∀ d ∈ ds, d.weight ≤ 1048576) (hr : Room k callerA)
    (F : ∀ base : Heap, K.In base → base.Ns mainGlobals mg → FnOk P w K mg base CX k fa fd ps sp) (hbind : ∀ (s : Shared) (us : List Value), us.length = ps.length → BindsTo s fd ⟨us, []⟩ (ps.zip us)) (hlen : ds.length = ps.length)
    (hsp : ∀ (H : Hp) (xs : List V), OnlyF H → DwAll K H xs ds → sp xs H (fun v H' => Dw K H' v d0) fun _ _ _ => False)
    (hCX : ∀ H e s', CX [] H s₁ (fun _ _ _ => False) e s' → False) :
    codeAny (model P w) callerA (.call (.ref fa) ⟨vals, []⟩) (fun r s' => ∃ u as, r = .ok (.ret u) ∧ ReadsW R cl s'.heap u d0 as ∧ OldK s₁.heap s'.heap ∧ s'.os = s₁.os ∧ AllBare s'.gens) s₁ := by
  obtain ⟨A, ho, ar⟩ := area_all ds vals hwl hpl hwt
  have hO : OnlyF (argH K s₁.heap A) := argH_only ar
  have hok : HOk P w (argH K s₁.heap A) s₁.heap := argH_ok ar
  have hS := dw_all KX ar ds vals hwl hpl ho
  have hV := vals_toV ho
  have hK : ∀ b u, argH K s₁.heap A b = some u → K.lookup b = none := fun b u q => (argH_is ar q).1
  have noA : ∀ {b : Addr} {o : Obj} {es : Array DictEntry} {ep : Nat}, s₁.heap.get? b = some o → o.data = .dict es ep → argH K s₁.heap A b = none := fun {b o es ep} e d => by
    cases q : argH K s₁.heap A b with
    | none => rfl
    | some u =>
      obtain ⟨_, vs, _, _, ⟨e2, _⟩ | ⟨e2, _⟩⟩ := argH_is ar q
      · rw [e2] at e
        cases e
        have d' : Data.seq vs.toArray _ = Data.dict es ep := d
        cases d'
      · rw [e2] at e
        cases e
        have d' : Data.seq vs.toArray _ = Data.dict es ep := d
        cases d'
  generalize argH K s₁.heap A = H at hO hok hS hK noA
  have base_of : ∀ {b : Addr} {o : Obj}, s₁.heap.get? b = some o → H b = none → (hidT s₁.heap H).get? b = some o := fun e n => hidT_get e n
  have nsK : ∀ {b : Addr} {m : Str → Option Value}, s₁.heap.Ns b m → (hidT s₁.heap H).Ns b m := fun {b m} ⟨o, es, ep, e, d, r⟩ => ⟨o, es, ep, base_of e (noA e d), d, r⟩
  have nK : ∀ b o, K.lookup b = some o → H b = none := fun b o e => by
    cases q : H b with
    | none => rfl
    | some u =>
      rw [hK b u q] at e
      cases e
  have hKb : K.In (hidT s₁.heap H) := fun b o e => base_of (KX b o e) (nK b o e)
  have hM : Mod K mg (hidT s₁.heap H) := ⟨hKb, nsK hns, ⟨mb, nsK hb, hbb⟩, let ⟨mc, h1, h2⟩ := hlim; ⟨mc, nsK h1, h2⟩⟩
  have e0 : Env0 P w K mg (hidT s₁.heap H) callerA [] s₁ H := ⟨rfl, hM, fun b o e => of_hidT e, Nat.le_of_eq (hidT_size _ _), trivial, fun b hb => absurd (show b ∈ ([] : List Addr) from hb) (by simp), hok, .of_eq hg⟩
  have hl : vals.length = ps.length := by rw [wellAll_len hwl]; exact hlen
  refine codeAny_mono ((F _ hKb (nsK hns)).run callerA [] s₁ H ⟨vals, []⟩ vals (vals.map toV) _ _ hr e0 (hbind s₁ vals hl) hV (hsp H _ hO hS)) fun r s' x => ?_
  cases r with
  | error e => exact (hCX H e s' x).elim
  | ok fl =>
    cases fl with
    | next => exact False.elim x
    | brk => exact False.elim x
    | cont => exact False.elim x
    | ret u =>
      obtain ⟨v, H', os, bare, un, hok', r', q⟩ := x
      have kept : ∀ b o, s₁.heap.get? b = some o → s'.heap.get? b = some o := fun b o e => by
        cases q2 : H b with
        | none => exact un.keep b o e q2 (by intro z; exact absurd (show b ∈ ([] : List Addr) from z) (by simp)) (by simp)
        | some u2 =>
          rcases hO b with z | ⟨ob, u3, z⟩
          · rw [q2] at z
            cases z
          · have z2 := un.frzs b ob _ z
            obtain ⟨e1, _⟩ := hok b _ z
            obtain ⟨e2, _⟩ := hok' b _ z2
            rw [e] at e1
            cases e1
            exact e2
      have KX' : K.In s'.heap := fun b o e => kept b o (KX b o e)
      obtain ⟨as, hrd⟩ := Dw.reads (R := R) (cl := cl) hok' KX' d0 v u q r'
      exact ⟨u, as, rfl, hrd, OldK.of_keep kept, os, bare⟩
theorem layable_weight {ds : List WData} (h : WData.layableAll ds = true) : ∀ d ∈ ds, d.weight ≤ 1048576 := fun d hd =>
  (PySem.W.layableW_iff.mp (List.all_eq_true.mp h d hd)).2.2
theorem encAll_len : ∀ (cs : List Codec) (a : Codec.denoteAll cs), (Codec.encAll cs a).length = cs.length
  | [], _ => rfl
  | c :: cs, a => by
    show (Codec.encAll cs a.2).length + 1 = cs.length + 1
    rw [encAll_len cs a.2]
theorem walk_spec {r : OpenSpec} {k : Nat} {q : Program} {loose : List Str} {XP : (Str → Option Value) → Heap → Prop} {YP : World → Heap → Prop} {d : DefRec} {K : Params → PySem.W.Frag} {CX : World → CXT} {ps : List Str} {sp : World → Sp}
    (hwell : r.wellSaid = true) (hdf : d.params.defaults = []) (hlen : r.args.length = ps.length) (hr : Room k callerA)
    (hY : ∀ (w : World) (h : Heap), YP w h → (K w.params).In h)
    (F : ∀ (w : World) (mg : Str → Option Value) (fa : Addr) (h : Heap), YP w h → (K w.params).In h → h.Ns mainGlobals mg → mg d.name = some (.ref fa) →
      ∃ fd : FuncData, (∀ (s : Shared) (us : List Value), us.length = ps.length → BindsTo s fd ⟨us, []⟩ (ps.zip us)) ∧
        ∀ base : Heap, (K w.params).In base → base.Ns mainGlobals mg → FnOk r.prog w (K w.params) mg base (CX w) k fa fd ps (sp w))
    (hsp : ∀ (w : World) (H : Hp) (xs : List V) (a : Codec.denoteAll r.args), OnlyF H → Codec.withinAll r.args a = true → Codec.app r.args r.asked a = true → DwAll (K w.params) H xs (Codec.encAll r.args a) →
      sp w xs H (fun v H' => Dw (K w.params) H' v (r.ret.enc (Codec.app r.args r.f a))) fun _ _ _ => False)
    (hCX : ∀ (w : World) (H : Hp) (s : Shared) (e : Value) (s' : Shared), CX w [] H s (fun _ _ _ => False) e s' → False) :
    PySem.W.WalkOS q loose XP YP r d [] (fun f vs => PySem.call f vs) := by
  intro w s_0 s₁ mg mb G Y fa o pm cd doc dV kV ho hd hcd hD hmg hg args vals as hpre hlay hrd hwl hlo
  obtain ⟨a, e1, e2⟩ := PySem.W.os_pre_some hpre
  obtain ⟨e3, hwi⟩ := Codec.encAll_of_decAll r.args args a e1
  subst e3
  have KX := hY w _ Y
  obtain ⟨fd, hb, hF⟩ := F w mg fa _ Y KX G.T.g hmg
  refine PySem.W.enter_call (codeAny_mono (spec_call (R := []) (cl := classAt s_0.heap) (d0 := r.ret.enc (Codec.app r.args r.f a)) KX G.T.g G.T.b G.T.builtins G.T.nolimit hg hwl (pl_encAll _ _) (layable_weight hlay) hr hF hb (by rw [encAll_len]; exact hlen)
    (fun H xs hO hS => hsp w H xs a hO hwi e2 hS) fun H e s' => hCX w H s₁ e s') fun r' s' hq => ?_)
  obtain ⟨u, as', rfl, h1, h2, h3, h4⟩ := hq
  exact ⟨.inl ⟨u, _, as', rfl, fun _ => rfl, h1, (OpenSpec.post_iff hwell hwi _ _).mpr rfl, fun z => Bool.noConfusion (show false = true from z)⟩, h2, h3, h4⟩
theorem walk_specK {r : OpenSpec} {k : Nat} {q : Program} {loose : List Str} {XP : (Str → Option Value) → Heap → Prop} {YP : World → Heap → Prop} {d : DefRec} {K : Params → PySem.W.Frag} {CX : CXT} {ps : List Str} {sp : PySem.W.Frag → Sp}
    (hwell : r.wellSaid = true) (hdf : d.params.defaults = []) (hlen : r.args.length = ps.length) (hr : Room k callerA)
    (hY : ∀ (w : World) (h : Heap), YP w h → (K w.params).In h)
    (F : ∀ (w : World) (mg : Str → Option Value) (fa : Addr) (h : Heap), YP w h → (K w.params).In h → h.Ns mainGlobals mg → mg d.name = some (.ref fa) →
      ∃ fd : FuncData, (∀ (s : Shared) (us : List Value), us.length = ps.length → BindsTo s fd ⟨us, []⟩ (ps.zip us)) ∧
        ∀ base : Heap, (K w.params).In base → base.Ns mainGlobals mg → FnOk r.prog w (K w.params) mg base CX k fa fd ps (sp (K w.params)))
    (hsp : ∀ (K : PySem.W.Frag) (H : Hp) (xs : List V) (a : Codec.denoteAll r.args), OnlyF H → Codec.withinAll r.args a = true → Codec.app r.args r.asked a = true → DwAll K H xs (Codec.encAll r.args a) →
      sp K xs H (fun v H' => Dw K H' v (r.ret.enc (Codec.app r.args r.f a))) fun _ _ _ => False)
    (hCX : ∀ (H : Hp) (s : Shared) (e : Value) (s' : Shared), CX [] H s (fun _ _ _ => False) e s' → False) :
    PySem.W.WalkOS q loose XP YP r d [] (fun f vs => PySem.call f vs) :=
  walk_spec (K := K) (CX := fun _ => CX) (sp := fun w => sp (K w.params)) hwell hdf hlen hr hY F (fun w H xs a h1 h2 h3 h4 => hsp (K w.params) H xs a h1 h2 h3 h4) fun _ H s e s' => hCX H s e s'
end L2
end

section
namespace Fs
open Kqp4
theorem gcd_pos {a : Nat} {d : Nat} (h : 0 < d) : 0 < Nat.gcd a d := Nat.gcd_pos_of_pos_right a h
theorem frac_eq {n : Int} {d : Nat} (h : 0 < d) : frac n d = ⟨n / (Nat.gcd n.natAbs d : Int), d / Nat.gcd n.natAbs d⟩ := by
  have g := gcd_pos (a := n.natAbs) h
  unfold frac
  rw [if_neg (by omega)]
theorem frac_num {n : Int} {d : Nat} (h : 0 < d) : (frac n d).num = n / (Nat.gcd n.natAbs d : Int) := by rw [frac_eq h]
theorem frac_den {n : Int} {d : Nat} (h : 0 < d) : (frac n d).den = d / Nat.gcd n.natAbs d := by rw [frac_eq h]
theorem frac_den_pos {n : Int} {d : Nat} (h : 0 < d) : 0 < (frac n d).den := by
  rw [frac_den h]
  exact Nat.div_pos (Nat.gcd_le_right _ h) (gcd_pos h)
theorem frac_val {n : Int} {d : Nat} (h : 0 < d) : (frac n d).num * (d : Int) = n * ((frac n d).den : Int) := by
  rw [frac_num h, frac_den h]
  have g := gcd_pos (a := n.natAbs) h
  obtain ⟨a, ha⟩ : (Nat.gcd n.natAbs d : Int) ∣ n := Int.ofNat_dvd_left.mpr (Nat.gcd_dvd_left _ _)
  obtain ⟨b, hb⟩ := Nat.gcd_dvd_right n.natAbs d
  have e1 : n / (Nat.gcd n.natAbs d : Int) = a := by
    conv => lhs; lhs; rw [ha]
    exact Int.mul_ediv_cancel_left _ (by omega)
  have e2 : d / Nat.gcd n.natAbs d = b := by
    conv => lhs; lhs; rw [hb]
    exact Nat.mul_div_cancel_left _ g
  rw [e1, e2]
  have hb' : (d : Int) = (Nat.gcd n.natAbs d : Int) * (b : Int) := by
    conv => lhs; rw [hb]
    exact Int.natCast_mul _ _
  conv => rhs; rw [ha]
  conv => lhs; rw [hb']
  rw [← Int.mul_assoc, Int.mul_comm a]
theorem frac_cop {n : Int} {d : Nat} (h : 0 < d) : Nat.gcd (frac n d).num.natAbs (frac n d).den = 1 := by
  rw [frac_num h, frac_den h]
  have g := gcd_pos (a := n.natAbs) h
  have e : (n / (Nat.gcd n.natAbs d : Int)).natAbs = n.natAbs / Nat.gcd n.natAbs d := by
    obtain ⟨a, ha⟩ : (Nat.gcd n.natAbs d : Int) ∣ n := Int.ofNat_dvd_left.mpr (Nat.gcd_dvd_left _ _)
    have e1 : n / (Nat.gcd n.natAbs d : Int) = a := by
      conv => lhs; lhs; rw [ha]
      exact Int.mul_ediv_cancel_left _ (by omega)
    have e2 : n.natAbs = Nat.gcd n.natAbs d * a.natAbs := by
      conv => lhs; rw [ha]
      rw [Int.natAbs_mul, Int.natAbs_natCast]
    rw [e1]
    conv => rhs; lhs; rw [e2]
    exact (Nat.mul_div_cancel_left _ g).symm
  rw [e]
  exact Nat.gcd_div_gcd_div_gcd_of_pos_right h
structure Low (p : Frac) : Prop where
  pos : 0 < p.den
  cop : Nat.gcd p.num.natAbs p.den = 1
theorem low_frac {n : Int} {d : Nat} (h : 0 < d) : Low (frac n d) := ⟨frac_den_pos h, frac_cop h⟩
theorem low_eq {p q : Frac} (hp : Low p) (hq : Low q) (e : p.num * (q.den : Int) = q.num * (p.den : Int)) : p = q := by
  obtain ⟨a, b⟩ := p
  obtain ⟨c, d⟩ := q
  have hb : 0 < b := hp.pos
  have hd : 0 < d := hq.pos
  have h1 : Nat.gcd a.natAbs b = 1 := hp.cop
  have h2 : Nat.gcd c.natAbs d = 1 := hq.cop
  have e' : a * (d : Int) = c * (b : Int) := e
  have en : a.natAbs * d = c.natAbs * b := by
    have := congrArg Int.natAbs e'
    rwa [Int.natAbs_mul, Int.natAbs_mul, Int.natAbs_natCast, Int.natAbs_natCast] at this
  have d1 : b ∣ d := by
    have : b ∣ a.natAbs * d := ⟨c.natAbs, by rw [en, Nat.mul_comm]⟩
    exact Nat.Coprime.dvd_of_dvd_mul_left (show Nat.Coprime b a.natAbs by unfold Nat.Coprime; rw [Nat.gcd_comm]; exact h1) this
  have d2 : d ∣ b := by
    have : d ∣ c.natAbs * b := ⟨a.natAbs, by rw [← en, Nat.mul_comm]⟩
    exact Nat.Coprime.dvd_of_dvd_mul_left (show Nat.Coprime d c.natAbs by unfold Nat.Coprime; rw [Nat.gcd_comm]; exact h2) this
  have ebd : b = d := Nat.dvd_antisymm d1 d2
  subst ebd
  have eac : a = c := Int.eq_of_mul_eq_mul_right (by omega) e'
  subst eac
  rfl
theorem frac_ext {n m : Int} {d e : Nat} (hd : 0 < d) (he : 0 < e) (h : n * (e : Int) = m * (d : Int)) : frac n d = frac m e := by
  refine low_eq (low_frac hd) (low_frac he) ?_
  have v1 := frac_val (n := n) hd
  have v2 := frac_val (n := m) he
  have hde : (d : Int) * (e : Int) ≠ 0 := by
    have : (0 : Int) < (d : Int) * (e : Int) := Int.mul_pos (by omega) (by omega)
    omega
  have k : ((frac n d).num * ((frac m e).den : Int)) * ((d : Int) * (e : Int)) = ((frac m e).num * ((frac n d).den : Int)) * ((d : Int) * (e : Int)) := by
    calc ((frac n d).num * ((frac m e).den : Int)) * ((d : Int) * (e : Int))
        = ((frac n d).num * (d : Int)) * (((frac m e).den : Int) * (e : Int)) := by ac_rfl
      _ = (n * ((frac n d).den : Int)) * (((frac m e).den : Int) * (e : Int)) := by rw [v1]
      _ = (n * (e : Int)) * (((frac n d).den : Int) * ((frac m e).den : Int)) := by ac_rfl
      _ = (m * (d : Int)) * (((frac n d).den : Int) * ((frac m e).den : Int)) := by rw [h]
      _ = (m * ((frac m e).den : Int)) * (((frac n d).den : Int) * (d : Int)) := by ac_rfl
      _ = ((frac m e).num * (e : Int)) * (((frac n d).den : Int) * (d : Int)) := by rw [v2]
      _ = ((frac m e).num * ((frac n d).den : Int)) * ((d : Int) * (e : Int)) := by ac_rfl
  exact Int.eq_of_mul_eq_mul_right hde k
theorem frac_self {p : Frac} (h : Low p) : frac p.num p.den = p := by
  refine low_eq (low_frac h.pos) h ?_
  exact frac_val h.pos
theorem low_zero : Low zero := ⟨by decide, by decide⟩
theorem low_one : Low one := ⟨by decide, by decide⟩
theorem zero_frac {d : Nat} (h : 0 < d) : frac 0 d = zero := by
  refine low_eq (low_frac h) low_zero ?_
  have v := frac_val (n := 0) h
  rw [Int.zero_mul] at v
  have : (frac 0 d).num = 0 := by
    rcases Int.mul_eq_zero.mp v with e | e
    · exact e
    · omega
  rw [this]
  show 0 * (1 : Int) = 0 * _
  omega
theorem one_frac {d : Nat} (h : 0 < d) : frac d d = one := by
  refine low_eq (low_frac h) low_one ?_
  have v := frac_val (n := (d : Int)) h
  have : (frac (d : Int) d).num = ((frac (d : Int) d).den : Int) := by
    rw [Int.mul_comm (d : Int)] at v
    exact Int.eq_of_mul_eq_mul_right (by omega) v
  rw [this]
  show _ * (1 : Int) = 1 * _
  omega
theorem add_frac {a c : Int} {b d : Nat} (hb : 0 < b) (hd : 0 < d) : add (frac a b) (frac c d) = frac (a * d + c * b) (b * d) := by
  unfold add
  have p1 := frac_den_pos (n := a) hb
  have p2 := frac_den_pos (n := c) hd
  refine frac_ext (Nat.mul_pos p1 p2) (Nat.mul_pos hb hd) ?_
  have v1 := frac_val (n := a) hb
  have v2 := frac_val (n := c) hd
  rw [Int.natCast_mul, Int.natCast_mul, Int.add_mul, Int.add_mul]
  congr 1
  · calc (frac a b).num * ((frac c d).den : Int) * ((b : Int) * (d : Int)) = ((frac a b).num * (b : Int)) * (((frac c d).den : Int) * (d : Int)) := by ac_rfl
      _ = (a * ((frac a b).den : Int)) * (((frac c d).den : Int) * (d : Int)) := by rw [v1]
      _ = _ := by ac_rfl
  · calc (frac c d).num * ((frac a b).den : Int) * ((b : Int) * (d : Int)) = ((frac c d).num * (d : Int)) * (((frac a b).den : Int) * (b : Int)) := by ac_rfl
      _ = (c * ((frac c d).den : Int)) * (((frac a b).den : Int) * (b : Int)) := by rw [v2]
      _ = _ := by ac_rfl
theorem sub_frac {a c : Int} {b d : Nat} (hb : 0 < b) (hd : 0 < d) : sub (frac a b) (frac c d) = frac (a * d - c * b) (b * d) := by
  unfold sub
  have p1 := frac_den_pos (n := a) hb
  have p2 := frac_den_pos (n := c) hd
  refine frac_ext (Nat.mul_pos p1 p2) (Nat.mul_pos hb hd) ?_
  have v1 := frac_val (n := a) hb
  have v2 := frac_val (n := c) hd
  rw [Int.natCast_mul, Int.natCast_mul, Int.sub_mul, Int.sub_mul]
  congr 1
  · calc (frac a b).num * ((frac c d).den : Int) * ((b : Int) * (d : Int)) = ((frac a b).num * (b : Int)) * (((frac c d).den : Int) * (d : Int)) := by ac_rfl
      _ = (a * ((frac a b).den : Int)) * (((frac c d).den : Int) * (d : Int)) := by rw [v1]
      _ = _ := by ac_rfl
  · calc (frac c d).num * ((frac a b).den : Int) * ((b : Int) * (d : Int)) = ((frac c d).num * (d : Int)) * (((frac a b).den : Int) * (b : Int)) := by ac_rfl
      _ = (c * ((frac c d).den : Int)) * (((frac a b).den : Int) * (b : Int)) := by rw [v2]
      _ = _ := by ac_rfl
theorem mul_frac {a c : Int} {b d : Nat} (hb : 0 < b) (hd : 0 < d) : mul (frac a b) (frac c d) = frac (a * c) (b * d) := by
  unfold mul
  have p1 := frac_den_pos (n := a) hb
  have p2 := frac_den_pos (n := c) hd
  refine frac_ext (Nat.mul_pos p1 p2) (Nat.mul_pos hb hd) ?_
  have v1 := frac_val (n := a) hb
  have v2 := frac_val (n := c) hd
  rw [Int.natCast_mul, Int.natCast_mul]
  calc (frac a b).num * (frac c d).num * ((b : Int) * (d : Int)) = ((frac a b).num * (b : Int)) * ((frac c d).num * (d : Int)) := by ac_rfl
    _ = (a * ((frac a b).den : Int)) * (c * ((frac c d).den : Int)) := by rw [v1, v2]
    _ = _ := by ac_rfl
theorem le_iff_frac {a c : Int} {b d : Nat} (hb : 0 < b) (hd : 0 < d) : (frac a b).num * ((frac c d).den : Int) ≤ (frac c d).num * ((frac a b).den : Int) ↔ a * (d : Int) ≤ c * (b : Int) := by
  have p1 := frac_den_pos (n := a) hb
  have p2 := frac_den_pos (n := c) hd
  have v1 := frac_val (n := a) hb
  have v2 := frac_val (n := c) hd
  have k1 : ((frac a b).num * ((frac c d).den : Int)) * ((b : Int) * (d : Int)) = (a * (d : Int)) * (((frac a b).den : Int) * ((frac c d).den : Int)) := by
    calc _ = ((frac a b).num * (b : Int)) * (((frac c d).den : Int) * (d : Int)) := by ac_rfl
      _ = (a * ((frac a b).den : Int)) * (((frac c d).den : Int) * (d : Int)) := by rw [v1]
      _ = _ := by ac_rfl
  have k2 : ((frac c d).num * ((frac a b).den : Int)) * ((b : Int) * (d : Int)) = (c * (b : Int)) * (((frac a b).den : Int) * ((frac c d).den : Int)) := by
    calc _ = ((frac c d).num * (d : Int)) * (((frac a b).den : Int) * (b : Int)) := by ac_rfl
      _ = (c * ((frac c d).den : Int)) * (((frac a b).den : Int) * (b : Int)) := by rw [v2]
      _ = _ := by ac_rfl
  have hbd : (0 : Int) < (b : Int) * (d : Int) := Int.mul_pos (by omega) (by omega)
  have hpp : (0 : Int) < ((frac a b).den : Int) * ((frac c d).den : Int) := Int.mul_pos (by omega) (by omega)
  constructor
  · intro h
    have := Int.mul_le_mul_of_nonneg_right h (Int.le_of_lt hbd)
    rw [k1, k2] at this
    exact Int.le_of_mul_le_mul_right this hpp
  · intro h
    have := Int.mul_le_mul_of_nonneg_right h (Int.le_of_lt hpp)
    rw [← k1, ← k2] at this
    exact Int.le_of_mul_le_mul_right this hbd
theorem le_frac {a c : Int} {b d : Nat} (hb : 0 < b) (hd : 0 < d) : le (frac a b) (frac c d) = decide (a * (d : Int) ≤ c * (b : Int)) := by
  unfold le
  exact decide_eq_decide.mpr (le_iff_frac hb hd)
theorem lt_frac {a c : Int} {b d : Nat} (hb : 0 < b) (hd : 0 < d) : lt (frac a b) (frac c d) = decide (a * (d : Int) < c * (b : Int)) := by
  unfold lt
  refine decide_eq_decide.mpr ?_
  have := le_iff_frac (a := c) (c := a) hd hb
  omega
theorem le_same {a c : Int} {d : Nat} (hd : 0 < d) : le (frac a d) (frac c d) = decide (a ≤ c) := by
  rw [le_frac hd hd]
  refine decide_eq_decide.mpr ⟨fun h => Int.le_of_mul_le_mul_right h (by omega), fun h => Int.mul_le_mul_of_nonneg_right h (by omega)⟩
theorem add_same {a c : Int} {d : Nat} (hd : 0 < d) : add (frac a d) (frac c d) = frac (a + c) d := by
  rw [add_frac hd hd]
  refine frac_ext (Nat.mul_pos hd hd) hd ?_
  rw [Int.natCast_mul, ← Int.add_mul]
  ac_rfl
theorem sub_same {a c : Int} {d : Nat} (hd : 0 < d) : sub (frac a d) (frac c d) = frac (a - c) d := by
  rw [sub_frac hd hd]
  refine frac_ext (Nat.mul_pos hd hd) hd ?_
  rw [Int.natCast_mul, ← Int.sub_mul]
  ac_rfl
theorem total_same {d : Nat} (hd : 0 < d) : ∀ l : List Int, total (l.map fun n => frac n d) = frac l.sum d
  | [] => (zero_frac hd).symm
  | a :: l => by
    show add (frac a d) (total (l.map fun n => frac n d)) = _
    rw [total_same hd l, add_same hd, List.sum_cons]
theorem power_frac {a : Int} {b : Nat} (hb : 0 < b) : ∀ n : Nat, power (frac a b) n = frac (a ^ n) (b ^ n) := by
  intro n_
  induction n_ with
  | zero =>
    show one = frac (a ^ 0) (b ^ 0)
    rw [Int.pow_zero, Nat.pow_zero]
    exact (one_frac (d := 1) (by decide)).symm
  | succ n ih =>
    show mul (frac a b) (power (frac a b) n) = _
    rw [ih, mul_frac hb (Nat.pow_pos hb), Int.pow_succ, Nat.pow_succ, Int.mul_comm a, Nat.mul_comm b]
end Fs

end

section
namespace Fs
open Kqp4
noncomputable def cRow (x : Land) (i : Nat) : List Int := (List.range x.fields).map fun j => (comes x i j : Int)
noncomputable def cRows (x : Land) : List (List Int) := (List.range x.fields).map (cRow x)
noncomputable def dot (ws us : List Int) : Int := (List.zipWith (fun a b => a * b) ws us).sum
noncomputable def gstep (rs : List (List Int)) (us : List Int) : List Int := rs.map fun r => dot r us
noncomputable def gens (rs : List (List Int)) : Nat → List Int → List Int
  | 0, us => us
  | n + 1, us => gstep rs (gens rs n us)
theorem gens_out (rs : List (List Int)) : ∀ (n : Nat) (us : List Int), gens rs (n + 1) us = gens rs n (gstep rs us)
  | 0, _ => rfl
  | n + 1, us => by
    show gstep rs (gens rs (n + 1) us) = gstep rs (gens rs n (gstep rs us))
    rw [gens_out rs n us]
theorem cRow_length (x : Land) (i : Nat) : (cRow x i).length = x.fields := by unfold cRow; simp
theorem cRows_length (x : Land) : (cRows x).length = x.fields := by unfold cRows; simp
theorem gstep_length (rs : List (List Int)) (us : List Int) : (gstep rs us).length = rs.length := by unfold gstep; simp
theorem gens_length (rs : List (List Int)) (us : List Int) (h : us.length = rs.length) : ∀ n, (gens rs n us).length = rs.length
  | 0 => h
  | _ + 1 => gstep_length _ _
theorem cRow_get {x : Land} {i j : Nat} (hj : j < x.fields) : (cRow x i)[j]? = some (comes x i j : Int) := by
  unfold cRow; simp [hj]
theorem cRows_get {x : Land} {i : Nat} (hi : i < x.fields) : (cRows x)[i]? = some (cRow x i) := by
  unfold cRows; simp [hi]
theorem at_map {us : List Int} {L : Nat} {i : Nat} {u : Int} (h : us[i]? = some u) : at_ (us.map fun v => frac v L) i = frac u L := by
  unfold at_
  rw [List.getD_eq_getElem?_getD, List.getElem?_map, h]
  rfl
theorem zip_range {α β γ : Type} (f : α → β → γ) {l : List α} {m : List β} {n : Nat} (hl : l.length = n) (hm : m.length = n) (g : Nat → γ)
    (hg : ∀ (j : Nat) (a : α) (b : β), l[j]? = some a → m[j]? = some b → g j = f a b) : (List.range n).map g = List.zipWith f l m := by
  apply List.ext_getElem
  · simp [hl, hm]
  · intro j h1 h2
    have hj : j < n := by simpa using h1
    have e := hg j (l[j]'(by omega)) (m[j]'(by omega)) (by simp) (by simp)
    simp [e]
theorem row_total {x : Land} {us : List Int} {L : Nat} (hL : 0 < L) (hu : us.length = x.fields) (i : Nat) :
    total ((List.range x.fields).map fun j => mul (part x i j) (at_ (us.map fun v => frac v L) j)) = frac (dot (cRow x i) us) (100 * L) := by
  have e : ((List.range x.fields).map fun j => mul (part x i j) (at_ (us.map fun v => frac v L) j)) = (List.zipWith (fun a b => a * b) (cRow x i) us).map fun n => frac n (100 * L) := by
    rw [List.map_zipWith]
    refine zip_range _ (cRow_length x i) hu _ fun j a b ha hb => ?_
    have hj : j < x.fields := by
      have := (List.getElem?_eq_some_iff.mp hb).1
      omega
    rw [cRow_get hj] at ha
    cases ha
    rw [at_map hb]
    unfold part
    rw [mul_frac (by decide) hL]
  rw [e, total_same (Nat.mul_pos (by decide) hL)]
  rfl
theorem next_eq {x : Land} {us : List Int} {L : Nat} (hL : 0 < L) (hu : us.length = x.fields) :
    next x (us.map fun v => frac v L) = (gstep (cRows x) us).map fun v => frac v (100 * L) := by
  unfold next gstep cRows
  rw [List.map_map, List.map_map]
  refine List.map_congr_left fun i _ => ?_
  exact row_total hL hu i
theorem after_eq {x : Land} : ∀ (n : Nat) {us : List Int} {L : Nat}, 0 < L → us.length = x.fields →
    after x n (us.map fun v => frac v L) = (gens (cRows x) n us).map fun v => frac v (100 ^ n * L) := by
  intro n_
  induction n_ with
  | zero =>
    intro us L _ _
    show us.map _ = us.map _
    rw [Nat.pow_zero, Nat.one_mul]
  | succ n ih =>
    intro us L hL hu
    show after x n (next x (us.map fun v => frac v L)) = _
    rw [next_eq hL hu, ih (Nat.mul_pos (by decide) hL) (by rw [gstep_length, cRows_length]), gens_out, Nat.pow_succ, Nat.mul_assoc]
noncomputable def unit (n j : Nat) : List Int := (List.range n).map fun k => if k = j then 1 else 0
theorem unit_length (n j : Nat) : (unit n j).length = n := by unfold unit; simp
theorem unit_get {n j k : Nat} (h : k < n) : (unit n j)[k]? = some (if k = j then 1 else 0) := by unfold unit; simp [h]
theorem fore_eq {x : Land} {j : Nat} : ∀ (n i : Nat), i < x.fields → ∀ v, (gens (cRows x) n (unit x.fields j))[i]? = some v → forebears x n i j = frac v (100 ^ n) := by
  intro n_
  induction n_ with
  | zero =>
    intro i hi v e
    have e' : (unit x.fields j)[i]? = some v := e
    rw [unit_get hi] at e'
    show (if i = j then one else zero) = _
    rw [Nat.pow_zero]
    by_cases h : i = j
    · rw [if_pos h] at e' ⊢
      cases e'
      exact (one_frac (d := 1) (by decide)).symm
    · rw [if_neg h] at e' ⊢
      cases e'
      exact (zero_frac (d := 1) (by decide)).symm
  | succ n ih =>
    intro i hi v e
    have e' : (gstep (cRows x) (gens (cRows x) n (unit x.fields j)))[i]? = some v := e
    unfold gstep at e'
    rw [List.getElem?_map, cRows_get hi] at e'
    have ev : dot (cRow x i) (gens (cRows x) n (unit x.fields j)) = v := Option.some.inj e'
    have hl : (gens (cRows x) n (unit x.fields j)).length = x.fields := by
      rw [gens_length _ _ (by rw [unit_length, cRows_length]), cRows_length]
    show total ((List.range x.fields).map fun k => mul (part x i k) (forebears x n k j)) = _
    have hp : 0 < 100 ^ n := Nat.pow_pos (by decide)
    rw [Nat.pow_succ, Nat.mul_comm, ← ev, ← row_total (x := x) hp hl i]
    congr 1
    refine List.map_congr_left fun k hk => ?_
    have hk' : k < x.fields := List.mem_range.mp hk
    obtain ⟨u, hu⟩ : ∃ u, (gens (cRows x) n (unit x.fields j))[k]? = some u := ⟨_, List.getElem?_eq_getElem (by omega)⟩
    rw [ih k hk' u hu, at_map hu]
theorem foldl_great {L : Nat} (hL : 0 < L) : ∀ (l : List Int) (a : Int), (l.map fun v => frac v L).foldl (fun a b => if le a b then b else a) (frac a L) = frac (l.foldl max a) L := by
  intro l_
  induction l_ with
  | nil =>
    intro _
    exact rfl
  | cons b l ih =>
    intro a
    show ((l.map fun v => frac v L).foldl (fun a b => if le a b then b else a) (if le (frac a L) (frac b L) then frac b L else frac a L)) = frac (l.foldl max (max a b)) L
    rw [le_same hL]
    by_cases h : a ≤ b
    · rw [decide_eq_true h, if_pos rfl, Int.max_eq_right h]
      exact ih b
    · rw [decide_eq_false h, if_neg (by decide), Int.max_eq_left (by omega)]
      exact ih a
theorem foldl_least {L : Nat} (hL : 0 < L) : ∀ (l : List Int) (a : Int), (l.map fun v => frac v L).foldl (fun a b => if le b a then b else a) (frac a L) = frac (l.foldl min a) L := by
  intro l_
  induction l_ with
  | nil =>
    intro _
    exact rfl
  | cons b l ih =>
    intro a
    show ((l.map fun v => frac v L).foldl (fun a b => if le b a then b else a) (if le (frac b L) (frac a L) then frac b L else frac a L)) = frac (l.foldl min (min a b)) L
    rw [le_same hL]
    by_cases h : b ≤ a
    · rw [decide_eq_true h, if_pos rfl, Int.min_eq_right h]
      exact ih b
    · rw [decide_eq_false h, if_neg (by decide), Int.min_eq_left (by omega)]
      exact ih a
theorem foldl_max_ge : ∀ (l : List Int) (a : Int), a ≤ l.foldl max a ∧ (∀ b ∈ l, b ≤ l.foldl max a) ∧ (l.foldl max a = a ∨ l.foldl max a ∈ l) := by
  intro l_
  induction l_ with
  | nil =>
    intro a
    exact ⟨Int.le_refl _, fun _ h => (nomatch h), .inl rfl⟩
  | cons b l ih =>
    intro a
    obtain ⟨h1, h2, h3⟩ := ih (max a b)
    refine ⟨?_, fun c hc => ?_, ?_⟩
    · show a ≤ l.foldl max (max a b)
      omega
    · show c ≤ l.foldl max (max a b)
      rcases List.mem_cons.mp hc with e | hc
      · subst e; omega
      · exact h2 c hc
    · show l.foldl max (max a b) = a ∨ l.foldl max (max a b) ∈ b :: l
      rcases h3 with e | e
      · rw [e]
        rcases Int.le_total a b with q | q
        · rw [Int.max_eq_right q]; exact .inr (List.mem_cons_self)
        · rw [Int.max_eq_left q]; exact .inl rfl
      · exact .inr (List.mem_cons_of_mem _ e)
theorem foldl_min_le : ∀ (l : List Int) (a : Int), l.foldl min a ≤ a ∧ (∀ b ∈ l, l.foldl min a ≤ b) ∧ (l.foldl min a = a ∨ l.foldl min a ∈ l) := by
  intro l_
  induction l_ with
  | nil =>
    intro a
    exact ⟨Int.le_refl _, fun _ h => (nomatch h), .inl rfl⟩
  | cons b l ih =>
    intro a
    obtain ⟨h1, h2, h3⟩ := ih (min a b)
    refine ⟨?_, fun c hc => ?_, ?_⟩
    · show l.foldl min (min a b) ≤ a
      omega
    · show l.foldl min (min a b) ≤ c
      rcases List.mem_cons.mp hc with e | hc
      · subst e; omega
      · exact h2 c hc
    · show l.foldl min (min a b) = a ∨ l.foldl min (min a b) ∈ b :: l
      rcases h3 with e | e
      · rw [e]
        rcases Int.le_total a b with q | q
        · rw [Int.min_eq_left q]; exact .inl rfl
        · rw [Int.min_eq_right q]; exact .inr (List.mem_cons_self)
      · exact .inr (List.mem_cons_of_mem _ e)
noncomputable def Great (us : List Int) (M : Int) : Prop := M ∈ us ∧ ∀ a ∈ us, a ≤ M
noncomputable def Least (us : List Int) (m : Int) : Prop := m ∈ us ∧ ∀ a ∈ us, m ≤ a
theorem great_eq {us : List Int} {M : Int} {L : Nat} (hL : 0 < L) (h : Great us M) : greatest (us.map fun v => frac v L) = frac M L := by
  cases us with
  | nil => exact nomatch h.1
  | cons a l =>
    show ((a :: l).map fun v => frac v L).foldl (fun a b => if le a b then b else a) (frac a L) = frac M L
    rw [foldl_great hL]
    obtain ⟨h1, h2, h3⟩ := foldl_max_ge (a :: l) a
    congr 1
    have q1 := h2 M h.1
    have q2 : (a :: l).foldl max a ≤ M := by
      rcases h3 with e | e
      · rw [e]; exact h.2 a List.mem_cons_self
      · exact h.2 _ e
    omega
theorem least_eq {us : List Int} {m : Int} {L : Nat} (hL : 0 < L) (h : Least us m) : least (us.map fun v => frac v L) = frac m L := by
  cases us with
  | nil => exact nomatch h.1
  | cons a l =>
    show ((a :: l).map fun v => frac v L).foldl (fun a b => if le b a then b else a) (frac a L) = frac m L
    rw [foldl_least hL]
    obtain ⟨h1, h2, h3⟩ := foldl_min_le (a :: l) a
    congr 1
    have q1 := h2 m h.1
    have q2 : m ≤ (a :: l).foldl min a := by
      rcases h3 with e | e
      · rw [e]; exact h.2 a List.mem_cons_self
      · exact h.2 _ e
    omega
theorem apart_eq {us : List Int} {M m : Int} {L : Nat} (hL : 0 < L) (h1 : Great us M) (h2 : Least us m) : apart (us.map fun v => frac v L) = frac (M - m) L := by
  unfold apart
  rw [great_eq hL h1, least_eq hL h2, sub_same hL]
end Fs

end

section
namespace Fs
open Kqp4
structure Ok (x : Land) (us : List Int) (k : Nat) : Prop where
  two : 2 ≤ x.fields
  four : x.fields ≤ 4
  flen : x.from_.length = x.fields * x.fields
  ulen : us.length = x.fields
  sums : ∀ i, i < x.fields → (cRow x i).sum = 100
  sh : x.shares = us.map fun v => frac v (100 ^ k)
theorem hun_pos (k : Nat) : 0 < 100 ^ k := Nat.pow_pos (by decide)
section
variable {x : Land} {us : List Int} {k : Nat}
theorem Ok.shareAt (h : Ok x us k) {i : Nat} {u : Int} (e : us[i]? = some u) : at_ x.shares i = frac u (100 ^ k) := by rw [h.sh]; exact at_map e
theorem Ok.after (h : Ok x us k) (n : Nat) : Kqp4.after x n x.shares = (gens (cRows x) n us).map fun v => frac v (100 ^ (k + n)) := by
  rw [h.sh, after_eq n (hun_pos k) h.ulen, Nat.pow_add, Nat.mul_comm]
theorem Ok.glen (h : Ok x us k) (n : Nat) : (gens (cRows x) n us).length = x.fields := by
  rw [gens_length _ _ (by rw [h.ulen, cRows_length]), cRows_length]
theorem Ok.afterAt (h : Ok x us k) (n : Nat) {i : Nat} {u : Int} (e : (gens (cRows x) n us)[i]? = some u) : at_ (Kqp4.after x n x.shares) i = frac u (100 ^ (k + n)) := by
  rw [h.after n]; exact at_map e
theorem Ok.apart (h : Ok x us k) (n : Nat) {M m : Int} (h1 : Great (gens (cRows x) n us) M) (h2 : Least (gens (cRows x) n us) m) :
    Kqp4.apart (Kqp4.after x n x.shares) = frac (M - m) (100 ^ (k + n)) := by
  rw [h.after n]; exact apart_eq (hun_pos _) h1 h2
theorem Ok.apart0 (h : Ok x us k) {M m : Int} (h1 : Great us M) (h2 : Least us m) : Kqp4.apart x.shares = frac (M - m) (100 ^ k) := by
  rw [h.sh]; exact apart_eq (hun_pos _) h1 h2
theorem Ok.next (h : Ok x us k) : Ok { x with shares := Kqp4.next x x.shares } (gstep (cRows x) us) (k + 1) := by
  refine ⟨h.two, h.four, h.flen, ?_, h.sums, ?_⟩
  · rw [gstep_length, cRows_length]
  · show Kqp4.next x x.shares = _
    rw [h.sh, next_eq (hun_pos k) h.ulen, Nat.pow_succ, Nat.mul_comm]
theorem Ok.shares (h : Ok x us k) {l : List Nat} (hl : l.length = x.fields) : Ok { x with shares := l.map fun (n : Nat) => frac n 100 } (l.map fun (n : Nat) => (n : Int)) 1 := by
  refine ⟨h.two, h.four, h.flen, ?_, h.sums, ?_⟩
  · rw [List.length_map]; exact hl
  · show l.map (fun (n : Nat) => frac n 100) = _
    rw [List.map_map, Nat.pow_one]
    rfl
theorem comes_le (h : Ok x us k) {i j : Nat} (hi : i < x.fields) (hj : j < x.fields) : comes x i j ≤ 100 := by
  have hs := h.sums i hi
  have hm : (comes x i j : Int) ∈ cRow x i := List.mem_of_getElem? (cRow_get hj)
  have key : ∀ (l : List Int) (a : Int), (∀ b ∈ l, 0 ≤ b) → a ∈ l → a ≤ l.sum := by
    intro l
    induction l with
    | nil => intro a _ h; exact nomatch h
    | cons c l ih =>
      intro a hn ha
      have hp : ∀ m : List Int, (∀ b ∈ m, 0 ≤ b) → 0 ≤ m.sum := by
        intro m
        induction m with
        | nil => intro _; exact Int.le_refl _
        | cons d m ihm =>
          intro q
          have := ihm fun b hb => q b (List.mem_cons_of_mem _ hb)
          have := q d List.mem_cons_self
          rw [List.sum_cons]; omega
      rw [List.sum_cons]
      have hc := hn c List.mem_cons_self
      have hl := hp l fun b hb => hn b (List.mem_cons_of_mem _ hb)
      rcases List.mem_cons.mp ha with e | ha
      · subst e; omega
      · have := ih a (fun b hb => hn b (List.mem_cons_of_mem _ hb)) ha
        omega
  have := key (cRow x i) _ (fun b hb => ?_) hm
  · omega
  · unfold cRow at hb
    obtain ⟨j', _, e⟩ := List.mem_map.mp hb
    rw [← e]; omega
theorem mem_from (h : Ok x us k) {a : Nat} (ha : a ∈ x.from_) : ∃ i j, i < x.fields ∧ j < x.fields ∧ comes x i j = a := by
  obtain ⟨p, hp, e⟩ := List.getElem_of_mem ha
  have hpos : 0 < x.fields := by have := h.two; omega
  have hl := h.flen
  refine ⟨p / x.fields, p % x.fields, ?_, Nat.mod_lt _ hpos, ?_⟩
  · rw [Nat.div_lt_iff_lt_mul hpos]; omega
  · unfold comes
    rw [Nat.mul_comm, Nat.div_add_mod, List.getD_eq_getElem?_getD, List.getElem?_eq_getElem hp]
    exact e
theorem comes_mem (h : Ok x us k) {i j : Nat} (hi : i < x.fields) (hj : j < x.fields) : comes x i j ∈ x.from_ := by
  have hl := h.flen
  have hp : i * x.fields + j < x.from_.length := by
    have : (i + 1) * x.fields ≤ x.fields * x.fields := Nat.mul_le_mul_right _ hi
    rw [Nat.add_mul, Nat.one_mul] at this
    omega
  unfold comes
  rw [List.getD_eq_getElem?_getD, List.getElem?_eq_getElem hp]
  exact List.getElem_mem hp
theorem foldl_minN : ∀ (l : List Nat) (a : Nat), l.foldl min a ≤ a ∧ (∀ b ∈ l, l.foldl min a ≤ b) ∧ (l.foldl min a = a ∨ l.foldl min a ∈ l) := by
  intro l_
  induction l_ with
  | nil =>
    intro a
    exact ⟨Nat.le_refl _, fun _ h => (nomatch h), .inl rfl⟩
  | cons b l ih =>
    intro a
    obtain ⟨h1, h2, h3⟩ := ih (min a b)
    refine ⟨?_, fun c hc => ?_, ?_⟩
    · show l.foldl min (min a b) ≤ a
      omega
    · show l.foldl min (min a b) ≤ c
      rcases List.mem_cons.mp hc with e | hc
      · subst e; omega
      · exact h2 c hc
    · show l.foldl min (min a b) = a ∨ l.foldl min (min a b) ∈ b :: l
      rcases h3 with e | e
      · rw [e]
        rcases Nat.le_total a b with q | q
        · rw [Nat.min_eq_left q]; exact .inl rfl
        · rw [Nat.min_eq_right q]; exact .inr (List.mem_cons_self)
      · exact .inr (List.mem_cons_of_mem _ e)
theorem Ok.fewest (h : Ok x us k) {m : Nat} (h1 : ∃ i j, i < x.fields ∧ j < x.fields ∧ comes x i j = m) (h2 : ∀ i j, i < x.fields → j < x.fields → m ≤ comes x i j) : Kqp4.fewest x = m := by
  obtain ⟨i, j, hi, hj, e⟩ := h1
  have hm : m ∈ x.from_ := by rw [← e]; exact comes_mem h hi hj
  have hle : m ≤ 100 := by rw [← e]; exact comes_le h hi hj
  obtain ⟨q1, q2, q3⟩ := foldl_minN x.from_ 100
  show x.from_.foldl min 100 = m
  have a1 := q2 m hm
  have a2 : m ≤ x.from_.foldl min 100 := by
    rcases q3 with e | e
    · omega
    · obtain ⟨i', j', hi', hj', e'⟩ := mem_from h e
      rw [← e']; exact h2 i' j' hi' hj'
  omega
theorem Ok.few100 (h : Ok x us k) : x.fields * Kqp4.fewest x ≤ 100 := by
  have hs := h.sums 0 (by have := h.two; omega)
  have hall : ∀ b ∈ cRow x 0, (Kqp4.fewest x : Int) ≤ b := fun b hb => by
    unfold cRow at hb
    obtain ⟨j, hj, e⟩ := List.mem_map.mp hb
    have := (foldl_minN x.from_ 100).2.1 _ (comes_mem h (show 0 < x.fields by have := h.two; omega) (List.mem_range.mp hj))
    rw [← e]
    have q : x.from_.foldl min 100 = Kqp4.fewest x := rfl
    omega
  have key : ∀ (l : List Int) (m : Int), (∀ b ∈ l, m ≤ b) → (l.length : Int) * m ≤ l.sum := by
    intro l m
    induction l with
    | nil => intro _; simp
    | cons c l ih =>
      intro q
      have := ih fun b hb => q b (List.mem_cons_of_mem _ hb)
      have := q c List.mem_cons_self
      rw [List.sum_cons, List.length_cons, Int.natCast_add, Int.add_mul]
      omega
  have := key _ _ hall
  rw [hs, cRow_length, ← Int.natCast_mul] at this
  omega
theorem Ok.bound (h : Ok x us k) {M m : Int} (h1 : Great us M) (h2 : Least us m) (n : Nat) :
    mul (Kqp4.bound x n) (Kqp4.apart x.shares) = frac ((M - m) * (100 - (x.fields : Int) * (Kqp4.fewest x : Int)) ^ n) (100 ^ (k + n)) := by
  have hf := h.few100
  unfold Kqp4.bound
  rw [power_frac (by decide), h.apart0 h1 h2, mul_frac (hun_pos n) (hun_pos k)]
  have e : ((100 - x.fields * Kqp4.fewest x : Nat) : Int) = 100 - (x.fields : Int) * (Kqp4.fewest x : Int) := by
    rw [Int.natCast_sub hf, Int.natCast_mul]
    rfl
  rw [e, Int.mul_comm, Nat.pow_add, Nat.mul_comm (100 ^ n)]
theorem ix_inj {n i j i' j' : Nat} (hj : j < n) (hj' : j' < n) (e : i * n + j = i' * n + j') : i = i' ∧ j = j' := by
  have h1 : (i * n + j) / n = i := by rw [Nat.mul_comm, Nat.mul_add_div (by omega), Nat.div_eq_of_lt hj, Nat.add_zero]
  have h2 : (i' * n + j') / n = i' := by rw [Nat.mul_comm, Nat.mul_add_div (by omega), Nat.div_eq_of_lt hj', Nat.add_zero]
  have : i = i' := by rw [← h1, ← h2, e]
  subst this
  exact ⟨rfl, by omega⟩
theorem comes_set {x : Land} {i j v : Nat} (hl : x.from_.length = x.fields * x.fields) (hi : i < x.fields) (hj : j < x.fields) {i' j' : Nat} (hj' : j' < x.fields) :
    comes { x with from_ := x.from_.set (i * x.fields + j) v } i' j' = if i' = i ∧ j' = j then v else comes x i' j' := by
  have hp : i * x.fields + j < x.from_.length := by
    have : (i + 1) * x.fields ≤ x.fields * x.fields := Nat.mul_le_mul_right _ hi
    rw [Nat.add_mul, Nat.one_mul] at this
    omega
  show (x.from_.set (i * x.fields + j) v).getD (i' * x.fields + j') 0 = _
  rw [List.getD_eq_getElem?_getD]
  by_cases e : i' = i ∧ j' = j
  · rw [if_pos e, e.1, e.2, List.getElem?_set_self hp]
    rfl
  · rw [if_neg e, List.getElem?_set_ne (fun q => e ?_)]
    · rw [← List.getD_eq_getElem?_getD]; rfl
    · obtain ⟨a, b⟩ := ix_inj hj hj' q
      exact ⟨a.symm, b.symm⟩
theorem cRow_set {x : Land} {i j v : Nat} (hl : x.from_.length = x.fields * x.fields) (hi : i < x.fields) (hj : j < x.fields) (i' : Nat) :
    cRow { x with from_ := x.from_.set (i * x.fields + j) v } i' = if i' = i then (cRow x i').set j (v : Int) else cRow x i' := by
  apply List.ext_getElem?
  intro j'
  by_cases hj' : j' < x.fields
  · rw [cRow_get (x := { x with from_ := x.from_.set (i * x.fields + j) v }) hj', comes_set hl hi hj hj']
    by_cases e : i' = i
    · rw [if_pos e]
      by_cases ej : j' = j
      · rw [if_pos ⟨e, ej⟩, ej, List.getElem?_set_self (by rw [cRow_length]; exact hj)]
      · rw [if_neg (fun q => ej q.2), List.getElem?_set_ne (fun q => ej q.symm), cRow_get hj']
    · rw [if_neg (fun q => e q.1), if_neg e, cRow_get hj']
  · have e1 : (cRow { x with from_ := x.from_.set (i * x.fields + j) v } i')[j']? = none := List.getElem?_eq_none_iff.mpr (by rw [cRow_length]; show x.fields ≤ j'; omega)
    rw [e1]
    split
    · exact (List.getElem?_eq_none_iff.mpr (by rw [List.length_set, cRow_length]; omega)).symm
    · exact (List.getElem?_eq_none_iff.mpr (by rw [cRow_length]; omega)).symm
theorem sum_set : ∀ (l : List Int) (j : Nat) (a b : Int), l[j]? = some a → (l.set j b).sum = l.sum - a + b
  | [], j, a, b, h => by simp at h
  | c :: l, 0, a, b, h => by
    have e : c = a := Option.some.inj h
    subst e
    show (b :: l).sum = _
    rw [List.sum_cons, List.sum_cons]; omega
  | c :: l, j + 1, a, b, h => by
    have h' : l[j]? = some a := h
    show (c :: l.set j b).sum = _
    rw [List.sum_cons, List.sum_cons, sum_set l j a b h']; omega
noncomputable def moved (x : Land) (i j k n : Nat) : Land := { x with from_ := (x.from_.set (i * x.fields + j) (comes x i j - n)).set (i * x.fields + k) (comes x i k + n) }
theorem cRow_moved (h : Ok x us k) {i j q n : Nat} (hi : i < x.fields) (hj : j < x.fields) (hq : q < x.fields) (hn : n ≤ comes x i j) (i' : Nat) :
    cRow (moved x i j q n) i' = if i' = i then ((cRow x i).set j ((comes x i j : Int) - n)).set q ((comes x i q : Int) + n) else cRow x i' := by
  have hl := h.flen
  have e1 := cRow_set (x := x) (i := i) (j := j) (v := comes x i j - n) hl hi hj i'
  have e2 := cRow_set (x := { x with from_ := x.from_.set (i * x.fields + j) (comes x i j - n) }) (i := i) (j := q) (v := comes x i q + n) (by simpa using hl) hi hq i'
  have e3 : cRow (moved x i j q n) i' = if i' = i then (cRow { x with from_ := x.from_.set (i * x.fields + j) (comes x i j - n) } i').set q ((comes x i q + n : Nat) : Int) else cRow { x with from_ := x.from_.set (i * x.fields + j) (comes x i j - n) } i' := e2
  rw [e3, e1]
  by_cases e : i' = i
  · subst e
    rw [if_pos rfl, if_pos rfl, if_pos rfl, Int.natCast_sub hn, Int.natCast_add]
  · rw [if_neg e, if_neg e, if_neg e]
theorem Ok.moved (h : Ok x us k) {i j q n : Nat} (hi : i < x.fields) (hj : j < x.fields) (hq : q < x.fields) (hjq : j ≠ q) (hn : n ≤ comes x i j) : Ok (moved x i j q n) us k := by
  refine ⟨h.two, h.four, ?_, h.ulen, fun i' hi' => ?_, h.sh⟩
  · show ((x.from_.set _ _).set _ _).length = _
    rw [List.length_set, List.length_set]; exact h.flen
  · have hi'' : i' < x.fields := hi'
    rw [cRow_moved h hi hj hq hn]
    by_cases e : i' = i
    · rw [if_pos e, sum_set _ _ (comes x i q : Int), sum_set _ _ (comes x i j : Int) _ (cRow_get hj), h.sums i hi]
      · omega
      · rw [List.getElem?_set_ne hjq]
        exact cRow_get hq
    · rw [if_neg e]; exact h.sums i' hi''
end
theorem sumN_cast : ∀ l : List Nat, ((sumN l : Nat) : Int) = (l.map fun (n : Nat) => (n : Int)).sum
  | [] => rfl
  | a :: l => by
    show ((a + sumN l : Nat) : Int) = _
    rw [List.map_cons, List.sum_cons, Int.natCast_add, sumN_cast l]
theorem root_cases {l : List Nat} (h : 2 ≤ root l) : (root l = 2 ∨ root l = 3 ∨ root l = 4) ∧ l.length = root l * root l := by
  unfold root at h ⊢
  by_cases h2 : l.length = 4
  · simp [List.find?, h2]
  · by_cases h3 : l.length = 9
    · simp [List.find?, h3]
    · by_cases h4 : l.length = 16
      · simp [List.find?, h4]
      · have e2 : (2 * 2 == l.length) = false := by simp; omega
        have e3 : (3 * 3 == l.length) = false := by simp; omega
        have e4 : (4 * 4 == l.length) = false := by simp; omega
        simp [List.find?, e2, e3, e4] at h
theorem root_of {l : List Nat} {n : Nat} (h : n = 2 ∨ n = 3 ∨ n = 4) (e : l.length = n * n) : root l = n := by
  unfold root
  rcases h with h | h | h <;> subst h <;> simp [List.find?, e]
noncomputable def started (l : List Nat) : Land := ⟨root l, l, List.replicate (root l) zero⟩
theorem started_row (l : List Nat) (i : Nat) : cRow (started l) i = ((List.range (root l)).map fun j => l.getD (i * root l + j) 0).map fun (n : Nat) => (n : Int) := by
  unfold cRow
  rw [List.map_map]
  rfl
theorem Ok.started {l : List Nat} (h : okFrom l = true) : Ok (started l) (List.replicate (root l) 0) 1 := by
  unfold okFrom at h
  rw [Bool.and_eq_true, List.all_eq_true] at h
  obtain ⟨h1, h2⟩ := h
  have hr : 2 ≤ root l := of_decide_eq_true h1
  obtain ⟨c, hl⟩ := root_cases hr
  refine ⟨hr, ?_, hl, ?_, fun i hi => ?_, ?_⟩
  · show root l ≤ 4
    omega
  · simp [Fs.started]
  · have hi' : i < root l := hi
    have := h2 i (List.mem_range.mpr hi')
    rw [started_row, ← sumN_cast, eq_of_beq this]
    rfl
  · show List.replicate (root l) zero = _
    rw [List.map_replicate, zero_frac (by decide)]
theorem okFrom_iff (l : List Nat) : okFrom l = true ↔ 2 ≤ root l ∧ ∀ i, i < root l → (cRow (started l) i).sum = 100 := by
  unfold okFrom
  rw [Bool.and_eq_true, List.all_eq_true]
  constructor
  · rintro ⟨h1, h2⟩
    refine ⟨of_decide_eq_true h1, fun i hi => ?_⟩
    rw [started_row, ← sumN_cast, eq_of_beq (h2 i (List.mem_range.mpr hi))]
    rfl
  · rintro ⟨h1, h2⟩
    refine ⟨decide_eq_true h1, fun i hi => ?_⟩
    have := h2 i (List.mem_range.mp hi)
    rw [started_row, ← sumN_cast] at this
    exact beq_iff_eq.mpr (by omega)
end Fs

end

section
namespace Fs
open PyFlat
noncomputable def numOf (c : List (List Int)) : Int := (c.headD []).headD 0
noncomputable def toldOf (c : List (List Int)) : List Int := (c.headD []).tail ++ c.tail.flatten
theorem put_append : ∀ a b : List (List (List Int)), put (a ++ b) = put a ++ put b
  | [], _ => rfl
  | c :: a, b => by
    show put1 c ++ put (a ++ b) = (put1 c ++ put a) ++ put b
    rw [put_append a b, List.append_assoc]
theorem put_split {cs : List (List (List Int))} {i : Nat} {c : List (List Int)} (h : cs[i]? = some c) : put cs = put (cs.take i) ++ (put1 c ++ put (cs.drop (i + 1))) := by
  obtain ⟨hi, e⟩ := List.getElem?_eq_some_iff.mp h
  have : cs = cs.take i ++ (c :: cs.drop (i + 1)) := by
    conv => lhs; rw [← List.take_append_drop i cs]
    rw [List.drop_eq_getElem_cons hi, e]
  conv => lhs; rw [this]
  rw [put_append]
  rfl
theorem put_next {cs : List (List (List Int))} {i : Nat} {c : List (List Int)} (h : cs[i]? = some c) : (put (cs.take (i + 1))).length = (put (cs.take i)).length + (put1 c).length := by
  obtain ⟨hi, e⟩ := List.getElem?_eq_some_iff.mp h
  rw [List.take_add_one, h, put_append, List.length_append]
  show _ + (put1 c ++ []).length = _
  rw [List.append_nil]
inductive RowP : Int → Prop
  | c0 : RowP 0
  | c1 : RowP 1
  | c12 : RowP 12
  | c13 : RowP 13
inductive Plain : Int → Nat → Prop
  | c2 : Plain 2 4
  | c3 : Plain 3 1
  | c4 : Plain 4 0
  | c5 : Plain 5 2
  | c6 : Plain 6 1
  | c7 : Plain 7 1
  | c8 : Plain 8 0
  | c9 : Plain 9 3
  | c10 : Plain 10 2
  | c11 : Plain 11 0
  | c14 : Plain 14 2
  | c15 : Plain 15 3
  | c16 : Plain 16 1
  | c17 : Plain 17 1
  | c18 : Plain 18 1
  | c19 : Plain 19 0
theorem shp {q : Int} {n k a b : Nat} (e : PyKqp4.shape q = some (a, b)) (h : PyKqp4.shape q = some (n, k)) : n = a ∧ k = b := by
  rw [e] at h
  cases h
  exact ⟨rfl, rfl⟩
theorem shp0 {p : Int} {n k : Nat} (e : p = 0) (h : PyKqp4.shape p = some (n, k)) : (RowP p ∧ n = 0 ∧ k = 1) ∨ (Plain p n ∧ k = 0) := by
  subst e
  exact .inl ⟨.c0, shp rfl h⟩
theorem shp1 {p : Int} {n k : Nat} (e : p = 1) (h : PyKqp4.shape p = some (n, k)) : (RowP p ∧ n = 0 ∧ k = 1) ∨ (Plain p n ∧ k = 0) := by
  subst e
  exact .inl ⟨.c1, shp rfl h⟩
theorem shp2 {p : Int} {n k : Nat} (e : p = 2) (h : PyKqp4.shape p = some (n, k)) : (RowP p ∧ n = 0 ∧ k = 1) ∨ (Plain p n ∧ k = 0) := by
  subst e
  obtain ⟨rfl, rfl⟩ := shp (a := 4) (b := 0) rfl h
  exact .inr ⟨.c2, rfl⟩
theorem shp3 {p : Int} {n k : Nat} (e : p = 3) (h : PyKqp4.shape p = some (n, k)) : (RowP p ∧ n = 0 ∧ k = 1) ∨ (Plain p n ∧ k = 0) := by
  subst e
  obtain ⟨rfl, rfl⟩ := shp (a := 1) (b := 0) rfl h
  exact .inr ⟨.c3, rfl⟩
theorem shp4 {p : Int} {n k : Nat} (e : p = 4) (h : PyKqp4.shape p = some (n, k)) : (RowP p ∧ n = 0 ∧ k = 1) ∨ (Plain p n ∧ k = 0) := by
  subst e
  obtain ⟨rfl, rfl⟩ := shp (a := 0) (b := 0) rfl h
  exact .inr ⟨.c4, rfl⟩
theorem shp5 {p : Int} {n k : Nat} (e : p = 5) (h : PyKqp4.shape p = some (n, k)) : (RowP p ∧ n = 0 ∧ k = 1) ∨ (Plain p n ∧ k = 0) := by
  subst e
  obtain ⟨rfl, rfl⟩ := shp (a := 2) (b := 0) rfl h
  exact .inr ⟨.c5, rfl⟩
theorem shp6 {p : Int} {n k : Nat} (e : p = 6) (h : PyKqp4.shape p = some (n, k)) : (RowP p ∧ n = 0 ∧ k = 1) ∨ (Plain p n ∧ k = 0) := by
  subst e
  obtain ⟨rfl, rfl⟩ := shp (a := 1) (b := 0) rfl h
  exact .inr ⟨.c6, rfl⟩
theorem shp7 {p : Int} {n k : Nat} (e : p = 7) (h : PyKqp4.shape p = some (n, k)) : (RowP p ∧ n = 0 ∧ k = 1) ∨ (Plain p n ∧ k = 0) := by
  subst e
  obtain ⟨rfl, rfl⟩ := shp (a := 1) (b := 0) rfl h
  exact .inr ⟨.c7, rfl⟩
theorem shp8 {p : Int} {n k : Nat} (e : p = 8) (h : PyKqp4.shape p = some (n, k)) : (RowP p ∧ n = 0 ∧ k = 1) ∨ (Plain p n ∧ k = 0) := by
  subst e
  obtain ⟨rfl, rfl⟩ := shp (a := 0) (b := 0) rfl h
  exact .inr ⟨.c8, rfl⟩
theorem shp9 {p : Int} {n k : Nat} (e : p = 9) (h : PyKqp4.shape p = some (n, k)) : (RowP p ∧ n = 0 ∧ k = 1) ∨ (Plain p n ∧ k = 0) := by
  subst e
  obtain ⟨rfl, rfl⟩ := shp (a := 3) (b := 0) rfl h
  exact .inr ⟨.c9, rfl⟩
theorem shp10 {p : Int} {n k : Nat} (e : p = 10) (h : PyKqp4.shape p = some (n, k)) : (RowP p ∧ n = 0 ∧ k = 1) ∨ (Plain p n ∧ k = 0) := by
  subst e
  obtain ⟨rfl, rfl⟩ := shp (a := 2) (b := 0) rfl h
  exact .inr ⟨.c10, rfl⟩
theorem shp11 {p : Int} {n k : Nat} (e : p = 11) (h : PyKqp4.shape p = some (n, k)) : (RowP p ∧ n = 0 ∧ k = 1) ∨ (Plain p n ∧ k = 0) := by
  subst e
  obtain ⟨rfl, rfl⟩ := shp (a := 0) (b := 0) rfl h
  exact .inr ⟨.c11, rfl⟩
theorem shp12 {p : Int} {n k : Nat} (e : p = 12) (h : PyKqp4.shape p = some (n, k)) : (RowP p ∧ n = 0 ∧ k = 1) ∨ (Plain p n ∧ k = 0) := by
  subst e
  exact .inl ⟨.c12, shp rfl h⟩
theorem shp13 {p : Int} {n k : Nat} (e : p = 13) (h : PyKqp4.shape p = some (n, k)) : (RowP p ∧ n = 0 ∧ k = 1) ∨ (Plain p n ∧ k = 0) := by
  subst e
  exact .inl ⟨.c13, shp rfl h⟩
theorem shp14 {p : Int} {n k : Nat} (e : p = 14) (h : PyKqp4.shape p = some (n, k)) : (RowP p ∧ n = 0 ∧ k = 1) ∨ (Plain p n ∧ k = 0) := by
  subst e
  obtain ⟨rfl, rfl⟩ := shp (a := 2) (b := 0) rfl h
  exact .inr ⟨.c14, rfl⟩
theorem shp15 {p : Int} {n k : Nat} (e : p = 15) (h : PyKqp4.shape p = some (n, k)) : (RowP p ∧ n = 0 ∧ k = 1) ∨ (Plain p n ∧ k = 0) := by
  subst e
  obtain ⟨rfl, rfl⟩ := shp (a := 3) (b := 0) rfl h
  exact .inr ⟨.c15, rfl⟩
theorem shp16 {p : Int} {n k : Nat} (e : p = 16) (h : PyKqp4.shape p = some (n, k)) : (RowP p ∧ n = 0 ∧ k = 1) ∨ (Plain p n ∧ k = 0) := by
  subst e
  obtain ⟨rfl, rfl⟩ := shp (a := 1) (b := 0) rfl h
  exact .inr ⟨.c16, rfl⟩
theorem shp17 {p : Int} {n k : Nat} (e : p = 17) (h : PyKqp4.shape p = some (n, k)) : (RowP p ∧ n = 0 ∧ k = 1) ∨ (Plain p n ∧ k = 0) := by
  subst e
  obtain ⟨rfl, rfl⟩ := shp (a := 1) (b := 0) rfl h
  exact .inr ⟨.c17, rfl⟩
theorem shp18 {p : Int} {n k : Nat} (e : p = 18) (h : PyKqp4.shape p = some (n, k)) : (RowP p ∧ n = 0 ∧ k = 1) ∨ (Plain p n ∧ k = 0) := by
  subst e
  obtain ⟨rfl, rfl⟩ := shp (a := 1) (b := 0) rfl h
  exact .inr ⟨.c18, rfl⟩
theorem shp19 {p : Int} {n k : Nat} (e : p = 19) (h : PyKqp4.shape p = some (n, k)) : (RowP p ∧ n = 0 ∧ k = 1) ∨ (Plain p n ∧ k = 0) := by
  subst e
  obtain ⟨rfl, rfl⟩ := shp (a := 0) (b := 0) rfl h
  exact .inr ⟨.c19, rfl⟩
theorem shape_cases {p : Int} {n k : Nat} (h : PyKqp4.shape p = some (n, k)) : (RowP p ∧ n = 0 ∧ k = 1) ∨ (Plain p n ∧ k = 0) :=
  if h0 : p = 0 then shp0 h0 h else
  if h1 : p = 1 then shp1 h1 h else
  if h2 : p = 2 then shp2 h2 h else
  if h3 : p = 3 then shp3 h3 h else
  if h4 : p = 4 then shp4 h4 h else
  if h5 : p = 5 then shp5 h5 h else
  if h6 : p = 6 then shp6 h6 h else
  if h7 : p = 7 then shp7 h7 h else
  if h8 : p = 8 then shp8 h8 h else
  if h9 : p = 9 then shp9 h9 h else
  if h10 : p = 10 then shp10 h10 h else
  if h11 : p = 11 then shp11 h11 h else
  if h12 : p = 12 then shp12 h12 h else
  if h13 : p = 13 then shp13 h13 h else
  if h14 : p = 14 then shp14 h14 h else
  if h15 : p = 15 then shp15 h15 h else
  if h16 : p = 16 then shp16 h16 h else
  if h17 : p = 17 then shp17 h17 h else
  if h18 : p = 18 then shp18 h18 h else
  if h19 : p = 19 then shp19 h19 h else
  by
    unfold PyKqp4.shape at h
    rw [if_neg h0, if_neg h1, if_neg h2, if_neg h3, if_neg h4, if_neg h5, if_neg h6, if_neg h7, if_neg h8, if_neg h9, if_neg h10, if_neg h11, if_neg h12, if_neg h13, if_neg h14, if_neg h15, if_neg h16, if_neg h17, if_neg h18, if_neg h19] at h
    cases h
theorem call_raw {c : List (List Int)} (h : okCall PyKqp4.shape c) : (∃ p r, c = [[p], r] ∧ RowP p) ∨ (∃ p a n, c = [p :: a] ∧ Plain p n ∧ a.length = n) := by
  obtain ⟨p, a, xs, rfl, hs⟩ := h
  rcases shape_cases hs with ⟨hp, hn, hk⟩ | ⟨hp, hk⟩
  · obtain ⟨r, rfl⟩ := List.length_eq_one_iff.mp hk
    have ha : a = [] := List.length_eq_zero_iff.mp hn
    subst ha
    exact .inl ⟨p, r, rfl, hp⟩
  · have hx : xs = [] := List.length_eq_zero_iff.mp hk
    subst hx
    exact .inr ⟨p, a, _, rfl, hp, rfl⟩
theorem lall_0 {α : Type} {p : List α → Prop} (h : p []) (us : List α) (e : us.length = 0) : p us := by
  rw [List.length_eq_zero_iff.mp e]
  exact h
theorem lall_s {α : Type} {p : List α → Prop} {n : Nat} (h : ∀ a, ∀ us : List α, us.length = n → p (a :: us)) (us : List α) (e : us.length = n + 1) : p us := by
  cases us with
  | nil => cases e
  | cons a us => exact h a us (Nat.succ.inj e)
theorem put1_row (p : Int) (r : List Int) : put1 [[p], r] = p :: (r.length : Int) :: r := by
  show [p] ++ (putRow r ++ []) = _
  rw [List.append_nil]
  rfl
theorem put1_plain (p : Int) (a : List Int) : put1 [p :: a] = p :: a := by
  show (p :: a) ++ [] = _
  rw [List.append_nil]
theorem get_at {α : Type} (A B : List α) (j : Nat) : (A ++ B)[A.length + j]? = B[j]? := by
  rw [List.getElem?_append_right (by omega)]
  congr 1
  omega
theorem calls_of {l : List Int} {raw : List (List (List Int))} (h : calls PyKqp4.shape l.length l = some raw) : l = put raw ∧ ∀ c ∈ raw, okCall PyKqp4.shape c := put_calls _ _ _ h
theorem told_row (p : Int) (r : List Int) : toldOf [[p], r] = r := by unfold toldOf; simp
theorem told_plain (p : Int) (a : List Int) : toldOf [p :: a] = a := by unfold toldOf; simp
inductive Form (c : List (List Int)) : Prop
  | row (p : Int) (r : List Int) (e : put1 c = p :: (r.length : Int) :: r) (en : numOf c = p) (et : toldOf c = r) (hp : RowP p) : Form c
  | plain (p : Int) (a : List Int) (n : Nat) (e : put1 c = p :: a) (en : numOf c = p) (et : toldOf c = a) (hp : Plain p n) (hl : a.length = n) : Form c
theorem call_forms {c : List (List Int)} (h : okCall PyKqp4.shape c) : Form c := by
  rcases call_raw h with ⟨p, r, rfl, hp⟩ | ⟨p, a, n, rfl, hp, hl⟩
  · exact .row p r (put1_row p r) rfl (told_row p r) hp
  · exact .plain p a n (put1_plain p a) rfl (told_plain p a) hp hl
end Fs

end

section
namespace Fs
open Kqp4
theorem lt_zero {v : Int} {d : Nat} (hd : 0 < d) : lt zero (frac v d) = decide (0 < v) := by
  have e : zero = frac 0 1 := (zero_frac (by decide)).symm
  rw [e, lt_frac (by decide) hd]
  refine decide_eq_decide.mpr ?_
  rw [Int.zero_mul]
  show 0 < v * 1 ↔ _
  omega
noncomputable def foreN (x : Land) (n i j : Nat) : Int := (gens (cRows x) n (unit x.fields j)).getD i 0
theorem foreN_get (x : Land) (n i j : Nat) (hi : i < x.fields) : (gens (cRows x) n (unit x.fields j))[i]? = some (foreN x n i j) := by
  have hl : (gens (cRows x) n (unit x.fields j)).length = x.fields := by
    rw [gens_length _ _ (by rw [unit_length, cRows_length]), cRows_length]
  unfold foreN
  rw [List.getD_eq_getElem?_getD, List.getElem?_eq_getElem (by omega)]
  rfl
theorem fore_pos (x : Land) (n i j : Nat) (hi : i < x.fields) : lt zero (forebears x n i j) = decide (0 < foreN x n i j) := by
  rw [fore_eq n i hi _ (foreN_get x n i j hi), lt_zero (hun_pos n)]
theorem reach_eq (x : Land) (i j : Nat) (hi : i < x.fields) : reach x i j 4 = (List.range 5).find? fun n => decide (0 < foreN x n i j) := by
  unfold reach
  congr 1
  funext n
  exact fore_pos x n i j hi
theorem all_congr {α : Type} {l : List α} {p q : α → Bool} (h : ∀ a ∈ l, p a = q a) : l.all p = l.all q := by
  induction l with
  | nil => rfl
  | cons a l ih => rw [List.all_cons, List.all_cons, h a List.mem_cons_self, ih fun b hb => h b (List.mem_cons_of_mem _ hb)]
theorem mixed_eq (x : Land) : mixed x 4 = (List.range 5).find? fun n => (List.range x.fields).all fun i => (List.range x.fields).all fun j => decide (0 < foreN x n i j) := by
  unfold mixed
  congr 1
  funext n
  refine all_congr fun i hi => all_congr fun j _ => ?_
  exact fore_pos x n i j (List.mem_range.mp hi)
theorem keeps_eq (x : Land) (v : List Nat) : keeps x v = (List.range x.fields).all fun j => decide ((((List.range x.fields).map fun i => ((v.getD i 0 : Nat) : Int) * (comes x i j : Int)).sum) = 100 * ((v.getD j 0 : Nat) : Int)) := by
  unfold keeps
  congr 1
  funext j
  have e := sumN_cast ((List.range x.fields).map fun i => v.getD i 0 * comes x i j)
  rw [List.map_map] at e
  have e2 : ((List.range x.fields).map ((fun (n : Nat) => (n : Int)) ∘ fun i => v.getD i 0 * comes x i j)) = (List.range x.fields).map fun i => ((v.getD i 0 : Nat) : Int) * (comes x i j : Int) := by
    refine List.map_congr_left fun i _ => ?_
    show ((v.getD i 0 * comes x i j : Nat) : Int) = _
    rw [Int.natCast_mul]
  rw [e2] at e
  rw [← e, Bool.eq_iff_iff, beq_iff_eq, decide_eq_true_iff]
  omega
theorem one_of (v : Nat) : (⟨(v : Int), 1⟩ : Frac) = frac v 1 := (frac_self (p := ⟨(v : Int), 1⟩) ⟨by show 0 < 1; decide, by show Nat.gcd _ 1 = 1; exact Nat.gcd_one_right _⟩).symm
theorem weighed_eq {x : Land} {us : List Int} {k : Nat} (ok : Ok x us k) {v : List Nat} (hv : v.length = x.fields) : weighed v x.shares = frac (dot (v.map fun (n : Nat) => (n : Int)) us) (100 ^ k) := by
  have hl : x.shares.length = x.fields := by rw [ok.sh, List.length_map, ok.ulen]
  unfold weighed
  rw [hl]
  have e : ((List.range x.fields).map fun i => mul ⟨((v.getD i 0 : Nat) : Int), 1⟩ (at_ x.shares i)) = (List.zipWith (fun a b => a * b) (v.map fun (n : Nat) => (n : Int)) us).map fun n => frac n (100 ^ k) := by
    rw [List.map_zipWith]
    refine zip_range _ (by rw [List.length_map]; exact hv) ok.ulen _ fun j a b ha hb => ?_
    rw [ok.shareAt hb, one_of, mul_frac (by decide) (hun_pos k), Nat.one_mul]
    rw [List.getElem?_map] at ha
    cases q : v[j]? with
    | none => rw [q] at ha; cases ha
    | some n =>
      rw [q] at ha
      have ha' : (n : Int) = a := Option.some.inj ha
      rw [List.getD_eq_getElem?_getD, q, ← ha']
      rfl
  rw [e, total_same (hun_pos k)]
  rfl
theorem rest_eq {x : Land} {us : List Int} {k : Nat} (ok : Ok x us k) {u0 u1 : Int} (h0 : us[0]? = some u0) (h1 : us[1]? = some u1) (a b : Nat) :
    rest a b (at_ x.shares 0) (at_ x.shares 1) = if a + b = 0 then frac u0 (100 ^ k) else frac ((b : Int) * u0 + (a : Int) * u1) ((a + b) * 100 ^ k) := by
  unfold rest
  rw [ok.shareAt h0, ok.shareAt h1]
  by_cases h : a + b = 0
  · rw [if_pos h, if_pos h]
  · have hp : 0 < a + b := by omega
    rw [if_neg h, if_neg h, mul_frac hp (hun_pos k), mul_frac hp (hun_pos k), add_same (Nat.mul_pos hp (hun_pos k))]
theorem pair_rows (a b : Nat) (ha : a ≤ 100) (hb : b ≤ 100) : cRows (pair a b) = [[100 - (a : Int), a], [b, 100 - (b : Int)]] := by
  have e1 : ((100 - a : Nat) : Int) = 100 - (a : Int) := by omega
  have e2 : ((100 - b : Nat) : Int) = 100 - (b : Int) := by omega
  show [[((100 - a : Nat) : Int), (a : Int)], [(b : Int), ((100 - b : Nat) : Int)]] = _
  rw [e1, e2]
theorem pair_after {x : Land} {us : List Int} {k : Nat} (ok : Ok x us k) {u0 u1 : Int} (h0 : us[0]? = some u0) (h1 : us[1]? = some u1) (a b n : Nat) :
    after (pair a b) n [at_ x.shares 0, at_ x.shares 1] = (gens (cRows (pair a b)) n [u0, u1]).map fun v => frac v (100 ^ (k + n)) := by
  rw [ok.shareAt h0, ok.shareAt h1]
  have := after_eq (x := pair a b) n (us := [u0, u1]) (L := 100 ^ k) (hun_pos k) rfl
  rw [Nat.pow_add, Nat.mul_comm]
  exact this
theorem first_eq {x : Land} {us : List Int} {k : Nat} (ok : Ok x us k) (n : Nat) {i : Nat} {M : Int} (hM : Great (gens (cRows x) n us) M) (hi : (gens (cRows x) n us)[i]? = some M) (hlt : ∀ (j : Nat) (v : Int), j < i → (gens (cRows x) n us)[j]? = some v → v < M) :
    ((List.range x.fields).find? fun i => (List.range x.fields).all fun j => le (at_ (after x n x.shares) j) (at_ (after x n x.shares) i)).getD 0 = i := by
  have hl := ok.glen n
  have get : ∀ j, j < x.fields → ∃ v, (gens (cRows x) n us)[j]? = some v := fun j hj => ⟨_, List.getElem?_eq_getElem (by omega)⟩
  have hif : i < x.fields := by
    have := (List.getElem?_eq_some_iff.mp hi).1
    omega
  have key : (List.range x.fields).find? (fun i => (List.range x.fields).all fun j => le (at_ (after x n x.shares) j) (at_ (after x n x.shares) i)) = some i := by
    rw [List.find?_range_eq_some]
    refine ⟨?_, List.mem_range.mpr hif, fun j hj => ?_⟩
    · rw [List.all_eq_true]
      intro j hj
      obtain ⟨v, hv⟩ := get j (List.mem_range.mp hj)
      rw [ok.afterAt n hv, ok.afterAt n hi, le_same (hun_pos _)]
      exact decide_eq_true (hM.2 v (List.mem_of_getElem? hv))
    · obtain ⟨v, hv⟩ := get j (by omega)
      have hvM := hlt j v hj hv
      cases q : ((List.range x.fields).all fun j' => le (at_ (after x n x.shares) j') (at_ (after x n x.shares) j)) with
      | false => rfl
      | true =>
        have := List.all_eq_true.mp q i (List.mem_range.mpr hif)
        rw [ok.afterAt n hv, ok.afterAt n hi, le_same (hun_pos _)] at this
        have := of_decide_eq_true this
        omega
  rw [key]
  rfl
end Fs

end

section
set_option Elab.async false
set_option linter.all false
set_option maxRecDepth 100000
namespace L2
open PySem PySem.Spec PyProof.Rows
section
variable {X : Cx}
noncomputable def CDivB (i j : Int) : Prop := 0 < j ∧ j.natAbs.log2 < 9000
theorem op_fdivB : OpR X (binaryOp .FloorDiv) (rI CDivB fun i j => .int (i / j)) := opI fun i j _ _ _ _ _ hc q => by
  have h1 : (0 : Int) < j := hc.1
  exact floordiv_int (by omega) (by rw [Int.fdiv_eq_ediv_of_nonneg i (by omega)]; exact q) (.inl (PyProof.noPylong_of_log2 hc.2))
theorem ints_items {X : Cx} {pins : List (Addr × Obj)} {σ : St} {H : Hp} {s : Shared} {p : Addr} {ns : List Int} (I : Inv X pins σ H s) (hq : SqL X.K H p (ns.map V.int)) :
    ∃ ys : Array (Int × Tok), s.heap.IsList p (intItems ys) ∧ ns = ys.toList.map (·.1) := by
  obtain ⟨its, r', pl, hz⟩ := I.list hq
  have hi := intsAre_of r'
  obtain ⟨ys, e⟩ := hi.allInts.items
  refine ⟨ys, by rw [← e]; exact pl.isList, ?_⟩
  have := nums_intItems ys
  rw [← e, show its.toArray.toList = its from rfl, hi.numsOf] at this
  exact this
inductive rSumI (K : PySem.W.Frag) (xs : List V) (H : Hp) (Q : VK) : Prop
  | mk (p : Addr) (ns : List Int) (e : xs = [.ref p]) (s : SqL K H p (ns.map V.int)) (q : Q (.int ns.sum) H) : rSumI K xs H Q
theorem call_sumI (hc : X.calm = true) : CallR X (.builtin "sum") (rSumI X.K) := by
  intro pins s σ H xs us Q I r h
  obtain ⟨p, ns, rfl, hq, q⟩ := h
  obtain ⟨u, rfl, rx⟩ := vals1 r
  cases rx
  obtain ⟨ys, hl, en⟩ := ints_items I hq
  refine sum_intListG (I.ok.hd hc) hl fun h' tk t' k => ⟨.int ns.sum, H, I.kept k, ⟨t', ?_⟩, q⟩
  rw [preSum_eq, List.take_of_length_le (by simp), ← en]
inductive rMaxI (K : PySem.W.Frag) (xs : List V) (H : Hp) (Q : VK) : Prop
  | mk (p : Addr) (ns : List Int) (e : xs = [.ref p]) (s : SqL K H p (ns.map V.int)) (n : ns ≠ []) (q : ∀ M, M ∈ ns → (∀ a, a ∈ ns → a ≤ M) → Q (.int M) H) : rMaxI K xs H Q
theorem call_maxI (hc : X.calm = true) : CallR X (.builtin "max") (rMaxI X.K) := by
  intro pins s σ H xs us Q I r h
  obtain ⟨p, ns, rfl, hq, hne, q⟩ := h
  obtain ⟨u, rfl, rx⟩ := vals1 r
  cases rx
  obtain ⟨ys, hl, en⟩ := ints_items I hq
  have hsz : 0 < ys.size := by
    cases ns with
    | nil => exact absurd rfl hne
    | cons a l =>
      have := congrArg List.length en
      simp at this
      omega
  refine max_intList (I.ok.hd hc) hl hsz fun v h' tk hv k => ?_
  obtain ⟨t, rfl⟩ := intItems_at hv
  obtain ⟨h1, h2⟩ := argBest_gt (numAt ys) (ys.size - 1)
  refine ⟨.int _, H, I.kept k, ⟨t, rfl⟩, q _ ?_ fun a ha => ?_⟩
  · rw [numAt_eq, ← en]
    exact getD_mem (by rw [en, List.length_map, Array.length_toList]; omega)
  · obtain ⟨j, hj, rfl⟩ := mem_getD ha
    rw [en, List.length_map, Array.length_toList] at hj
    rw [en, ← numAt_eq]
    exact h2 j (by omega)
inductive rMinI (K : PySem.W.Frag) (xs : List V) (H : Hp) (Q : VK) : Prop
  | mk (p : Addr) (ns : List Int) (e : xs = [.ref p]) (s : SqL K H p (ns.map V.int)) (n : ns ≠ []) (q : ∀ M, M ∈ ns → (∀ a, a ∈ ns → M ≤ a) → Q (.int M) H) : rMinI K xs H Q
theorem call_minI (hc : X.calm = true) : CallR X (.builtin "min") (rMinI X.K) := by
  intro pins s σ H xs us Q I r h
  obtain ⟨p, ns, rfl, hq, hne, q⟩ := h
  obtain ⟨u, rfl, rx⟩ := vals1 r
  cases rx
  obtain ⟨ys, hl, en⟩ := ints_items I hq
  have hsz : 0 < ys.size := by
    cases ns with
    | nil => exact absurd rfl hne
    | cons a l =>
      have := congrArg List.length en
      simp at this
      omega
  refine min_intList (I.ok.hd hc) hl hsz fun v h' tk hv k => ?_
  obtain ⟨t, rfl⟩ := intItems_at hv
  obtain ⟨h1, h2⟩ := argBest_lt (numAt ys) (ys.size - 1)
  refine ⟨.int _, H, I.kept k, ⟨t, rfl⟩, q _ ?_ fun a ha => ?_⟩
  · rw [numAt_eq, ← en]
    exact getD_mem (by rw [en, List.length_map, Array.length_toList]; omega)
  · obtain ⟨j, hj, rfl⟩ := mem_getD ha
    rw [en, List.length_map, Array.length_toList] at hj
    rw [en, ← numAt_eq]
    exact h2 j (by omega)
theorem vals_bl : ∀ {bs : List Bool} {us : List Value}, Vals (bs.map V.bl) us → us = bs.map Value.bool
  | [], _, r => by
    cases r
    rfl
  | b :: bs, _, r => by
    cases r with
    | cons r1 r2 =>
      have e : _ = Value.bool b := r1
      subst e
      rw [vals_bl r2]
      rfl
theorem range_all (bs : List Bool) : (List.range bs.length).all (fun i => bs.getD i false) = bs.all id := by
  rw [Bool.eq_iff_iff, List.all_eq_true, List.all_eq_true]
  constructor
  · intro h b hb
    obtain ⟨i, hi, e⟩ := List.getElem_of_mem hb
    have := h i (List.mem_range.mpr hi)
    rw [List.getD_eq_getElem?_getD, List.getElem?_eq_getElem hi] at this
    rw [← e]
    exact this
  · intro h i hi
    have hi' := List.mem_range.mp hi
    rw [List.getD_eq_getElem?_getD, List.getElem?_eq_getElem hi']
    exact h _ (List.getElem_mem hi')
theorem range_any (bs : List Bool) : (List.range bs.length).any (fun i => bs.getD i false) = bs.any id := by
  rw [Bool.eq_iff_iff, List.any_eq_true, List.any_eq_true]
  constructor
  · rintro ⟨i, hi, h⟩
    have hi' := List.mem_range.mp hi
    rw [List.getD_eq_getElem?_getD, List.getElem?_eq_getElem hi'] at h
    exact ⟨_, List.getElem_mem hi', h⟩
  · rintro ⟨b, hb, h⟩
    obtain ⟨i, hi, e⟩ := List.getElem_of_mem hb
    refine ⟨i, List.mem_range.mpr hi, ?_⟩
    rw [List.getD_eq_getElem?_getD, List.getElem?_eq_getElem hi, Option.getD_some, e]
    exact h
theorem iter_anyL {prog : Program} {w : World} {A : Around} {E : Value → Shared → Prop} {s : Shared} {l : Addr} {its : Array Value} {Q : Value → Shared → Prop} (hl : s.heap.IsList l its)
    (h : ∀ s2 : Shared, s2 = { s with heap := s.heap.push { cls := .type "list_iterator", data := .fields #[.ref l, .int 0 0] } } →
      (s2.heap.IsListIter s.heap.objs.size l 0 ∧ s2.heap.IsList l its) → l ≠ s.heap.objs.size → Q (.ref s.heap.objs.size) s2) :
    wpAny (model prog w) A (pyIter (.ref l)) Q E s := by
  have hlt : l < s.heap.objs.size := by obtain ⟨_, e, _⟩ := hl; exact Heap.lt_size e
  exact wpAny_pyIter_list hl (h _ rfl ⟨⟨_, Heap.get?_push_size _ rfl, rfl, rfl⟩, hl.push _⟩ (Nat.ne_of_lt hlt))
theorem bools_truth {prog : Program} {w : World} {A : Around} {bs : List Bool} : TruthOf prog w A (fun i v => (bs.map Value.bool).toArray[i]? = some v) (fun i => bs.getD i false) := by
  intro i v s Q E hP hQ
  have e : (bs.map Value.bool)[i]? = some v := by simpa using hP
  rw [List.getElem?_map] at e
  cases q : bs[i]? with
  | none => rw [q] at e; cases e
  | some b =>
    rw [q] at e
    have e2 : Value.bool b = v := Option.some.inj e
    subst e2
    have hQ : Q (bs.getD i false) s := hQ
    rw [List.getD_eq_getElem?_getD, q] at hQ
    exact wpAny_truthy_bool hQ
inductive rAllB (K : PySem.W.Frag) (xs : List V) (H : Hp) (Q : VK) : Prop
  | mk (p : Addr) (bs : List Bool) (e : xs = [.ref p]) (s : SqL K H p (bs.map V.bl)) (q : Q (.bl (bs.all id)) H) : rAllB K xs H Q
theorem call_allB (hc : X.calm = true) : CallR X (.builtin "all") (rAllB X.K) := by
  intro pins s σ H xs us Q I r h
  obtain ⟨p, bs, rfl, hq, q⟩ := h
  obtain ⟨u, rfl, rx⟩ := vals1 r
  cases rx
  obtain ⟨its, r', pl, hz⟩ := I.list hq
  have e := vals_bl r'
  subst e
  refine call_all_walk (iter_anyL pl.isList fun s2 e st hlI => ?_)
  subst e
  refine ⟨_, _, _, _, _, _, _, rfl, Walks.list (A := X.A.in1) (I.ok.hd hc) _ p hlI _, st, bools_truth, fun h' tk hk => ?_⟩
  have hn : ((bs.map Value.bool).toArray).size = bs.length := by simp
  rw [hn, range_all]
  exact ⟨.bl (bs.all id), H, I.kept (old_kept hk), rfl, q⟩
inductive rAnyB (K : PySem.W.Frag) (xs : List V) (H : Hp) (Q : VK) : Prop
  | mk (p : Addr) (bs : List Bool) (e : xs = [.ref p]) (s : SqL K H p (bs.map V.bl)) (q : Q (.bl (bs.any id)) H) : rAnyB K xs H Q
theorem call_anyB (hc : X.calm = true) : CallR X (.builtin "any") (rAnyB X.K) := by
  intro pins s σ H xs us Q I r h
  obtain ⟨p, bs, rfl, hq, q⟩ := h
  obtain ⟨u, rfl, rx⟩ := vals1 r
  cases rx
  obtain ⟨its, r', pl, hz⟩ := I.list hq
  have e := vals_bl r'
  subst e
  refine call_any_walk (iter_anyL pl.isList fun s2 e st hlI => ?_)
  subst e
  refine ⟨_, _, _, _, _, _, _, rfl, Walks.list (A := X.A.in1) (I.ok.hd hc) _ p hlI _, st, bools_truth, fun h' tk hk => ?_⟩
  have hn : ((bs.map Value.bool).toArray).size = bs.length := by simp
  rw [hn, range_any]
  exact ⟨.bl (bs.any id), H, I.kept (old_kept hk), rfl, q⟩
inductive rGetL (K : PySem.W.Frag) (o i : V) (H : Hp) (Q : VK) : Prop
  | mk (p : Addr) (xs : List V) (j : Nat) (v : V) (e1 : o = .ref p) (e2 : i = .int (j : Nat)) (s : SqL K H p xs) (h : xs[j]? = some v) (q : Q v H) : rGetL K o i H Q
theorem get_list : PGet X (rGetL X.K) := by
  intro pins s σ H o i ov iv Q I ro ri h
  obtain ⟨p, xs, j, v, rfl, rfl, hq, he, q⟩ := h
  cases ro
  obtain ⟨t, rfl⟩ := ri
  obtain ⟨its, r, pl, hz⟩ := I.list hq
  obtain ⟨w', ew, rw'⟩ := r.get he
  have hl := r.length
  have hn := line63
  have hj : j < its.length := (List.getElem?_eq_some_iff.mp ew).1
  exact wpAny_getItem_list pl.isList (by omega) (by omega) (by simpa using ew) ⟨v, H, I, rw', q⟩
end
noncomputable def tabV1 (e : DictEntry) : Option (Key × V) := match e.key with
  | .int k _ => if e.hash = hashInt k then (absV e.val).map fun v => (Sum.inl k, v) else none
  | _ => none
noncomputable def tabV (es : List DictEntry) : Option (List (Key × V)) := es.foldr (fun e r => (tabV1 e).bind fun x => r.map (x :: ·)) (some [])
structure KTab (K : PySem.W.Frag) (d : Addr) (tab : List (Key × V)) : Prop where
  ex : ∃ (es : Array DictEntry) (n : Nat), K.lookup d = some { cls := .type "dict", data := .dict es n } ∧ tabV es.toList = some tab
  nd : (tab.map (·.1)).Nodup
  ns : (d == sysModules) = false
theorem abs_rel {u : Value} {v : V} (h : absV u = some v) : RelV v u := by
  cases u <;> first | (cases h; first | rfl | exact ⟨_, rfl⟩) | cases h
theorem tabV1_ok {e : DictEntry} {x : Key × V} (h : tabV1 e = some x) : ∃ k t v, e.key = .int k t ∧ e.hash = hashInt k ∧ absV e.val = some v ∧ x = (Sum.inl k, v) := by
  unfold tabV1 at h
  split at h
  · rename_i k t ek
    by_cases hh : e.hash = hashInt k
    · rw [if_pos hh] at h
      obtain ⟨v, hv, rfl⟩ := Option.map_eq_some_iff.mp h
      exact ⟨k, t, v, ek, hh, hv, rfl⟩
    · rw [if_neg hh] at h
      cases h
  · cases h
theorem tabV_pairs {P : Program} {w : World} (es : List DictEntry) : ∀ {tab : List (Key × V)}, tabV es = some tab →
    ∃ vs : List (Key × Value), KV tab vs ∧ Pairs (mixKind P w) es vs ∧ (vs.map (·.1) = tab.map (·.1)) ∧ ∀ e ∈ es, ∃ k, (mixKind P w).is k e.key = true ∧ e.hash = (mixKind P w).hash k := by
  induction es with
  | nil =>
    intro tab h
    cases h
    exact ⟨[], .nil, .nil, rfl, fun e he => nomatch he⟩
  | cons e r ih =>
    intro tab h
    have h' : (tabV1 e).bind (fun x => (tabV r).map (x :: ·)) = some tab := h
    obtain ⟨x, hx, h2⟩ := Option.bind_eq_some_iff.mp h'
    obtain ⟨l, hl, rfl⟩ := Option.map_eq_some_iff.mp h2
    obtain ⟨k, t, v, ek, hh, ev, rfl⟩ := tabV1_ok hx
    obtain ⟨vs, h1, h2, h3, h4⟩ := ih hl
    have is : (mixKind P w).is (Sum.inl k) e.key = true := by
      rw [ek]
      exact keyIs_int k t
    refine ⟨(Sum.inl k, e.val) :: vs, .cons ⟨rfl, abs_rel ev⟩ h1, .cons is rfl h2, ?_, fun e' he' => ?_⟩
    · rw [List.map_cons, List.map_cons, h3]
    · rcases List.mem_cons.mp he' with z | z
      · subst z
        exact ⟨Sum.inl k, is, hh⟩
      · exact h4 e' z
theorem vals_abs : ∀ {us : List Value} {xs : List V}, us.map absV = xs.map some → Vals xs us
  | [], [], _ => .nil
  | [], _ :: _, h => by cases h
  | _ :: _, [], h => by cases h
  | u :: us, x :: xs, h => by
    have h' : absV u :: us.map absV = some x :: xs.map some := h
    obtain ⟨h1, h2⟩ := List.cons.inj h'
    exact .cons (abs_rel h1) (vals_abs h2)
theorem sqT_of {K : PySem.W.Frag} {H : Hp} {d : Addr} {its : Array Value} {n : Nat} {xs : List V} (lk : K.lookup d = some ⟨.type "tuple", none, .seq its n, #[]⟩) (vt : its.toList.map absV = xs.map some) (hz : xs.length ≤ sizeLine) : SqT K H d xs := by
  have r := vals_abs vt
  exact .inr ⟨_, its, n, lk, rfl, rfl, by rw [← Array.length_toList, ← r.length]; exact hz, r⟩
section
variable {X : Cx} {pins : List (Addr × Obj)} {σ : St} {H : Hp} {s : Shared} {d : Addr} {tab : List (Key × V)}
theorem KTab.dict (T : KTab X.K d tab) (I : Inv X pins σ H s) : ∃ vs, KV tab vs ∧ s.heap.DictOf (mixKind X.prog X.w) d vs := by
  obtain ⟨es, n, hk, ht⟩ := T.ex
  obtain ⟨vs, h1, h2, h3, h4⟩ := tabV_pairs (P := X.prog) (w := X.w) _ ht
  exact ⟨vs, h1, _, es, n, I.kIn _ _ hk, ⟨rfl, rfl, rfl⟩, rfl, fun e he => h4 e (by simpa using he), h2, by rw [h3]; exact T.nd⟩
variable {o i : Expr} {td ty : TE} {pos : Pos}
inductive xKGet (d : Addr) (tab : List (Key × V)) (x y : V) (H : Hp) (Q : VK) : Prop
  | mk (k : Int) (v : V) (e1 : x = .ref d) (e2 : y = .int k) (h : valV tab (Sum.inl k) = some v) (q : Q v H) : xKGet d tab x y H Q
noncomputable def tKGet (d : Addr) (tab : List (Key × V)) (td ty : TE) : TE := fun σ H Q => td σ H fun x H1 => ty σ H1 fun y H2 => xKGet d tab x y H2 Q
theorem pe_kget (T : KTab X.K d tab) (ho : PE X o td) (hi : PE X i ty) (hs : NoSl i) : PE X (.Subscript o i pos) (tKGet d tab td ty) := by
  intro pins s σ H Q I h
  refine subD_of PySem.F.slot_dict_getitem.lookup hs (thn (ho pins s σ H _ I h) fun u s1 ⟨x, H1, I1, rx, q1⟩ => thn (hi pins s1 σ H1 _ I1 q1) fun iv s2 z__ => ?_)
  obtain ⟨y, H2, I2, ry, k, v, ex, ey, l, q2⟩ := z__
  subst ex ey
  obtain rfl : u = Value.ref d := rx
  obtain ⟨vs, rel, dd⟩ := T.dict I2
  obtain ⟨w', hw, rw'⟩ := RelO.some_of (v := v) (o := valueAt vs (Sum.inl k)) (by rw [← l]; exact rel.val (Sum.inl k))
  exact ⟨dd.typeIs, wpAny_getItem_of (kV_is (k := Sum.inl k) ry) dd.mapOf hw ⟨v, H2, I2.tok _, rw', q2⟩⟩
noncomputable def tKIn (d : Addr) (tab : List (Key × V)) (neg : Bool) (ty td : TE) : TE := fun σ H Q => ty σ H fun y H1 => td σ H1 fun x H2 => ∃ k, x = .ref d ∧ y = .int k ∧ Q (.bl (if neg then !(valV tab (Sum.inl k)).isSome else (valV tab (Sum.inl k)).isSome)) H2
theorem pc_knotin (T : KTab X.K d tab) (hi : PE X i ty) (ho : PE X o td) : PC X .NotIn i o (tKIn d tab true ty td) := by
  intro pins s σ H Q I h
  refine thn (hi pins s σ H _ I h) fun iv s1 ⟨y, H1, I1, ry, q1⟩ => thn (ho pins s1 σ H1 _ I1 q1) fun u s2 z__ => ?_
  obtain ⟨x, H2, I2, rx, k, ex, ey, q2⟩ := z__
  subst ex ey
  obtain rfl : u = Value.ref d := rx
  obtain ⟨vs, rel, dd⟩ := T.dict I2
  refine wpAny_notIn_of (kV_is (k := Sum.inl k) ry) T.ns dd.mapOf ?_
  rw [← (rel.val (Sum.inl k)).isSome_eq]
  exact ⟨.bl _, H2, I2.tok _, rfl, q2⟩
end
section
variable {X : Cx} {fe e : Expr} {es : List Expr} {tf : TE} {t : TA} {pos : Pos} {E : XK} {CX : CXT}
structure Def1 (X : Cx) (CX : CXT) (k : Nat) (f : Addr) (sp : Sp) : Prop where
  ex : ∃ (fd : FuncData) (ps : List Str), FnOk X.prog X.w X.K X.mg X.base CX k f fd ps sp ∧ Binds X.K fd ps []
  kp : PySem.W.keepIn X.K (.ref f) = true
inductive xCallV (CX : CXT) (X : Cx) (k : Nat) (E : XK) (t : TA) (σ : St) (x : V) (H : Hp) (Q : VK) : Prop
  | mk (f : Addr) (sp : Sp) (e : x = .ref f) (d : Def1 X CX k f sp) (q : t σ H fun vs H2 => sp vs H2 Q E) : xCallV CX X k E t σ x H Q
noncomputable def tCallV (CX : CXT) (X : Cx) (k : Nat) (E : XK) (tf : TE) (t : TA) : TE := fun σ H Q => tf σ H fun x H1 => xCallV CX X k E t σ x H1 Q
theorem pe_callV {k : Nat} (hr : Room k X.A) (hf : PE X fe tf) (hx : Passes CX X E) (ha : PA X (e :: es) t)
    (he : eval (.Call fe (e :: es) [] pos) X.env = (do callWith pos (← eval fe X.env) [] (backTo pos (starEach (e :: es) X.env)) (backToKw pos (keywordEach [] X.env))) := by rfl)
    (hst : starEach (e :: es) X.env = (false, eval e X.env) :: starEach es X.env := by rfl) (hpl : (backTo pos (starEach es X.env)).any (·.1) = false := by rfl) :
    PE X (.Call fe (e :: es) [] pos) (tCallV CX X k E tf t) := by
  intro pins s σ H Q I h
  refine Call_ (thn (hf pins s σ H _ I h) fun u s1 z__ => ?_) he
  obtain ⟨x, H1, I1, rx, f, sp, ex, D, q⟩ := z__
  subst ex
  obtain rfl : u = Value.ref f := rx
  obtain ⟨fd, ps, F, hb⟩ := D.ex
  refine PySem.W.callWith_K (h₀ := X.base) I.ok.mod.kin D.kp (thn (ha pos pins s1 σ H1 _ I1 q) fun us s2 ⟨vs, H2, I2, r, q2⟩ => ⟨I2.kIn, ?_⟩) hst hpl
  exact run_fn (dvs := []) F hr hb .nil hx I2 r (by rw [List.append_nil]; exact q2)
end
theorem Same.new {H : Hp} {p : Addr} {o : HO} (h : H p = none) : Same H (upd H p o) := fun b u e => by rw [upd_ne (ne_of_none e h)]; exact e
theorem take_snocV {α : Type} {l : List α} {i : Nat} {x : α} (h : l[i]? = some x) : l.take (i + 1) = l.take i ++ [x] := by
  rw [List.take_add_one, h]
  rfl
theorem lc_mapL {K : PySem.W.Frag} {a : Addr} {xs ys : List V} {g : TG} {te : TE} {vs : List Nat} {σ : St} {H1 : Hp} {D : Addr} {Qd : Hp → Prop} (hn : H1 D = none) (hS : SqL K H1 a xs) (hlen : ys.length = xs.length) (hz : xs.length ≤ sizeLine)
    (step : ∀ (i : Nat) (x y : V) (H : Hp) (R : VK), xs[i]? = some x → ys[i]? = some y → Same H1 H → (∀ H', Same H H' → R y H') → g x (wipe σ vs) H fun σ2 H2 => wipe σ2 vs = wipe σ vs ∧ te σ2 H2 R)
    (hd : ∀ H, Same H1 H → H D = some (.lst ys) → Qd H) :
    ∃ W : Nat → Nat → Hp → Prop, (∃ m, W 0 m (upd H1 D (.lst []))) ∧ ∀ i m H, W i m H →
      ((Itl K a).stop i H ∧ Qd H) ∨ ((Itl K a).go i H ∧ ∃ Nx : Hp → Prop, (∀ H', Nx H' → ∃ m', m' < m ∧ W (i + 1) m' H') ∧ ∀ x H', (Itl K a).yld i H x H' → g x (wipe σ vs) H' fun σ2 H2 => wipe σ2 vs = wipe σ vs ∧ tYes σ2 H2 fun b H3 =>
        if b = true then te σ2 H3 fun y H4 => ∃ acc, H4 D = some (.lst acc) ∧ acc.length < sizeLine ∧ Nx (upd H4 D (.lst (acc ++ [y]))) else Nx H3) := by
  refine lc_list (xs := xs) (fun i H => Same H1 H ∧ H D = some (.lst (ys.take i))) ⟨Same.new hn, upd_same⟩ (fun i H _ p => p.1.seq hS) (fun i x H hx p => ?_) fun H p => hd H p.1 ?_
  · have hi : i < xs.length := (List.getElem?_eq_some_iff.mp hx).1
    obtain ⟨y, hy⟩ : ∃ y, ys[i]? = some y := ⟨_, List.getElem?_eq_getElem (by omega)⟩
    exact step i x y H (fun y H4 => ∃ acc, H4 D = some (.lst acc) ∧ acc.length < sizeLine ∧ (Same H1 (upd H4 D (.lst (acc ++ [y]))) ∧ (upd H4 D (.lst (acc ++ [y]))) D = some (.lst (ys.take (i + 1))))) hx hy p.1 fun H' s' =>
      ⟨_, s' _ _ p.2, by rw [List.length_take]; omega, fun b o e => by rw [upd_ne (ne_of_none e hn)]; exact s' _ _ (p.1 _ _ e), by rw [upd_same, take_snocV hy]⟩
  · have := p.2
    rw [List.take_of_length_le (by omega)] at this
    exact this
theorem lc_mapR {lo : Int} {n : Nat} {ys : List V} {g : TG} {te : TE} {vs : List Nat} {σ : St} {H1 : Hp} {D : Addr} {Qd : Hp → Prop} (hn : H1 D = none) (hlen : ys.length = n) (hz : n ≤ sizeLine)
    (step : ∀ (i : Nat) (y : V) (H : Hp) (R : VK), i < n → ys[i]? = some y → Same H1 H → (∀ H', Same H H' → R y H') → g (.int (lo + i)) (wipe σ vs) H fun σ2 H2 => wipe σ2 vs = wipe σ vs ∧ te σ2 H2 R)
    (hd : ∀ H, Same H1 H → H D = some (.lst ys) → Qd H) :
    ∃ W : Nat → Nat → Hp → Prop, (∃ m, W 0 m (upd H1 D (.lst []))) ∧ ∀ i m H, W i m H →
      ((Itr lo n).stop i H ∧ Qd H) ∨ ((Itr lo n).go i H ∧ ∃ Nx : Hp → Prop, (∀ H', Nx H' → ∃ m', m' < m ∧ W (i + 1) m' H') ∧ ∀ x H', (Itr lo n).yld i H x H' → g x (wipe σ vs) H' fun σ2 H2 => wipe σ2 vs = wipe σ vs ∧ tYes σ2 H2 fun b H3 =>
        if b = true then te σ2 H3 fun y H4 => ∃ acc, H4 D = some (.lst acc) ∧ acc.length < sizeLine ∧ Nx (upd H4 D (.lst (acc ++ [y]))) else Nx H3) := by
  refine lc_range (fun i H => Same H1 H ∧ H D = some (.lst (ys.take i))) ⟨Same.new hn, upd_same⟩ (fun i H hi p => ?_) fun H p => hd H p.1 ?_
  · obtain ⟨y, hy⟩ : ∃ y, ys[i]? = some y := ⟨_, List.getElem?_eq_getElem (by omega)⟩
    exact step i y H (fun y H4 => ∃ acc, H4 D = some (.lst acc) ∧ acc.length < sizeLine ∧ (Same H1 (upd H4 D (.lst (acc ++ [y]))) ∧ (upd H4 D (.lst (acc ++ [y]))) D = some (.lst (ys.take (i + 1))))) hi hy p.1 fun H' s' =>
      ⟨_, s' _ _ p.2, by rw [List.length_take]; omega, fun b o e => by rw [upd_ne (ne_of_none e hn)]; exact s' _ _ (p.1 _ _ e), by rw [upd_same, take_snocV hy]⟩
  · have := p.2
    rw [List.take_of_length_le (by omega)] at this
    exact this
theorem lc_mapZ {K : PySem.W.Frag} {a b : Addr} {xs zs ys : List V} {g : TG} {te : TE} {vs : List Nat} {σ : St} {H1 : Hp} {D : Addr} {Qd : Hp → Prop} (hn : H1 D = none) (hA : SqL K H1 a xs) (hB : SqL K H1 b zs) (hlen : ys.length = min xs.length zs.length) (hz : xs.length ≤ sizeLine)
    (step : ∀ (i : Nat) (x z y : V) (H : Hp) (T : Addr) (R : VK), xs[i]? = some x → zs[i]? = some z → ys[i]? = some y → Same H1 H → H T = some (.tup [x, z]) → (∀ H', Same H H' → R y H') → g (.ref T) (wipe σ vs) H fun σ2 H2 => wipe σ2 vs = wipe σ vs ∧ te σ2 H2 R)
    (hd : ∀ H, Same H1 H → H D = some (.lst ys) → Qd H) :
    ∃ W : Nat → Nat → Hp → Prop, (∃ m, W 0 m (upd H1 D (.lst []))) ∧ ∀ i m H, W i m H →
      ((Itz K a b).stop i H ∧ Qd H) ∨ ((Itz K a b).go i H ∧ ∃ Nx : Hp → Prop, (∀ H', Nx H' → ∃ m', m' < m ∧ W (i + 1) m' H') ∧ ∀ x H', (Itz K a b).yld i H x H' → g x (wipe σ vs) H' fun σ2 H2 => wipe σ2 vs = wipe σ vs ∧ tYes σ2 H2 fun b H3 =>
        if b = true then te σ2 H3 fun y H4 => ∃ acc, H4 D = some (.lst acc) ∧ acc.length < sizeLine ∧ Nx (upd H4 D (.lst (acc ++ [y]))) else Nx H3) := by
  refine ⟨fun i m H => m = ys.length - i ∧ i ≤ ys.length ∧ Same H1 H ∧ H D = some (.lst (ys.take i)), ⟨ys.length, by simp, Nat.zero_le _, Same.new hn, upd_same⟩, ?_⟩
  rintro i m H ⟨rfl, hi, p1, p2⟩
  have qa := p1.seq hA
  have qb := p1.seq hB
  by_cases hlt : i < ys.length
  · refine .inr ⟨⟨xs, zs, xs[i]'(by omega), zs[i]'(by omega), qa, qb, by simp, by simp⟩, fun H' => Same H1 H' ∧ H' D = some (.lst (ys.take (i + 1))), fun H' p' => ⟨ys.length - (i + 1), by omega, rfl, hlt, p'⟩, fun x H' y => ?_⟩
    obtain ⟨T, x1, x2, rfl, hT, rfl, y1, y2⟩ := y
    obtain ⟨w', hw⟩ : ∃ y, ys[i]? = some y := ⟨_, List.getElem?_eq_getElem hlt⟩
    have sT : Same H (upd H T (.tup [x1, x2])) := Same.new hT
    exact step i x1 x2 w' _ T (fun y H4 => ∃ acc, H4 D = some (.lst acc) ∧ acc.length < sizeLine ∧ (Same H1 (upd H4 D (.lst (acc ++ [y]))) ∧ (upd H4 D (.lst (acc ++ [y]))) D = some (.lst (ys.take (i + 1))))) (y1 xs qa) (y2 zs qb) hw (p1.trans sT) upd_same fun H' s' =>
      ⟨_, s' _ _ (sT _ _ p2), by rw [List.length_take]; omega, fun b o e => by rw [upd_ne (ne_of_none e hn)]; exact s' _ _ (sT _ _ (p1 _ _ e)), by rw [upd_same, take_snocV hw]⟩
  · have e : i = ys.length := by omega
    subst e
    refine .inl ⟨⟨xs, zs, qa, qb, by omega⟩, hd H p1 ?_⟩
    rw [List.take_of_length_le (Nat.le_refl _)] at p2
    exact p2
end L2

end

section
set_option Elab.async false
set_option linter.all false
set_option maxRecDepth 100000
namespace Fs
open PySem PySem.Spec PyProof.Rows L2
noncomputable def top (i : Nat) : Stmt := PySem.Challenge.pw_fieldshares_s01_answers.main.body.getD i (.Pass ⟨0, 0, 0, 0⟩)
noncomputable abbrev s_common_divisor : Stmt := top 2
noncomputable abbrev s_lowest : Stmt := top 3
noncomputable abbrev s_power : Stmt := top 4
noncomputable abbrev s_are_fields : Stmt := top 18
noncomputable abbrev s_are_generations : Stmt := top 19
noncomputable abbrev s_are_one_each : Stmt := top 20
noncomputable abbrev s_first_time : Stmt := top 21
noncomputable abbrev s_answer_start : Stmt := top 22
noncomputable abbrev s_answer_shares : Stmt := top 23
noncomputable abbrev s_answer_come : Stmt := top 24
noncomputable abbrev s_answer_share : Stmt := top 25
noncomputable abbrev s_answer_next : Stmt := top 26
noncomputable abbrev s_answer_after : Stmt := top 27
noncomputable abbrev s_answer_apart : Stmt := top 28
noncomputable abbrev s_answer_bound : Stmt := top 29
noncomputable abbrev s_answer_fewest : Stmt := top 30
noncomputable abbrev s_answer_from : Stmt := top 31
noncomputable abbrev s_answer_reach : Stmt := top 32
noncomputable abbrev s_answer_mixed : Stmt := top 33
noncomputable abbrev s_answer_keeps : Stmt := top 34
noncomputable abbrev s_answer_weighed : Stmt := top 35
noncomputable abbrev s_answer_rest : Stmt := top 36
noncomputable abbrev s_answer_pair : Stmt := top 37
noncomputable abbrev s_answer_first : Stmt := top 38
noncomputable abbrev s_answer_soon : Stmt := top 39
noncomputable abbrev s_answer_alone : Stmt := top 40
noncomputable abbrev s_answer_state : Stmt := top 41
noncomputable abbrev s_answer_call : Stmt := top 43
noncomputable abbrev s_generations_on : Stmt := top 45
noncomputable abbrev s_weighed_sum : Stmt := top 46
noncomputable abbrev s_split_calls : Stmt := top 51
noncomputable abbrev s_answers : Stmt := top 53
noncomputable abbrev s_Fields_init : Stmt := inClass (top 47) 0
noncomputable abbrev s_Fields_how_many : Stmt := inClass (top 47) 1
noncomputable abbrev s_Fields_begin : Stmt := inClass (top 47) 2
noncomputable abbrev s_Fields_tell_shares : Stmt := inClass (top 47) 3
noncomputable abbrev s_Fields_comers : Stmt := inClass (top 47) 4
noncomputable abbrev s_Fields_comers_from : Stmt := inClass (top 47) 5
noncomputable abbrev s_Fields_own_comers : Stmt := inClass (top 47) 6
noncomputable abbrev s_Fields_move_comers : Stmt := inClass (top 47) 7
noncomputable abbrev s_Fields_go_by : Stmt := inClass (top 47) 8
noncomputable abbrev s_Fields_greatest_lower : Stmt := inClass (top 47) 9
noncomputable abbrev s_Fields_lower_after : Stmt := inClass (top 47) 10
noncomputable abbrev s_Fields_share_after : Stmt := inClass (top 47) 11
noncomputable abbrev s_Fields_apart_after : Stmt := inClass (top 47) 12
noncomputable abbrev s_Fields_is_near_after : Stmt := inClass (top 47) 13
noncomputable abbrev s_Fields_first_greatest_after : Stmt := inClass (top 47) 14
noncomputable abbrev s_Fields_fewest : Stmt := inClass (top 47) 15
noncomputable abbrev s_Fields_bound_after : Stmt := inClass (top 47) 16
noncomputable abbrev s_Fields_forebear_uppers : Stmt := inClass (top 47) 17
noncomputable abbrev s_Fields_forebears_after : Stmt := inClass (top 47) 18
noncomputable abbrev s_Fields_has_some_after : Stmt := inClass (top 47) 19
noncomputable abbrev s_Fields_is_mixed_after : Stmt := inClass (top 47) 20
noncomputable abbrev s_Fields_are_keeping : Stmt := inClass (top 47) 21
noncomputable abbrev s_Fields_weighed : Stmt := inClass (top 47) 22
noncomputable abbrev s_Fields_rest_of_two : Stmt := inClass (top 47) 23
noncomputable abbrev s_Fields_two_after : Stmt := inClass (top 47) 24
inductive Def (K : PySem.W.Frag) (mg : Str → Option Value) (x : Str) (st : Stmt) (ps : List Str) : Prop
  | mk (f : Addr) (fd : FuncData) (F : Fun K x x st f fd) (b : Binds K fd ps []) (m : mg x = some (.ref f)) : Def K mg x st ps
inductive MDef (K : PySem.W.Frag) (C : Addr) (m q : Str) (st : Stmt) (ps : List Str) : Prop
  | mk (f : Addr) (fd : FuncData) (F : Fun K m q st f fd) (b : Binds K fd ps []) (mm : Meth K C m f) : MDef K C m q st ps
noncomputable def Num1 (mg : Str → Option Value) (x : Str) (v : Int) : Prop := ∃ t, mg x = some (.int v t)
inductive Tab_ANSWERS (K : PySem.W.Frag) (mg : Str → Option Value) : Prop
  | mk (d f0 f1 f2 f3 f4 f5 f6 f7 f8 f9 f10 f11 f12 f13 f14 f15 f16 f17 f18 f19 : Addr) (m : mg "ANSWERS" = some (.ref d)) (t : KTab K d [(Sum.inl 0, .ref f0), (Sum.inl 1, .ref f1), (Sum.inl 2, .ref f2), (Sum.inl 3, .ref f3), (Sum.inl 4, .ref f4), (Sum.inl 5, .ref f5), (Sum.inl 6, .ref f6), (Sum.inl 7, .ref f7), (Sum.inl 8, .ref f8), (Sum.inl 9, .ref f9), (Sum.inl 10, .ref f10), (Sum.inl 11, .ref f11), (Sum.inl 12, .ref f12), (Sum.inl 13, .ref f13), (Sum.inl 14, .ref f14), (Sum.inl 15, .ref f15), (Sum.inl 16, .ref f16), (Sum.inl 17, .ref f17), (Sum.inl 18, .ref f18), (Sum.inl 19, .ref f19)]) (q0 : mg "answer_start" = some (.ref f0)) (q1 : mg "answer_shares" = some (.ref f1)) (q2 : mg "answer_come" = some (.ref f2)) (q3 : mg "answer_share" = some (.ref f3)) (q4 : mg "answer_next" = some (.ref f4)) (q5 : mg "answer_after" = some (.ref f5)) (q6 : mg "answer_apart" = some (.ref f6)) (q7 : mg "answer_bound" = some (.ref f7)) (q8 : mg "answer_fewest" = some (.ref f8)) (q9 : mg "answer_from" = some (.ref f9)) (q10 : mg "answer_reach" = some (.ref f10)) (q11 : mg "answer_mixed" = some (.ref f11)) (q12 : mg "answer_keeps" = some (.ref f12)) (q13 : mg "answer_weighed" = some (.ref f13)) (q14 : mg "answer_rest" = some (.ref f14)) (q15 : mg "answer_pair" = some (.ref f15)) (q16 : mg "answer_first" = some (.ref f16)) (q17 : mg "answer_soon" = some (.ref f17)) (q18 : mg "answer_alone" = some (.ref f18)) (q19 : mg "answer_state" = some (.ref f19)) : Tab_ANSWERS K mg
end Fs

end

section
set_option Elab.async false
set_option linter.all false
set_option maxRecDepth 100000
set_option maxHeartbeats 4000000
noncomputable section
namespace Fs
open PySem PySem.Spec PyProof.Rows L2
noncomputable def kE (P : Params) (x : Str) (t : Tok) (v : Value) : DictEntry := ⟨PyData.keyHash P x, .str x t, v⟩
noncomputable def kI (h : Int) (t : Tok) (v : Value) : DictEntry := ⟨h, .int h t, v⟩
noncomputable def kFn (x q : Str) (st : Stmt) (pm : Value) (cd : Addr) : Obj := ⟨.type "function", none, .func (PySem.W.fnOf x q (defArgs st) (defBody st) (defScope st) .none .none .none pm none (.ref cd) .none), #[]⟩
noncomputable def kFile (t : Tok) : Value := .str "/claim/cut.py" t
noncomputable def kCd (x q : Str) (t1 t2 t3 : Tok) (a b c d e : Int) (r1 : Addr) (l : Int) (r2 : Addr) (v1 v2 : Value) (r3 : Addr) (n : Int) (t4 : Tok) : Obj :=
  ⟨.type "code", none, .fields #[.str x t1, .str q t2, kFile t3, .int a 0, .int b 0, .int c 0, .int d 0, .int e 0, .ref r1, .bool true, .int l 0, .ref r2, .none, v1, v2, .ref r3, .int n 0, .int a 0, kFile t4], #[]⟩
noncomputable def kPm0 : Value := (.str "fieldshares.parts" 187)
noncomputable def k_21 : Obj := kFn "common_divisor" "common_divisor" s_common_divisor kPm0 20
noncomputable def k_20 : Obj := kCd "common_divisor" "common_divisor" 191 192 193 3 2 0 0 3 15 181 16 (.ref 17) (.ref 18) 19 197 198
noncomputable def k_28 : Obj := kFn "lowest" "lowest" s_lowest kPm0 27
noncomputable def k_27 : Obj := kCd "lowest" "lowest" 200 201 202 9 2 0 0 3 22 181 23 (.ref 24) (.ref 25) 26 206 207
noncomputable def k_35 : Obj := kFn "power" "power" s_power kPm0 34
noncomputable def k_34 : Obj := kCd "power" "power" 209 210 211 12 2 0 0 3 29 181 30 (.ref 31) (.ref 32) 33 216 217
noncomputable def kPm1 : Value := (.str "fieldshares.answering" 219)
noncomputable def k_41 : Obj := kFn "are_fields" "are_fields" s_are_fields kPm1 40
noncomputable def k_40 : Obj := kCd "are_fields" "are_fields" 258 259 260 30 2 0 0 3 37 181 38 .none .none 39 261 262
noncomputable def k_48 : Obj := kFn "are_generations" "are_generations" s_are_generations kPm1 47
noncomputable def k_47 : Obj := kCd "are_generations" "are_generations" 264 265 266 32 1 0 0 3 42 181 43 (.ref 44) (.ref 45) 46 268 269
noncomputable def k_55 : Obj := kFn "are_one_each" "are_one_each" s_are_one_each kPm1 54
noncomputable def k_54 : Obj := kCd "are_one_each" "are_one_each" 271 272 273 34 3 0 0 3 49 181 50 (.ref 51) (.ref 52) 53 277 278
noncomputable def k_62 : Obj := kFn "first_time" "first_time" s_first_time kPm1 61
noncomputable def k_61 : Obj := kCd "first_time" "first_time" 280 281 282 36 1 0 0 3 56 181 57 (.ref 58) (.ref 59) 60 286 287
noncomputable def k_67 : Obj := kFn "answer_start" "answer_start" s_answer_start kPm1 66
noncomputable def k_66 : Obj := kCd "answer_start" "answer_start" 289 290 291 41 2 0 0 3 63 181 64 .none .none 65 292 293
noncomputable def k_74 : Obj := kFn "answer_shares" "answer_shares" s_answer_shares kPm1 73
noncomputable def k_73 : Obj := kCd "answer_shares" "answer_shares" 295 296 297 50 2 0 0 3 68 181 69 (.ref 70) (.ref 71) 72 300 301
noncomputable def k_81 : Obj := kFn "answer_come" "answer_come" s_answer_come kPm1 80
noncomputable def k_80 : Obj := kCd "answer_come" "answer_come" 303 304 305 55 2 0 0 3 75 181 76 (.ref 77) (.ref 78) 79 312 313
noncomputable def k_88 : Obj := kFn "answer_share" "answer_share" s_answer_share kPm1 87
noncomputable def k_87 : Obj := kCd "answer_share" "answer_share" 315 316 317 66 2 0 0 3 82 181 83 (.ref 84) (.ref 85) 86 320 321
noncomputable def k_95 : Obj := kFn "answer_next" "answer_next" s_answer_next kPm1 94
noncomputable def k_94 : Obj := kCd "answer_next" "answer_next" 323 324 325 70 2 0 0 3 89 181 90 (.ref 91) (.ref 92) 93 328 329
noncomputable def k_102 : Obj := kFn "answer_after" "answer_after" s_answer_after kPm1 101
noncomputable def k_101 : Obj := kCd "answer_after" "answer_after" 331 332 333 75 2 0 0 3 96 181 97 (.ref 98) (.ref 99) 100 337 338
noncomputable def k_109 : Obj := kFn "answer_apart" "answer_apart" s_answer_apart kPm1 108
noncomputable def k_108 : Obj := kCd "answer_apart" "answer_apart" 340 341 342 80 2 0 0 3 103 181 104 (.ref 105) (.ref 106) 107 345 346
noncomputable def k_116 : Obj := kFn "answer_bound" "answer_bound" s_answer_bound kPm1 115
noncomputable def k_115 : Obj := kCd "answer_bound" "answer_bound" 348 349 350 84 2 0 0 3 110 181 111 (.ref 112) (.ref 113) 114 353 354
noncomputable def k_123 : Obj := kFn "answer_fewest" "answer_fewest" s_answer_fewest kPm1 122
noncomputable def k_122 : Obj := kCd "answer_fewest" "answer_fewest" 356 357 358 88 2 0 0 3 117 181 118 (.ref 119) (.ref 120) 121 361 362
noncomputable def k_130 : Obj := kFn "answer_from" "answer_from" s_answer_from kPm1 129
noncomputable def k_129 : Obj := kCd "answer_from" "answer_from" 364 365 366 90 2 0 0 3 124 181 125 (.ref 126) (.ref 127) 128 370 371
noncomputable def k_135 : Obj := kFn "answer_reach" "answer_reach" s_answer_reach kPm1 134
noncomputable def k_134 : Obj := kCd "answer_reach" "answer_reach" 373 374 375 95 2 0 0 3 131 181 132 .none .none 133 376 377
noncomputable def k_140 : Obj := kFn "answer_mixed" "answer_mixed" s_answer_mixed kPm1 139
noncomputable def k_139 : Obj := kCd "answer_mixed" "answer_mixed" 379 380 381 99 2 0 0 3 136 181 137 .none .none 138 382 383
noncomputable def k_147 : Obj := kFn "answer_keeps" "answer_keeps" s_answer_keeps kPm1 146
noncomputable def k_146 : Obj := kCd "answer_keeps" "answer_keeps" 385 386 387 101 2 0 0 3 141 181 142 (.ref 143) (.ref 144) 145 390 391
noncomputable def k_154 : Obj := kFn "answer_weighed" "answer_weighed" s_answer_weighed kPm1 153
noncomputable def k_153 : Obj := kCd "answer_weighed" "answer_weighed" 393 394 395 105 2 0 0 3 148 181 149 (.ref 150) (.ref 151) 152 398 399
noncomputable def k_161 : Obj := kFn "answer_rest" "answer_rest" s_answer_rest kPm1 160
noncomputable def k_160 : Obj := kCd "answer_rest" "answer_rest" 401 402 403 109 2 0 0 3 155 181 156 (.ref 157) (.ref 158) 159 406 407
noncomputable def k_168 : Obj := kFn "answer_pair" "answer_pair" s_answer_pair kPm1 167
noncomputable def k_167 : Obj := kCd "answer_pair" "answer_pair" 409 410 411 113 2 0 0 3 162 181 163 (.ref 164) (.ref 165) 166 415 416
noncomputable def k_175 : Obj := kFn "answer_first" "answer_first" s_answer_first kPm1 174
noncomputable def k_174 : Obj := kCd "answer_first" "answer_first" 418 419 420 118 2 0 0 3 169 181 170 (.ref 171) (.ref 172) 173 423 424
noncomputable def k_180 : Obj := kFn "answer_soon" "answer_soon" s_answer_soon kPm1 179
noncomputable def k_179 : Obj := kCd "answer_soon" "answer_soon" 426 427 428 122 2 0 0 3 176 181 177 .none .none 178 429 430
noncomputable def k_187 : Obj := kFn "answer_alone" "answer_alone" s_answer_alone kPm1 186
noncomputable def k_186 : Obj := kCd "answer_alone" "answer_alone" 432 433 434 127 2 0 0 3 181 181 182 (.ref 183) (.ref 184) 185 437 438
noncomputable def k_192 : Obj := kFn "answer_state" "answer_state" s_answer_state kPm1 191
noncomputable def k_191 : Obj := kCd "answer_state" "answer_state" 440 441 442 131 2 0 0 3 188 181 189 .none .none 190 443 444
noncomputable def k_201 : Obj := kFn "answer_call" "answer_call" s_answer_call kPm1 200
noncomputable def k_200 : Obj := kCd "answer_call" "answer_call" 487 488 489 134 3 0 0 3 195 181 196 (.ref 197) (.ref 198) 199 493 494
noncomputable def kPm2 : Value := (.str "fieldshares.fields" 496)
noncomputable def k_206 : Obj := kFn "generations_on" "generations_on" s_generations_on kPm2 205
noncomputable def k_205 : Obj := kCd "generations_on" "generations_on" 498 499 500 139 3 0 0 3 202 181 203 .none .none 204 501 502
noncomputable def k_211 : Obj := kFn "weighed_sum" "weighed_sum" s_weighed_sum kPm2 210
noncomputable def k_210 : Obj := kCd "weighed_sum" "weighed_sum" 504 505 506 143 2 0 0 3 207 181 208 .none .none 209 507 508
noncomputable def kPm3 : Value := (.str "fieldshares.reading" 738)
noncomputable def k_395 : Obj := kFn "split_calls" "split_calls" s_split_calls kPm3 394
noncomputable def k_394 : Obj := kCd "split_calls" "split_calls" 794 795 796 242 1 0 0 3 389 181 390 (.ref 391) (.ref 392) 393 803 804
noncomputable def kPm4 : Value := (.str "fieldshares.wanderers" 806)
noncomputable def k_402 : Obj := kFn "answers" "answers" s_answers kPm4 401
noncomputable def k_401 : Obj := kCd "answers" "answers" 808 809 810 257 1 0 0 3 396 181 397 (.ref 398) (.ref 399) 400 817 818
noncomputable def k_225 : Obj := kFn "__init__" "Fields.__init__" s_Fields_init kPm2 224
noncomputable def k_224 : Obj := kCd "__init__" "Fields.__init__" 522 523 524 147 1 0 0 3 219 181 220 (.ref 221) (.ref 222) 223 526 527
noncomputable def k_232 : Obj := kFn "how_many" "Fields.how_many" s_Fields_how_many kPm2 231
noncomputable def k_231 : Obj := kCd "how_many" "Fields.how_many" 529 530 531 152 1 0 0 3 226 181 227 (.ref 228) (.ref 229) 230 533 534
noncomputable def k_237 : Obj := kFn "begin" "Fields.begin" s_Fields_begin kPm2 236
noncomputable def k_236 : Obj := kCd "begin" "Fields.begin" 536 537 538 155 2 0 0 3 233 181 234 .none .none 235 539 540
noncomputable def k_244 : Obj := kFn "tell_shares" "Fields.tell_shares" s_Fields_tell_shares kPm2 243
noncomputable def k_243 : Obj := kCd "tell_shares" "Fields.tell_shares" 542 543 544 159 2 0 0 3 238 181 239 (.ref 240) (.ref 241) 242 547 548
noncomputable def k_251 : Obj := kFn "comers" "Fields.comers" s_Fields_comers kPm2 250
noncomputable def k_250 : Obj := kCd "comers" "Fields.comers" 550 551 552 163 3 0 0 3 245 181 246 (.ref 247) (.ref 248) 249 556 557
noncomputable def k_256 : Obj := kFn "comers_from" "Fields.comers_from" s_Fields_comers_from kPm2 255
noncomputable def k_255 : Obj := kCd "comers_from" "Fields.comers_from" 559 560 561 166 2 0 0 3 252 181 253 .none .none 254 562 563
noncomputable def k_263 : Obj := kFn "own_comers" "Fields.own_comers" s_Fields_own_comers kPm2 262
noncomputable def k_262 : Obj := kCd "own_comers" "Fields.own_comers" 565 566 567 169 2 0 0 3 257 181 258 (.ref 259) (.ref 260) 261 570 571
noncomputable def k_270 : Obj := kFn "move_comers" "Fields.move_comers" s_Fields_move_comers kPm2 269
noncomputable def k_269 : Obj := kCd "move_comers" "Fields.move_comers" 573 574 575 172 5 0 0 3 264 181 265 (.ref 266) (.ref 267) 268 582 583
noncomputable def k_277 : Obj := kFn "go_by" "Fields.go_by" s_Fields_go_by kPm2 276
noncomputable def k_276 : Obj := kCd "go_by" "Fields.go_by" 585 586 587 177 1 0 0 3 271 181 272 (.ref 273) (.ref 274) 275 589 590
noncomputable def k_282 : Obj := kFn "greatest_lower" "Fields.greatest_lower" s_Fields_greatest_lower kPm2 281
noncomputable def k_281 : Obj := kCd "greatest_lower" "Fields.greatest_lower" 592 593 594 181 1 0 0 3 278 181 279 .none .none 280 595 596
noncomputable def k_289 : Obj := kFn "lower_after" "Fields.lower_after" s_Fields_lower_after kPm2 288
noncomputable def k_288 : Obj := kCd "lower_after" "Fields.lower_after" 598 599 600 184 2 0 0 3 283 181 284 (.ref 285) (.ref 286) 287 603 604
noncomputable def k_296 : Obj := kFn "share_after" "Fields.share_after" s_Fields_share_after kPm2 295
noncomputable def k_295 : Obj := kCd "share_after" "Fields.share_after" 606 607 608 187 3 0 0 3 290 181 291 (.ref 292) (.ref 293) 294 613 614
noncomputable def k_303 : Obj := kFn "apart_after" "Fields.apart_after" s_Fields_apart_after kPm2 302
noncomputable def k_302 : Obj := kCd "apart_after" "Fields.apart_after" 616 617 618 191 2 0 0 3 297 181 298 (.ref 299) (.ref 300) 301 622 623
noncomputable def k_310 : Obj := kFn "is_near_after" "Fields.is_near_after" s_Fields_is_near_after kPm2 309
noncomputable def k_309 : Obj := kCd "is_near_after" "Fields.is_near_after" 625 626 627 195 3 0 0 3 304 181 305 (.ref 306) (.ref 307) 308 632 633
noncomputable def k_317 : Obj := kFn "first_greatest_after" "Fields.first_greatest_after" s_Fields_first_greatest_after kPm2 316
noncomputable def k_316 : Obj := kCd "first_greatest_after" "Fields.first_greatest_after" 635 636 637 199 2 0 0 3 311 181 312 (.ref 313) (.ref 314) 315 641 642
noncomputable def k_322 : Obj := kFn "fewest" "Fields.fewest" s_Fields_fewest kPm2 321
noncomputable def k_321 : Obj := kCd "fewest" "Fields.fewest" 644 645 646 203 1 0 0 3 318 181 319 .none .none 320 647 648
noncomputable def k_329 : Obj := kFn "bound_after" "Fields.bound_after" s_Fields_bound_after kPm2 328
noncomputable def k_328 : Obj := kCd "bound_after" "Fields.bound_after" 650 651 652 206 2 0 0 3 323 181 324 (.ref 325) (.ref 326) 327 657 658
noncomputable def k_334 : Obj := kFn "forebear_uppers" "Fields.forebear_uppers" s_Fields_forebear_uppers kPm2 333
noncomputable def k_333 : Obj := kCd "forebear_uppers" "Fields.forebear_uppers" 660 661 662 211 3 0 0 3 330 181 331 .none .none 332 663 664
noncomputable def k_341 : Obj := kFn "forebears_after" "Fields.forebears_after" s_Fields_forebears_after kPm2 340
noncomputable def k_340 : Obj := kCd "forebears_after" "Fields.forebears_after" 666 667 668 215 4 0 0 3 335 181 336 (.ref 337) (.ref 338) 339 673 674
noncomputable def k_348 : Obj := kFn "has_some_after" "Fields.has_some_after" s_Fields_has_some_after kPm2 347
noncomputable def k_347 : Obj := kCd "has_some_after" "Fields.has_some_after" 676 677 678 218 4 0 0 3 342 181 343 (.ref 344) (.ref 345) 346 683 684
noncomputable def k_353 : Obj := kFn "is_mixed_after" "Fields.is_mixed_after" s_Fields_is_mixed_after kPm2 352
noncomputable def k_352 : Obj := kCd "is_mixed_after" "Fields.is_mixed_after" 686 687 688 221 2 0 0 3 349 181 350 .none .none 351 689 690
noncomputable def k_358 : Obj := kFn "are_keeping" "Fields.are_keeping" s_Fields_are_keeping kPm2 357
noncomputable def k_357 : Obj := kCd "are_keeping" "Fields.are_keeping" 692 693 694 224 2 0 0 3 354 181 355 .none .none 356 695 696
noncomputable def k_365 : Obj := kFn "weighed" "Fields.weighed" s_Fields_weighed kPm2 364
noncomputable def k_364 : Obj := kCd "weighed" "Fields.weighed" 698 699 700 227 2 0 0 3 359 181 360 (.ref 361) (.ref 362) 363 703 704
noncomputable def k_372 : Obj := kFn "rest_of_two" "Fields.rest_of_two" s_Fields_rest_of_two kPm2 371
noncomputable def k_371 : Obj := kCd "rest_of_two" "Fields.rest_of_two" 706 707 708 230 3 0 0 3 366 181 367 (.ref 368) (.ref 369) 370 712 713
noncomputable def k_379 : Obj := kFn "two_after" "Fields.two_after" s_Fields_two_after kPm2 378
noncomputable def k_378 : Obj := kCd "two_after" "Fields.two_after" 715 716 717 235 4 0 0 3 373 181 374 (.ref 375) (.ref 376) 377 724 725
noncomputable def kMain_0 (P : Params) : List DictEntry := [kE P "__name__" 165 (.str "fieldshares.wanderers" 806), kE P "__doc__" 166 .none, kE P "__package__" 167 .none, kE P "__loader__" 168 (.builtin "__main__.__loader__#opaque"), kE P "__spec__" 169 .none, kE P "__annotations__" 170 (.ref 6), kE P "__builtins__" 171 (.ref 4), kE P "__file__" 173 (.str "/claim/cut.py" 172)]
noncomputable def kMain_1 (P : Params) : List DictEntry := [kE P "__cached__" 174 .none, kE P "HUNDRED" 190 (.int 100 189), kE P "common_divisor" 199 (.ref 21), kE P "lowest" 208 (.ref 28), kE P "power" 218 (.ref 35), kE P "START" 222 (.int 0 221), kE P "DONE" 224 (.int 0 223), kE P "NOT_STARTED" 227 (.int (-11) 226)]
noncomputable def kMain_2 (P : Params) : List DictEntry := [kE P "NOT_TO_BE_MOVED" 230 (.int (-12) 229), kE P "NOT_AS_TOLD" 233 (.int (-22) 232), kE P "TOO_FINE" 236 (.int (-28) 235), kE P "NOT_WITHIN" 239 (.int (-33) 238), kE P "MOST_GENERATIONS" 241 (.int 4 240), kE P "MOST_WEIGHT" 243 (.int 1000 242), kE P "MOST_PARTS" 245 (.int 1000 244), kE P "FINEST_LOWER" 247 (.int 1000000 246)]
noncomputable def kMain_3 (P : Params) : List DictEntry := [kE P "FIELDS_BY_LENGTH" 257 (.ref 36), kE P "are_fields" 263 (.ref 41), kE P "are_generations" 270 (.ref 48), kE P "are_one_each" 279 (.ref 55), kE P "first_time" 288 (.ref 62), kE P "answer_start" 294 (.ref 67), kE P "answer_shares" 302 (.ref 74), kE P "answer_come" 314 (.ref 81)]
noncomputable def kMain_4 (P : Params) : List DictEntry := [kE P "answer_share" 322 (.ref 88), kE P "answer_next" 330 (.ref 95), kE P "answer_after" 339 (.ref 102), kE P "answer_apart" 347 (.ref 109), kE P "answer_bound" 355 (.ref 116), kE P "answer_fewest" 363 (.ref 123), kE P "answer_from" 372 (.ref 130), kE P "answer_reach" 378 (.ref 135)]
noncomputable def kMain_5 (P : Params) : List DictEntry := [kE P "answer_mixed" 384 (.ref 140), kE P "answer_keeps" 392 (.ref 147), kE P "answer_weighed" 400 (.ref 154), kE P "answer_rest" 408 (.ref 161), kE P "answer_pair" 417 (.ref 168), kE P "answer_first" 425 (.ref 175), kE P "answer_soon" 431 (.ref 180), kE P "answer_alone" 439 (.ref 187)]
noncomputable def kMain_6 (P : Params) : List DictEntry := [kE P "answer_state" 445 (.ref 192), kE P "ANSWERS" 486 (.ref 193), kE P "answer_call" 495 (.ref 201), kE P "generations_on" 503 (.ref 206), kE P "weighed_sum" 509 (.ref 211), kE P "Fields" 737 (.ref 382), kE P "WITH_A_ROW" 744 (.ref 387), kE P "NUMBERS_TOLD" 793 (.ref 388)]
noncomputable def kMain_7 (P : Params) : List DictEntry := [kE P "split_calls" 805 (.ref 395), kE P "answers" 819 (.ref 402)]
noncomputable def kMainL (P : Params) : List DictEntry := kMain_0 P ++ (kMain_1 P ++ (kMain_2 P ++ (kMain_3 P ++ (kMain_4 P ++ (kMain_5 P ++ (kMain_6 P ++ (kMain_7 P)))))))
noncomputable def k_3 (P : Params) : Obj := ⟨.type "dict", none, .dict (kMainL P).toArray 58, #[]⟩
noncomputable def kCls_0 (P : Params) : List DictEntry := [kE P "__module__" 517 (.str "fieldshares.fields" 496), kE P "__firstlineno__" 521 (.int 145 520), kE P "__init__" 528 (.ref 225), kE P "how_many" 535 (.ref 232), kE P "begin" 541 (.ref 237), kE P "tell_shares" 549 (.ref 244), kE P "comers" 558 (.ref 251), kE P "comers_from" 564 (.ref 256)]
noncomputable def kCls_1 (P : Params) : List DictEntry := [kE P "own_comers" 572 (.ref 263), kE P "move_comers" 584 (.ref 270), kE P "go_by" 591 (.ref 277), kE P "greatest_lower" 597 (.ref 282), kE P "lower_after" 605 (.ref 289), kE P "share_after" 615 (.ref 296), kE P "apart_after" 624 (.ref 303), kE P "is_near_after" 634 (.ref 310)]
noncomputable def kCls_2 (P : Params) : List DictEntry := [kE P "first_greatest_after" 643 (.ref 317), kE P "fewest" 649 (.ref 322), kE P "bound_after" 659 (.ref 329), kE P "forebear_uppers" 665 (.ref 334), kE P "forebears_after" 675 (.ref 341), kE P "has_some_after" 685 (.ref 348), kE P "is_mixed_after" 691 (.ref 353), kE P "are_keeping" 697 (.ref 358)]
noncomputable def kCls_3 (P : Params) : List DictEntry := [kE P "weighed" 705 (.ref 365), kE P "rest_of_two" 714 (.ref 372), kE P "two_after" 726 (.ref 379), kE P "__static_attributes__" 730 (.ref 380), kE P "__dict__" 732 (.ref 383), kE P "__weakref__" 734 (.ref 384), kE P "__doc__" 735 .none]
noncomputable def kClsL (P : Params) : List DictEntry := kCls_0 P ++ (kCls_1 P ++ (kCls_2 P ++ (kCls_3 P)))
noncomputable def k_381 (P : Params) : Obj := ⟨.type "dict", none, .dict (kClsL P).toArray 4, #[]⟩
noncomputable def kD_FIELDS_BY_LENGTH_0 : List DictEntry := [kI 4 248 (.int 2 249), kI 9 250 (.int 3 251), kI 16 252 (.int 4 253)]
noncomputable def kD_FIELDS_BY_LENGTHL : List DictEntry := kD_FIELDS_BY_LENGTH_0
noncomputable def k_36 : Obj := ⟨.type "dict", none, .dict (kD_FIELDS_BY_LENGTHL).toArray 3, #[]⟩
noncomputable def kD_ANSWERS_0 : List DictEntry := [kI 0 446 (.ref 67), kI 1 448 (.ref 74), kI 2 450 (.ref 81), kI 3 452 (.ref 88), kI 4 454 (.ref 95), kI 5 456 (.ref 102), kI 6 458 (.ref 109), kI 7 460 (.ref 116)]
noncomputable def kD_ANSWERS_1 : List DictEntry := [kI 8 462 (.ref 123), kI 9 464 (.ref 130), kI 10 466 (.ref 135), kI 11 468 (.ref 140), kI 12 470 (.ref 147), kI 13 472 (.ref 154), kI 14 474 (.ref 161), kI 15 476 (.ref 168)]
noncomputable def kD_ANSWERS_2 : List DictEntry := [kI 16 478 (.ref 175), kI 17 480 (.ref 180), kI 18 481 (.ref 187), kI 19 482 (.ref 192)]
noncomputable def kD_ANSWERSL : List DictEntry := kD_ANSWERS_0 ++ (kD_ANSWERS_1 ++ (kD_ANSWERS_2))
noncomputable def k_193 : Obj := ⟨.type "dict", none, .dict (kD_ANSWERSL).toArray 20, #[]⟩
noncomputable def kD_NUMBERS_TOLD_0 : List DictEntry := [kI 2 745 (.int 4 746), kI 3 748 (.int 1 749), kI 4 751 (.int 0 752), kI 5 754 (.int 2 755), kI 6 757 (.int 1 758), kI 7 760 (.int 1 761), kI 8 763 (.int 0 764), kI 9 766 (.int 3 767)]
noncomputable def kD_NUMBERS_TOLD_1 : List DictEntry := [kI 10 769 (.int 2 770), kI 11 772 (.int 0 773), kI 14 775 (.int 2 776), kI 15 778 (.int 3 779), kI 16 781 (.int 1 782), kI 17 784 (.int 1 785), kI 18 787 (.int 1 788), kI 19 790 (.int 0 791)]
noncomputable def kD_NUMBERS_TOLDL : List DictEntry := kD_NUMBERS_TOLD_0 ++ (kD_NUMBERS_TOLD_1)
noncomputable def k_388 : Obj := ⟨.type "dict", none, .dict (kD_NUMBERS_TOLDL).toArray 16, #[]⟩
noncomputable def k_387 : Obj := ⟨.type "tuple", none, .seq #[(.int 0 740), (.int 1 741), (.int 12 742), (.int 13 743)] 0, #[]⟩
noncomputable def k_382 : Obj := ⟨.type "type", none, .cls { name := "Fields", bases := [(.type "object")], mro := [(.ref 382), (.type "object")], ns := 381, qualname := "Fields", hasDict := true, slotNames := [], subclasses := [], abstract := false, collection := none, hasDel := false }, #[none, none, some (.str "Fields" 510), some (.str "Fields" 518), some (.builtin "object.__new__"), some (.bool true)]⟩
noncomputable def kK0 (P : Params) : PySem.W.Frag := [(3, k_3 P), (381, k_381 P), (21, k_21), (20, k_20), (28, k_28), (27, k_27), (35, k_35), (34, k_34)]
noncomputable def kK1 (P : Params) : PySem.W.Frag := [(41, k_41), (40, k_40), (48, k_48), (47, k_47), (55, k_55), (54, k_54), (62, k_62), (61, k_61)]
noncomputable def kK2 (P : Params) : PySem.W.Frag := [(67, k_67), (66, k_66), (74, k_74), (73, k_73), (81, k_81), (80, k_80), (88, k_88), (87, k_87)]
noncomputable def kK3 (P : Params) : PySem.W.Frag := [(95, k_95), (94, k_94), (102, k_102), (101, k_101), (109, k_109), (108, k_108), (116, k_116), (115, k_115)]
noncomputable def kK4 (P : Params) : PySem.W.Frag := [(123, k_123), (122, k_122), (130, k_130), (129, k_129), (135, k_135), (134, k_134), (140, k_140), (139, k_139)]
noncomputable def kK5 (P : Params) : PySem.W.Frag := [(147, k_147), (146, k_146), (154, k_154), (153, k_153), (161, k_161), (160, k_160), (168, k_168), (167, k_167)]
noncomputable def kK6 (P : Params) : PySem.W.Frag := [(175, k_175), (174, k_174), (180, k_180), (179, k_179), (187, k_187), (186, k_186), (192, k_192), (191, k_191)]
noncomputable def kK7 (P : Params) : PySem.W.Frag := [(201, k_201), (200, k_200), (206, k_206), (205, k_205), (211, k_211), (210, k_210), (395, k_395), (394, k_394)]
noncomputable def kK8 (P : Params) : PySem.W.Frag := [(402, k_402), (401, k_401), (225, k_225), (224, k_224), (232, k_232), (231, k_231), (237, k_237), (236, k_236)]
noncomputable def kK9 (P : Params) : PySem.W.Frag := [(244, k_244), (243, k_243), (251, k_251), (250, k_250), (256, k_256), (255, k_255), (263, k_263), (262, k_262)]
noncomputable def kK10 (P : Params) : PySem.W.Frag := [(270, k_270), (269, k_269), (277, k_277), (276, k_276), (282, k_282), (281, k_281), (289, k_289), (288, k_288)]
noncomputable def kK11 (P : Params) : PySem.W.Frag := [(296, k_296), (295, k_295), (303, k_303), (302, k_302), (310, k_310), (309, k_309), (317, k_317), (316, k_316)]
noncomputable def kK12 (P : Params) : PySem.W.Frag := [(322, k_322), (321, k_321), (329, k_329), (328, k_328), (334, k_334), (333, k_333), (341, k_341), (340, k_340)]
noncomputable def kK13 (P : Params) : PySem.W.Frag := [(348, k_348), (347, k_347), (353, k_353), (352, k_352), (358, k_358), (357, k_357), (365, k_365), (364, k_364)]
noncomputable def kK14 (P : Params) : PySem.W.Frag := [(372, k_372), (371, k_371), (379, k_379), (378, k_378), (36, k_36), (193, k_193), (388, k_388), (387, k_387)]
noncomputable def kK15 (P : Params) : PySem.W.Frag := [(382, k_382)]
noncomputable def KK (P : Params) : PySem.W.Frag := kK0 P ++ (kK1 P ++ (kK2 P ++ (kK3 P ++ (kK4 P ++ (kK5 P ++ (kK6 P ++ (kK7 P ++ (kK8 P ++ (kK9 P ++ (kK10 P ++ (kK11 P ++ (kK12 P ++ (kK13 P ++ (kK14 P ++ (kK15 P)))))))))))))))
noncomputable def AS : List Addr := [3, 381, 21, 20, 28, 27, 35, 34, 41, 40, 48, 47, 55, 54, 62, 61, 67, 66, 74, 73, 81, 80, 88, 87, 95, 94, 102, 101, 109, 108, 116, 115, 123, 122, 130, 129, 135, 134, 140, 139, 147, 146, 154, 153, 161, 160, 168, 167, 175, 174, 180, 179, 187, 186, 192, 191, 201, 200, 206, 205, 211, 210, 395, 394, 402, 401, 225, 224, 232, 231, 237, 236, 244, 243, 251, 250, 256, 255, 263, 262, 270, 269, 277, 276, 282, 281, 289, 288, 296, 295, 303, 302, 310, 309, 317, 316, 322, 321, 329, 328, 334, 333, 341, 340, 348, 347, 353, 352, 358, 357, 365, 364, 372, 371, 379, 378, 36, 193, 388, 387, 382]
theorem as_eq (P : Params) : AS = (KK P).map (·.1) := by kernel_rfl
theorem all_0 {p : List Value → Prop} (h : p []) (us : List Value) (e : us.length = 0) : p us := by
  rw [List.length_eq_zero_iff.mp e]
  exact h
theorem all_s {p : List Value → Prop} {n : Nat} (h : ∀ a, ∀ us : List Value, us.length = n → p (a :: us)) (us : List Value) (e : us.length = n + 1) : p us := by
  cases us with
  | nil => cases e
  | cons a us => exact h a us (Nat.succ.inj e)
section
variable {P : Params} {h : Heap} {mg : Str → Option Value}
theorem d_of (X : (KK P).In h) (G : h.Ns mainGlobals mg) {x : Str} {st : Stmt} {f cd : Addr} {pm : Value} {ps : List Str} (a : PySem.W.nsIn (KK P) mainGlobals x = some (some (.ref f))) (l : (KK P).lookup f = some (kFn x x st pm cd)) (c : PySem.W.codeIn (KK P) (.ref cd) x = true)
    (b : ∀ us : List Value, us.length = ps.length → ∀ (kV doc pm : Value) (an : Option Addr) (cdv ct : Value), bindArgs (PySem.W.fnOf x x (defArgs st) (defBody st) (defScope st) .none kV doc pm an cdv ct) ⟨us, []⟩ = pure (ps.zip us)) : Def (KK P) mg x st ps := by
  have k : PySem.W.keepIn (KK P) (.ref f) = true := by
    unfold PySem.W.keepIn
    dsimp only
    rw [l]
    rfl
  have F := fun_mk (K := KK P) (x := x) (qual := x) (st := st) (f := f) l c k
  exact ⟨_, _, F, F.binds fun kV doc pm an cdv ct us hl => b us hl kV doc pm an cdv ct, PySem.W.mg_of X G a⟩
theorem m_of {x q : Str} {st : Stmt} {f cd : Addr} {pm : Value} {ps : List Str} (a : PySem.W.findIn (KK P) (.ref 382) x = some (some (.ref f))) (i : PySem.W.isFn (KK P) (.ref f) = true) (l : (KK P).lookup f = some (kFn x q st pm cd)) (c : PySem.W.codeIn (KK P) (.ref cd) q = true)
    (b : ∀ us : List Value, us.length = ps.length → ∀ (kV doc pm : Value) (an : Option Addr) (cdv ct : Value), bindArgs (PySem.W.fnOf x q (defArgs st) (defBody st) (defScope st) .none kV doc pm an cdv ct) ⟨us, []⟩ = pure (ps.zip us)) :
    MDef (KK P) 382 x q st ps := by
  have k : PySem.W.keepIn (KK P) (.ref f) = true := by
    unfold PySem.W.keepIn
    dsimp only
    rw [l]
    rfl
  have F := fun_mk (K := KK P) (x := x) (qual := q) (st := st) (f := f) l c k
  exact ⟨_, _, F, F.binds fun kV doc pm an cdv ct us hl => b us hl kV doc pm an cdv ct, ⟨a, i, k⟩⟩
theorem k_d_common_divisor (X : (KK P).In h) (G : h.Ns mainGlobals mg) : Def (KK P) mg "common_divisor" s_common_divisor ["one", "other"] := d_of (f := 21) (cd := 20) (pm := kPm0) X G (by kernel_rfl) (by kernel_rfl) (by kernel_rfl) (all_s fun _ => all_s fun _ => all_0 fun _ _ _ _ _ _ => rfl)
theorem k_d_lowest (X : (KK P).In h) (G : h.Ns mainGlobals mg) : Def (KK P) mg "lowest" s_lowest ["upper", "lower"] := d_of (f := 28) (cd := 27) (pm := kPm0) X G (by kernel_rfl) (by kernel_rfl) (by kernel_rfl) (all_s fun _ => all_s fun _ => all_0 fun _ _ _ _ _ _ => rfl)
theorem k_d_power (X : (KK P).In h) (G : h.Ns mainGlobals mg) : Def (KK P) mg "power" s_power ["base", "times"] := d_of (f := 35) (cd := 34) (pm := kPm0) X G (by kernel_rfl) (by kernel_rfl) (by kernel_rfl) (all_s fun _ => all_s fun _ => all_0 fun _ _ _ _ _ _ => rfl)
theorem k_d_are_fields (X : (KK P).In h) (G : h.Ns mainGlobals mg) : Def (KK P) mg "are_fields" s_are_fields ["fields", "told"] := d_of (f := 41) (cd := 40) (pm := kPm1) X G (by kernel_rfl) (by kernel_rfl) (by kernel_rfl) (all_s fun _ => all_s fun _ => all_0 fun _ _ _ _ _ _ => rfl)
theorem k_d_are_generations (X : (KK P).In h) (G : h.Ns mainGlobals mg) : Def (KK P) mg "are_generations" s_are_generations ["n"] := d_of (f := 48) (cd := 47) (pm := kPm1) X G (by kernel_rfl) (by kernel_rfl) (by kernel_rfl) (all_s fun _ => all_0 fun _ _ _ _ _ _ => rfl)
theorem k_d_are_one_each (X : (KK P).In h) (G : h.Ns mainGlobals mg) : Def (KK P) mg "are_one_each" s_are_one_each ["fields", "told", "most"] := d_of (f := 55) (cd := 54) (pm := kPm1) X G (by kernel_rfl) (by kernel_rfl) (by kernel_rfl) (all_s fun _ => all_s fun _ => all_s fun _ => all_0 fun _ _ _ _ _ _ => rfl)
theorem k_d_first_time (X : (KK P).In h) (G : h.Ns mainGlobals mg) : Def (KK P) mg "first_time" s_first_time ["by_generation"] := d_of (f := 62) (cd := 61) (pm := kPm1) X G (by kernel_rfl) (by kernel_rfl) (by kernel_rfl) (all_s fun _ => all_0 fun _ _ _ _ _ _ => rfl)
theorem k_d_answer_start (X : (KK P).In h) (G : h.Ns mainGlobals mg) : Def (KK P) mg "answer_start" s_answer_start ["fields", "told"] := d_of (f := 67) (cd := 66) (pm := kPm1) X G (by kernel_rfl) (by kernel_rfl) (by kernel_rfl) (all_s fun _ => all_s fun _ => all_0 fun _ _ _ _ _ _ => rfl)
theorem k_d_answer_shares (X : (KK P).In h) (G : h.Ns mainGlobals mg) : Def (KK P) mg "answer_shares" s_answer_shares ["fields", "told"] := d_of (f := 74) (cd := 73) (pm := kPm1) X G (by kernel_rfl) (by kernel_rfl) (by kernel_rfl) (all_s fun _ => all_s fun _ => all_0 fun _ _ _ _ _ _ => rfl)
theorem k_d_answer_come (X : (KK P).In h) (G : h.Ns mainGlobals mg) : Def (KK P) mg "answer_come" s_answer_come ["fields", "told"] := d_of (f := 81) (cd := 80) (pm := kPm1) X G (by kernel_rfl) (by kernel_rfl) (by kernel_rfl) (all_s fun _ => all_s fun _ => all_0 fun _ _ _ _ _ _ => rfl)
theorem k_d_answer_share (X : (KK P).In h) (G : h.Ns mainGlobals mg) : Def (KK P) mg "answer_share" s_answer_share ["fields", "told"] := d_of (f := 88) (cd := 87) (pm := kPm1) X G (by kernel_rfl) (by kernel_rfl) (by kernel_rfl) (all_s fun _ => all_s fun _ => all_0 fun _ _ _ _ _ _ => rfl)
theorem k_d_answer_next (X : (KK P).In h) (G : h.Ns mainGlobals mg) : Def (KK P) mg "answer_next" s_answer_next ["fields", "told"] := d_of (f := 95) (cd := 94) (pm := kPm1) X G (by kernel_rfl) (by kernel_rfl) (by kernel_rfl) (all_s fun _ => all_s fun _ => all_0 fun _ _ _ _ _ _ => rfl)
theorem k_d_answer_after (X : (KK P).In h) (G : h.Ns mainGlobals mg) : Def (KK P) mg "answer_after" s_answer_after ["fields", "told"] := d_of (f := 102) (cd := 101) (pm := kPm1) X G (by kernel_rfl) (by kernel_rfl) (by kernel_rfl) (all_s fun _ => all_s fun _ => all_0 fun _ _ _ _ _ _ => rfl)
theorem k_d_answer_apart (X : (KK P).In h) (G : h.Ns mainGlobals mg) : Def (KK P) mg "answer_apart" s_answer_apart ["fields", "told"] := d_of (f := 109) (cd := 108) (pm := kPm1) X G (by kernel_rfl) (by kernel_rfl) (by kernel_rfl) (all_s fun _ => all_s fun _ => all_0 fun _ _ _ _ _ _ => rfl)
theorem k_d_answer_bound (X : (KK P).In h) (G : h.Ns mainGlobals mg) : Def (KK P) mg "answer_bound" s_answer_bound ["fields", "told"] := d_of (f := 116) (cd := 115) (pm := kPm1) X G (by kernel_rfl) (by kernel_rfl) (by kernel_rfl) (all_s fun _ => all_s fun _ => all_0 fun _ _ _ _ _ _ => rfl)
theorem k_d_answer_fewest (X : (KK P).In h) (G : h.Ns mainGlobals mg) : Def (KK P) mg "answer_fewest" s_answer_fewest ["fields", "told"] := d_of (f := 123) (cd := 122) (pm := kPm1) X G (by kernel_rfl) (by kernel_rfl) (by kernel_rfl) (all_s fun _ => all_s fun _ => all_0 fun _ _ _ _ _ _ => rfl)
theorem k_d_answer_from (X : (KK P).In h) (G : h.Ns mainGlobals mg) : Def (KK P) mg "answer_from" s_answer_from ["fields", "told"] := d_of (f := 130) (cd := 129) (pm := kPm1) X G (by kernel_rfl) (by kernel_rfl) (by kernel_rfl) (all_s fun _ => all_s fun _ => all_0 fun _ _ _ _ _ _ => rfl)
theorem k_d_answer_reach (X : (KK P).In h) (G : h.Ns mainGlobals mg) : Def (KK P) mg "answer_reach" s_answer_reach ["fields", "told"] := d_of (f := 135) (cd := 134) (pm := kPm1) X G (by kernel_rfl) (by kernel_rfl) (by kernel_rfl) (all_s fun _ => all_s fun _ => all_0 fun _ _ _ _ _ _ => rfl)
theorem k_d_answer_mixed (X : (KK P).In h) (G : h.Ns mainGlobals mg) : Def (KK P) mg "answer_mixed" s_answer_mixed ["fields", "told"] := d_of (f := 140) (cd := 139) (pm := kPm1) X G (by kernel_rfl) (by kernel_rfl) (by kernel_rfl) (all_s fun _ => all_s fun _ => all_0 fun _ _ _ _ _ _ => rfl)
theorem k_d_answer_keeps (X : (KK P).In h) (G : h.Ns mainGlobals mg) : Def (KK P) mg "answer_keeps" s_answer_keeps ["fields", "told"] := d_of (f := 147) (cd := 146) (pm := kPm1) X G (by kernel_rfl) (by kernel_rfl) (by kernel_rfl) (all_s fun _ => all_s fun _ => all_0 fun _ _ _ _ _ _ => rfl)
theorem k_d_answer_weighed (X : (KK P).In h) (G : h.Ns mainGlobals mg) : Def (KK P) mg "answer_weighed" s_answer_weighed ["fields", "told"] := d_of (f := 154) (cd := 153) (pm := kPm1) X G (by kernel_rfl) (by kernel_rfl) (by kernel_rfl) (all_s fun _ => all_s fun _ => all_0 fun _ _ _ _ _ _ => rfl)
theorem k_d_answer_rest (X : (KK P).In h) (G : h.Ns mainGlobals mg) : Def (KK P) mg "answer_rest" s_answer_rest ["fields", "told"] := d_of (f := 161) (cd := 160) (pm := kPm1) X G (by kernel_rfl) (by kernel_rfl) (by kernel_rfl) (all_s fun _ => all_s fun _ => all_0 fun _ _ _ _ _ _ => rfl)
theorem k_d_answer_pair (X : (KK P).In h) (G : h.Ns mainGlobals mg) : Def (KK P) mg "answer_pair" s_answer_pair ["fields", "told"] := d_of (f := 168) (cd := 167) (pm := kPm1) X G (by kernel_rfl) (by kernel_rfl) (by kernel_rfl) (all_s fun _ => all_s fun _ => all_0 fun _ _ _ _ _ _ => rfl)
theorem k_d_answer_first (X : (KK P).In h) (G : h.Ns mainGlobals mg) : Def (KK P) mg "answer_first" s_answer_first ["fields", "told"] := d_of (f := 175) (cd := 174) (pm := kPm1) X G (by kernel_rfl) (by kernel_rfl) (by kernel_rfl) (all_s fun _ => all_s fun _ => all_0 fun _ _ _ _ _ _ => rfl)
theorem k_d_answer_soon (X : (KK P).In h) (G : h.Ns mainGlobals mg) : Def (KK P) mg "answer_soon" s_answer_soon ["fields", "told"] := d_of (f := 180) (cd := 179) (pm := kPm1) X G (by kernel_rfl) (by kernel_rfl) (by kernel_rfl) (all_s fun _ => all_s fun _ => all_0 fun _ _ _ _ _ _ => rfl)
theorem k_d_answer_alone (X : (KK P).In h) (G : h.Ns mainGlobals mg) : Def (KK P) mg "answer_alone" s_answer_alone ["fields", "told"] := d_of (f := 187) (cd := 186) (pm := kPm1) X G (by kernel_rfl) (by kernel_rfl) (by kernel_rfl) (all_s fun _ => all_s fun _ => all_0 fun _ _ _ _ _ _ => rfl)
theorem k_d_answer_state (X : (KK P).In h) (G : h.Ns mainGlobals mg) : Def (KK P) mg "answer_state" s_answer_state ["fields", "told"] := d_of (f := 192) (cd := 191) (pm := kPm1) X G (by kernel_rfl) (by kernel_rfl) (by kernel_rfl) (all_s fun _ => all_s fun _ => all_0 fun _ _ _ _ _ _ => rfl)
theorem k_d_answer_call (X : (KK P).In h) (G : h.Ns mainGlobals mg) : Def (KK P) mg "answer_call" s_answer_call ["fields", "number", "told"] := d_of (f := 201) (cd := 200) (pm := kPm1) X G (by kernel_rfl) (by kernel_rfl) (by kernel_rfl) (all_s fun _ => all_s fun _ => all_s fun _ => all_0 fun _ _ _ _ _ _ => rfl)
theorem k_d_generations_on (X : (KK P).In h) (G : h.Ns mainGlobals mg) : Def (KK P) mg "generations_on" s_generations_on ["rows", "uppers", "n"] := d_of (f := 206) (cd := 205) (pm := kPm2) X G (by kernel_rfl) (by kernel_rfl) (by kernel_rfl) (all_s fun _ => all_s fun _ => all_s fun _ => all_0 fun _ _ _ _ _ _ => rfl)
theorem k_d_weighed_sum (X : (KK P).In h) (G : h.Ns mainGlobals mg) : Def (KK P) mg "weighed_sum" s_weighed_sum ["weights", "uppers"] := d_of (f := 211) (cd := 210) (pm := kPm2) X G (by kernel_rfl) (by kernel_rfl) (by kernel_rfl) (all_s fun _ => all_s fun _ => all_0 fun _ _ _ _ _ _ => rfl)
theorem k_d_split_calls (X : (KK P).In h) (G : h.Ns mainGlobals mg) : Def (KK P) mg "split_calls" s_split_calls ["calls"] := d_of (f := 395) (cd := 394) (pm := kPm3) X G (by kernel_rfl) (by kernel_rfl) (by kernel_rfl) (all_s fun _ => all_0 fun _ _ _ _ _ _ => rfl)
theorem k_d_answers (X : (KK P).In h) (G : h.Ns mainGlobals mg) : Def (KK P) mg "answers" s_answers ["calls"] := d_of (f := 402) (cd := 401) (pm := kPm4) X G (by kernel_rfl) (by kernel_rfl) (by kernel_rfl) (all_s fun _ => all_0 fun _ _ _ _ _ _ => rfl)
theorem k_m_init : MDef (KK P) 382 "__init__" "Fields.__init__" s_Fields_init ["self"] := m_of (f := 225) (cd := 224) (pm := kPm2) (by kernel_rfl) (by kernel_rfl) (by kernel_rfl) (by kernel_rfl) (all_s fun _ => all_0 fun _ _ _ _ _ _ => rfl)
theorem k_m_how_many : MDef (KK P) 382 "how_many" "Fields.how_many" s_Fields_how_many ["self"] := m_of (f := 232) (cd := 231) (pm := kPm2) (by kernel_rfl) (by kernel_rfl) (by kernel_rfl) (by kernel_rfl) (all_s fun _ => all_0 fun _ _ _ _ _ _ => rfl)
theorem k_m_begin : MDef (KK P) 382 "begin" "Fields.begin" s_Fields_begin ["self", "rows"] := m_of (f := 237) (cd := 236) (pm := kPm2) (by kernel_rfl) (by kernel_rfl) (by kernel_rfl) (by kernel_rfl) (all_s fun _ => all_s fun _ => all_0 fun _ _ _ _ _ _ => rfl)
theorem k_m_tell_shares : MDef (KK P) 382 "tell_shares" "Fields.tell_shares" s_Fields_tell_shares ["self", "hundredths"] := m_of (f := 244) (cd := 243) (pm := kPm2) (by kernel_rfl) (by kernel_rfl) (by kernel_rfl) (by kernel_rfl) (all_s fun _ => all_s fun _ => all_0 fun _ _ _ _ _ _ => rfl)
theorem k_m_comers : MDef (KK P) 382 "comers" "Fields.comers" s_Fields_comers ["self", "i", "j"] := m_of (f := 251) (cd := 250) (pm := kPm2) (by kernel_rfl) (by kernel_rfl) (by kernel_rfl) (by kernel_rfl) (all_s fun _ => all_s fun _ => all_s fun _ => all_0 fun _ _ _ _ _ _ => rfl)
theorem k_m_comers_from : MDef (KK P) 382 "comers_from" "Fields.comers_from" s_Fields_comers_from ["self", "j"] := m_of (f := 256) (cd := 255) (pm := kPm2) (by kernel_rfl) (by kernel_rfl) (by kernel_rfl) (by kernel_rfl) (all_s fun _ => all_s fun _ => all_0 fun _ _ _ _ _ _ => rfl)
theorem k_m_own_comers : MDef (KK P) 382 "own_comers" "Fields.own_comers" s_Fields_own_comers ["self", "i"] := m_of (f := 263) (cd := 262) (pm := kPm2) (by kernel_rfl) (by kernel_rfl) (by kernel_rfl) (by kernel_rfl) (all_s fun _ => all_s fun _ => all_0 fun _ _ _ _ _ _ => rfl)
theorem k_m_move_comers : MDef (KK P) 382 "move_comers" "Fields.move_comers" s_Fields_move_comers ["self", "i", "j", "k", "n"] := m_of (f := 270) (cd := 269) (pm := kPm2) (by kernel_rfl) (by kernel_rfl) (by kernel_rfl) (by kernel_rfl) (all_s fun _ => all_s fun _ => all_s fun _ => all_s fun _ => all_s fun _ => all_0 fun _ _ _ _ _ _ => rfl)
theorem k_m_go_by : MDef (KK P) 382 "go_by" "Fields.go_by" s_Fields_go_by ["self"] := m_of (f := 277) (cd := 276) (pm := kPm2) (by kernel_rfl) (by kernel_rfl) (by kernel_rfl) (by kernel_rfl) (all_s fun _ => all_0 fun _ _ _ _ _ _ => rfl)
theorem k_m_greatest_lower : MDef (KK P) 382 "greatest_lower" "Fields.greatest_lower" s_Fields_greatest_lower ["self"] := m_of (f := 282) (cd := 281) (pm := kPm2) (by kernel_rfl) (by kernel_rfl) (by kernel_rfl) (by kernel_rfl) (all_s fun _ => all_0 fun _ _ _ _ _ _ => rfl)
theorem k_m_lower_after : MDef (KK P) 382 "lower_after" "Fields.lower_after" s_Fields_lower_after ["self", "n"] := m_of (f := 289) (cd := 288) (pm := kPm2) (by kernel_rfl) (by kernel_rfl) (by kernel_rfl) (by kernel_rfl) (all_s fun _ => all_s fun _ => all_0 fun _ _ _ _ _ _ => rfl)
theorem k_m_share_after : MDef (KK P) 382 "share_after" "Fields.share_after" s_Fields_share_after ["self", "n", "i"] := m_of (f := 296) (cd := 295) (pm := kPm2) (by kernel_rfl) (by kernel_rfl) (by kernel_rfl) (by kernel_rfl) (all_s fun _ => all_s fun _ => all_s fun _ => all_0 fun _ _ _ _ _ _ => rfl)
theorem k_m_apart_after : MDef (KK P) 382 "apart_after" "Fields.apart_after" s_Fields_apart_after ["self", "n"] := m_of (f := 303) (cd := 302) (pm := kPm2) (by kernel_rfl) (by kernel_rfl) (by kernel_rfl) (by kernel_rfl) (all_s fun _ => all_s fun _ => all_0 fun _ _ _ _ _ _ => rfl)
theorem k_m_is_near_after : MDef (KK P) 382 "is_near_after" "Fields.is_near_after" s_Fields_is_near_after ["self", "n", "m"] := m_of (f := 310) (cd := 309) (pm := kPm2) (by kernel_rfl) (by kernel_rfl) (by kernel_rfl) (by kernel_rfl) (all_s fun _ => all_s fun _ => all_s fun _ => all_0 fun _ _ _ _ _ _ => rfl)
theorem k_m_first_greatest_after : MDef (KK P) 382 "first_greatest_after" "Fields.first_greatest_after" s_Fields_first_greatest_after ["self", "n"] := m_of (f := 317) (cd := 316) (pm := kPm2) (by kernel_rfl) (by kernel_rfl) (by kernel_rfl) (by kernel_rfl) (all_s fun _ => all_s fun _ => all_0 fun _ _ _ _ _ _ => rfl)
theorem k_m_fewest : MDef (KK P) 382 "fewest" "Fields.fewest" s_Fields_fewest ["self"] := m_of (f := 322) (cd := 321) (pm := kPm2) (by kernel_rfl) (by kernel_rfl) (by kernel_rfl) (by kernel_rfl) (all_s fun _ => all_0 fun _ _ _ _ _ _ => rfl)
theorem k_m_bound_after : MDef (KK P) 382 "bound_after" "Fields.bound_after" s_Fields_bound_after ["self", "n"] := m_of (f := 329) (cd := 328) (pm := kPm2) (by kernel_rfl) (by kernel_rfl) (by kernel_rfl) (by kernel_rfl) (all_s fun _ => all_s fun _ => all_0 fun _ _ _ _ _ _ => rfl)
theorem k_m_forebear_uppers : MDef (KK P) 382 "forebear_uppers" "Fields.forebear_uppers" s_Fields_forebear_uppers ["self", "n", "j"] := m_of (f := 334) (cd := 333) (pm := kPm2) (by kernel_rfl) (by kernel_rfl) (by kernel_rfl) (by kernel_rfl) (all_s fun _ => all_s fun _ => all_s fun _ => all_0 fun _ _ _ _ _ _ => rfl)
theorem k_m_forebears_after : MDef (KK P) 382 "forebears_after" "Fields.forebears_after" s_Fields_forebears_after ["self", "n", "i", "j"] := m_of (f := 341) (cd := 340) (pm := kPm2) (by kernel_rfl) (by kernel_rfl) (by kernel_rfl) (by kernel_rfl) (all_s fun _ => all_s fun _ => all_s fun _ => all_s fun _ => all_0 fun _ _ _ _ _ _ => rfl)
theorem k_m_has_some_after : MDef (KK P) 382 "has_some_after" "Fields.has_some_after" s_Fields_has_some_after ["self", "n", "i", "j"] := m_of (f := 348) (cd := 347) (pm := kPm2) (by kernel_rfl) (by kernel_rfl) (by kernel_rfl) (by kernel_rfl) (all_s fun _ => all_s fun _ => all_s fun _ => all_s fun _ => all_0 fun _ _ _ _ _ _ => rfl)
theorem k_m_is_mixed_after : MDef (KK P) 382 "is_mixed_after" "Fields.is_mixed_after" s_Fields_is_mixed_after ["self", "n"] := m_of (f := 353) (cd := 352) (pm := kPm2) (by kernel_rfl) (by kernel_rfl) (by kernel_rfl) (by kernel_rfl) (all_s fun _ => all_s fun _ => all_0 fun _ _ _ _ _ _ => rfl)
theorem k_m_are_keeping : MDef (KK P) 382 "are_keeping" "Fields.are_keeping" s_Fields_are_keeping ["self", "weights"] := m_of (f := 358) (cd := 357) (pm := kPm2) (by kernel_rfl) (by kernel_rfl) (by kernel_rfl) (by kernel_rfl) (all_s fun _ => all_s fun _ => all_0 fun _ _ _ _ _ _ => rfl)
theorem k_m_weighed : MDef (KK P) 382 "weighed" "Fields.weighed" s_Fields_weighed ["self", "weights"] := m_of (f := 365) (cd := 364) (pm := kPm2) (by kernel_rfl) (by kernel_rfl) (by kernel_rfl) (by kernel_rfl) (all_s fun _ => all_s fun _ => all_0 fun _ _ _ _ _ _ => rfl)
theorem k_m_rest_of_two : MDef (KK P) 382 "rest_of_two" "Fields.rest_of_two" s_Fields_rest_of_two ["self", "a", "b"] := m_of (f := 372) (cd := 371) (pm := kPm2) (by kernel_rfl) (by kernel_rfl) (by kernel_rfl) (by kernel_rfl) (all_s fun _ => all_s fun _ => all_s fun _ => all_0 fun _ _ _ _ _ _ => rfl)
theorem k_m_two_after : MDef (KK P) 382 "two_after" "Fields.two_after" s_Fields_two_after ["self", "a", "b", "n"] := m_of (f := 379) (cd := 378) (pm := kPm2) (by kernel_rfl) (by kernel_rfl) (by kernel_rfl) (by kernel_rfl) (all_s fun _ => all_s fun _ => all_s fun _ => all_s fun _ => all_0 fun _ _ _ _ _ _ => rfl)
end
structure Txt (K : PySem.W.Frag) (mg : Str → Option Value) (C : Addr) : Prop where
  ex : ∃ (P : Params) (h : Heap), K = KK P ∧ C = 382 ∧ (KK P).In h ∧ h.Ns mainGlobals mg
theorem txt_of {P : Params} {h : Heap} {mg : Str → Option Value} (X : (KK P).In h) (G : h.Ns mainGlobals mg) : Txt (KK P) mg 382 := ⟨P, h, rfl, rfl, X, G⟩
section
variable {K : PySem.W.Frag} {mg : Str → Option Value} {C : Addr}
theorem Txt.use (T : Txt K mg C) {M : PySem.W.Frag → (Str → Option Value) → Addr → Prop} (f : ∀ (P : Params) (h : Heap), (KK P).In h → h.Ns mainGlobals mg → M (KK P) mg 382) : M K mg C := by
  obtain ⟨P, h, rfl, rfl, X, G⟩ := T.ex
  exact f P h X G
theorem Txt.cl (T : Txt K mg C) : Cls K C := T.use (M := fun K mg C => Cls K C) fun P h X G => ⟨(by kernel_rfl), (by kernel_rfl), (by kernel_rfl), (by kernel_rfl)⟩
theorem Txt.mC (T : Txt K mg C) : mg "Fields" = some (.ref C) := T.use (M := fun K mg C => mg "Fields" = some (.ref C)) fun P h X G => PySem.W.mg_of X G (by kernel_rfl)
theorem Txt.n_common_lower (T : Txt K mg C) : NoAttr K C "common_lower" := T.use (M := fun K mg C => NoAttr K C "common_lower") fun P h X G => (show PySem.W.findIn (KK P) (.ref 382) "common_lower" = some none by kernel_rfl)
theorem Txt.n_rows (T : Txt K mg C) : NoAttr K C "rows" := T.use (M := fun K mg C => NoAttr K C "rows") fun P h X G => (show PySem.W.findIn (KK P) (.ref 382) "rows" = some none by kernel_rfl)
theorem Txt.n_uppers (T : Txt K mg C) : NoAttr K C "uppers" := T.use (M := fun K mg C => NoAttr K C "uppers") fun P h X G => (show PySem.W.findIn (KK P) (.ref 382) "uppers" = some none by kernel_rfl)
theorem Txt.b_abs (T : Txt K mg C) : mg "abs" = none := T.use (M := fun K mg C => mg "abs" = none) fun P h X G => PySem.W.mg_none_of X G (by kernel_rfl)
theorem Txt.b_range (T : Txt K mg C) : mg "range" = none := T.use (M := fun K mg C => mg "range" = none) fun P h X G => PySem.W.mg_none_of X G (by kernel_rfl)
theorem Txt.b_sum (T : Txt K mg C) : mg "sum" = none := T.use (M := fun K mg C => mg "sum" = none) fun P h X G => PySem.W.mg_none_of X G (by kernel_rfl)
theorem Txt.b_zip (T : Txt K mg C) : mg "zip" = none := T.use (M := fun K mg C => mg "zip" = none) fun P h X G => PySem.W.mg_none_of X G (by kernel_rfl)
theorem Txt.b_max (T : Txt K mg C) : mg "max" = none := T.use (M := fun K mg C => mg "max" = none) fun P h X G => PySem.W.mg_none_of X G (by kernel_rfl)
theorem Txt.b_min (T : Txt K mg C) : mg "min" = none := T.use (M := fun K mg C => mg "min" = none) fun P h X G => PySem.W.mg_none_of X G (by kernel_rfl)
theorem Txt.b_len (T : Txt K mg C) : mg "len" = none := T.use (M := fun K mg C => mg "len" = none) fun P h X G => PySem.W.mg_none_of X G (by kernel_rfl)
theorem Txt.b_all (T : Txt K mg C) : mg "all" = none := T.use (M := fun K mg C => mg "all" = none) fun P h X G => PySem.W.mg_none_of X G (by kernel_rfl)
theorem Txt.b_any (T : Txt K mg C) : mg "any" = none := T.use (M := fun K mg C => mg "any" = none) fun P h X G => PySem.W.mg_none_of X G (by kernel_rfl)
theorem Txt.b_enumerate (T : Txt K mg C) : mg "enumerate" = none := T.use (M := fun K mg C => mg "enumerate" = none) fun P h X G => PySem.W.mg_none_of X G (by kernel_rfl)
theorem Txt.c_HUNDRED (T : Txt K mg C) : Num1 mg "HUNDRED" 100 := T.use (M := fun K mg C => Num1 mg "HUNDRED" 100) fun P h X G => ⟨189, PySem.W.mg_of X G (by kernel_rfl)⟩
theorem Txt.c_START (T : Txt K mg C) : Num1 mg "START" 0 := T.use (M := fun K mg C => Num1 mg "START" 0) fun P h X G => ⟨221, PySem.W.mg_of X G (by kernel_rfl)⟩
theorem Txt.c_DONE (T : Txt K mg C) : Num1 mg "DONE" 0 := T.use (M := fun K mg C => Num1 mg "DONE" 0) fun P h X G => ⟨223, PySem.W.mg_of X G (by kernel_rfl)⟩
theorem Txt.c_NOT_STARTED (T : Txt K mg C) : Num1 mg "NOT_STARTED" (-11) := T.use (M := fun K mg C => Num1 mg "NOT_STARTED" (-11)) fun P h X G => ⟨226, PySem.W.mg_of X G (by kernel_rfl)⟩
theorem Txt.c_NOT_TO_BE_MOVED (T : Txt K mg C) : Num1 mg "NOT_TO_BE_MOVED" (-12) := T.use (M := fun K mg C => Num1 mg "NOT_TO_BE_MOVED" (-12)) fun P h X G => ⟨229, PySem.W.mg_of X G (by kernel_rfl)⟩
theorem Txt.c_NOT_AS_TOLD (T : Txt K mg C) : Num1 mg "NOT_AS_TOLD" (-22) := T.use (M := fun K mg C => Num1 mg "NOT_AS_TOLD" (-22)) fun P h X G => ⟨232, PySem.W.mg_of X G (by kernel_rfl)⟩
theorem Txt.c_TOO_FINE (T : Txt K mg C) : Num1 mg "TOO_FINE" (-28) := T.use (M := fun K mg C => Num1 mg "TOO_FINE" (-28)) fun P h X G => ⟨235, PySem.W.mg_of X G (by kernel_rfl)⟩
theorem Txt.c_NOT_WITHIN (T : Txt K mg C) : Num1 mg "NOT_WITHIN" (-33) := T.use (M := fun K mg C => Num1 mg "NOT_WITHIN" (-33)) fun P h X G => ⟨238, PySem.W.mg_of X G (by kernel_rfl)⟩
theorem Txt.c_MOST_GENERATIONS (T : Txt K mg C) : Num1 mg "MOST_GENERATIONS" 4 := T.use (M := fun K mg C => Num1 mg "MOST_GENERATIONS" 4) fun P h X G => ⟨240, PySem.W.mg_of X G (by kernel_rfl)⟩
theorem Txt.c_MOST_WEIGHT (T : Txt K mg C) : Num1 mg "MOST_WEIGHT" 1000 := T.use (M := fun K mg C => Num1 mg "MOST_WEIGHT" 1000) fun P h X G => ⟨242, PySem.W.mg_of X G (by kernel_rfl)⟩
theorem Txt.c_MOST_PARTS (T : Txt K mg C) : Num1 mg "MOST_PARTS" 1000 := T.use (M := fun K mg C => Num1 mg "MOST_PARTS" 1000) fun P h X G => ⟨244, PySem.W.mg_of X G (by kernel_rfl)⟩
theorem Txt.c_FINEST_LOWER (T : Txt K mg C) : Num1 mg "FINEST_LOWER" 1000000 := T.use (M := fun K mg C => Num1 mg "FINEST_LOWER" 1000000) fun P h X G => ⟨246, PySem.W.mg_of X G (by kernel_rfl)⟩
theorem Txt.d_common_divisor (T : Txt K mg C) : Def K mg "common_divisor" s_common_divisor ["one", "other"] := T.use (M := fun K mg C => Def K mg "common_divisor" s_common_divisor ["one", "other"]) fun P h X G => k_d_common_divisor X G
theorem Txt.d_lowest (T : Txt K mg C) : Def K mg "lowest" s_lowest ["upper", "lower"] := T.use (M := fun K mg C => Def K mg "lowest" s_lowest ["upper", "lower"]) fun P h X G => k_d_lowest X G
theorem Txt.d_power (T : Txt K mg C) : Def K mg "power" s_power ["base", "times"] := T.use (M := fun K mg C => Def K mg "power" s_power ["base", "times"]) fun P h X G => k_d_power X G
theorem Txt.d_are_fields (T : Txt K mg C) : Def K mg "are_fields" s_are_fields ["fields", "told"] := T.use (M := fun K mg C => Def K mg "are_fields" s_are_fields ["fields", "told"]) fun P h X G => k_d_are_fields X G
theorem Txt.d_are_generations (T : Txt K mg C) : Def K mg "are_generations" s_are_generations ["n"] := T.use (M := fun K mg C => Def K mg "are_generations" s_are_generations ["n"]) fun P h X G => k_d_are_generations X G
theorem Txt.d_are_one_each (T : Txt K mg C) : Def K mg "are_one_each" s_are_one_each ["fields", "told", "most"] := T.use (M := fun K mg C => Def K mg "are_one_each" s_are_one_each ["fields", "told", "most"]) fun P h X G => k_d_are_one_each X G
theorem Txt.d_first_time (T : Txt K mg C) : Def K mg "first_time" s_first_time ["by_generation"] := T.use (M := fun K mg C => Def K mg "first_time" s_first_time ["by_generation"]) fun P h X G => k_d_first_time X G
theorem Txt.d_answer_start (T : Txt K mg C) : Def K mg "answer_start" s_answer_start ["fields", "told"] := T.use (M := fun K mg C => Def K mg "answer_start" s_answer_start ["fields", "told"]) fun P h X G => k_d_answer_start X G
theorem Txt.d_answer_shares (T : Txt K mg C) : Def K mg "answer_shares" s_answer_shares ["fields", "told"] := T.use (M := fun K mg C => Def K mg "answer_shares" s_answer_shares ["fields", "told"]) fun P h X G => k_d_answer_shares X G
theorem Txt.d_answer_come (T : Txt K mg C) : Def K mg "answer_come" s_answer_come ["fields", "told"] := T.use (M := fun K mg C => Def K mg "answer_come" s_answer_come ["fields", "told"]) fun P h X G => k_d_answer_come X G
theorem Txt.d_answer_share (T : Txt K mg C) : Def K mg "answer_share" s_answer_share ["fields", "told"] := T.use (M := fun K mg C => Def K mg "answer_share" s_answer_share ["fields", "told"]) fun P h X G => k_d_answer_share X G
theorem Txt.d_answer_next (T : Txt K mg C) : Def K mg "answer_next" s_answer_next ["fields", "told"] := T.use (M := fun K mg C => Def K mg "answer_next" s_answer_next ["fields", "told"]) fun P h X G => k_d_answer_next X G
theorem Txt.d_answer_after (T : Txt K mg C) : Def K mg "answer_after" s_answer_after ["fields", "told"] := T.use (M := fun K mg C => Def K mg "answer_after" s_answer_after ["fields", "told"]) fun P h X G => k_d_answer_after X G
theorem Txt.d_answer_apart (T : Txt K mg C) : Def K mg "answer_apart" s_answer_apart ["fields", "told"] := T.use (M := fun K mg C => Def K mg "answer_apart" s_answer_apart ["fields", "told"]) fun P h X G => k_d_answer_apart X G
theorem Txt.d_answer_bound (T : Txt K mg C) : Def K mg "answer_bound" s_answer_bound ["fields", "told"] := T.use (M := fun K mg C => Def K mg "answer_bound" s_answer_bound ["fields", "told"]) fun P h X G => k_d_answer_bound X G
theorem Txt.d_answer_fewest (T : Txt K mg C) : Def K mg "answer_fewest" s_answer_fewest ["fields", "told"] := T.use (M := fun K mg C => Def K mg "answer_fewest" s_answer_fewest ["fields", "told"]) fun P h X G => k_d_answer_fewest X G
theorem Txt.d_answer_from (T : Txt K mg C) : Def K mg "answer_from" s_answer_from ["fields", "told"] := T.use (M := fun K mg C => Def K mg "answer_from" s_answer_from ["fields", "told"]) fun P h X G => k_d_answer_from X G
theorem Txt.d_answer_reach (T : Txt K mg C) : Def K mg "answer_reach" s_answer_reach ["fields", "told"] := T.use (M := fun K mg C => Def K mg "answer_reach" s_answer_reach ["fields", "told"]) fun P h X G => k_d_answer_reach X G
theorem Txt.d_answer_mixed (T : Txt K mg C) : Def K mg "answer_mixed" s_answer_mixed ["fields", "told"] := T.use (M := fun K mg C => Def K mg "answer_mixed" s_answer_mixed ["fields", "told"]) fun P h X G => k_d_answer_mixed X G
theorem Txt.d_answer_keeps (T : Txt K mg C) : Def K mg "answer_keeps" s_answer_keeps ["fields", "told"] := T.use (M := fun K mg C => Def K mg "answer_keeps" s_answer_keeps ["fields", "told"]) fun P h X G => k_d_answer_keeps X G
theorem Txt.d_answer_weighed (T : Txt K mg C) : Def K mg "answer_weighed" s_answer_weighed ["fields", "told"] := T.use (M := fun K mg C => Def K mg "answer_weighed" s_answer_weighed ["fields", "told"]) fun P h X G => k_d_answer_weighed X G
theorem Txt.d_answer_rest (T : Txt K mg C) : Def K mg "answer_rest" s_answer_rest ["fields", "told"] := T.use (M := fun K mg C => Def K mg "answer_rest" s_answer_rest ["fields", "told"]) fun P h X G => k_d_answer_rest X G
theorem Txt.d_answer_pair (T : Txt K mg C) : Def K mg "answer_pair" s_answer_pair ["fields", "told"] := T.use (M := fun K mg C => Def K mg "answer_pair" s_answer_pair ["fields", "told"]) fun P h X G => k_d_answer_pair X G
theorem Txt.d_answer_first (T : Txt K mg C) : Def K mg "answer_first" s_answer_first ["fields", "told"] := T.use (M := fun K mg C => Def K mg "answer_first" s_answer_first ["fields", "told"]) fun P h X G => k_d_answer_first X G
theorem Txt.d_answer_soon (T : Txt K mg C) : Def K mg "answer_soon" s_answer_soon ["fields", "told"] := T.use (M := fun K mg C => Def K mg "answer_soon" s_answer_soon ["fields", "told"]) fun P h X G => k_d_answer_soon X G
theorem Txt.d_answer_alone (T : Txt K mg C) : Def K mg "answer_alone" s_answer_alone ["fields", "told"] := T.use (M := fun K mg C => Def K mg "answer_alone" s_answer_alone ["fields", "told"]) fun P h X G => k_d_answer_alone X G
theorem Txt.d_answer_state (T : Txt K mg C) : Def K mg "answer_state" s_answer_state ["fields", "told"] := T.use (M := fun K mg C => Def K mg "answer_state" s_answer_state ["fields", "told"]) fun P h X G => k_d_answer_state X G
theorem Txt.d_answer_call (T : Txt K mg C) : Def K mg "answer_call" s_answer_call ["fields", "number", "told"] := T.use (M := fun K mg C => Def K mg "answer_call" s_answer_call ["fields", "number", "told"]) fun P h X G => k_d_answer_call X G
theorem Txt.d_generations_on (T : Txt K mg C) : Def K mg "generations_on" s_generations_on ["rows", "uppers", "n"] := T.use (M := fun K mg C => Def K mg "generations_on" s_generations_on ["rows", "uppers", "n"]) fun P h X G => k_d_generations_on X G
theorem Txt.d_weighed_sum (T : Txt K mg C) : Def K mg "weighed_sum" s_weighed_sum ["weights", "uppers"] := T.use (M := fun K mg C => Def K mg "weighed_sum" s_weighed_sum ["weights", "uppers"]) fun P h X G => k_d_weighed_sum X G
theorem Txt.d_split_calls (T : Txt K mg C) : Def K mg "split_calls" s_split_calls ["calls"] := T.use (M := fun K mg C => Def K mg "split_calls" s_split_calls ["calls"]) fun P h X G => k_d_split_calls X G
theorem Txt.d_answers (T : Txt K mg C) : Def K mg "answers" s_answers ["calls"] := T.use (M := fun K mg C => Def K mg "answers" s_answers ["calls"]) fun P h X G => k_d_answers X G
theorem Txt.mkI (T : Txt K mg C) : ∃ (f : Addr) (fd : FuncData), Fun K "__init__" "Fields.__init__" s_Fields_init f fd ∧ Binds K fd ["self"] [] ∧ Mk K C f := T.use (M := fun K mg C => ∃ (f : Addr) (fd : FuncData), Fun K "__init__" "Fields.__init__" s_Fields_init f fd ∧ Binds K fd ["self"] [] ∧ Mk K C f) fun P h X G => let ⟨f, fd, F, B, M⟩ := k_m_init (P := P); ⟨f, fd, F, B, ⟨(by kernel_rfl), M.at_, M.fn, (by kernel_rfl)⟩⟩
theorem Txt.m_how_many (T : Txt K mg C) : MDef K C "how_many" "Fields.how_many" s_Fields_how_many ["self"] := T.use (M := fun K mg C => MDef K C "how_many" "Fields.how_many" s_Fields_how_many ["self"]) fun P h X G => k_m_how_many
theorem Txt.m_begin (T : Txt K mg C) : MDef K C "begin" "Fields.begin" s_Fields_begin ["self", "rows"] := T.use (M := fun K mg C => MDef K C "begin" "Fields.begin" s_Fields_begin ["self", "rows"]) fun P h X G => k_m_begin
theorem Txt.m_tell_shares (T : Txt K mg C) : MDef K C "tell_shares" "Fields.tell_shares" s_Fields_tell_shares ["self", "hundredths"] := T.use (M := fun K mg C => MDef K C "tell_shares" "Fields.tell_shares" s_Fields_tell_shares ["self", "hundredths"]) fun P h X G => k_m_tell_shares
theorem Txt.m_comers (T : Txt K mg C) : MDef K C "comers" "Fields.comers" s_Fields_comers ["self", "i", "j"] := T.use (M := fun K mg C => MDef K C "comers" "Fields.comers" s_Fields_comers ["self", "i", "j"]) fun P h X G => k_m_comers
theorem Txt.m_comers_from (T : Txt K mg C) : MDef K C "comers_from" "Fields.comers_from" s_Fields_comers_from ["self", "j"] := T.use (M := fun K mg C => MDef K C "comers_from" "Fields.comers_from" s_Fields_comers_from ["self", "j"]) fun P h X G => k_m_comers_from
theorem Txt.m_own_comers (T : Txt K mg C) : MDef K C "own_comers" "Fields.own_comers" s_Fields_own_comers ["self", "i"] := T.use (M := fun K mg C => MDef K C "own_comers" "Fields.own_comers" s_Fields_own_comers ["self", "i"]) fun P h X G => k_m_own_comers
theorem Txt.m_move_comers (T : Txt K mg C) : MDef K C "move_comers" "Fields.move_comers" s_Fields_move_comers ["self", "i", "j", "k", "n"] := T.use (M := fun K mg C => MDef K C "move_comers" "Fields.move_comers" s_Fields_move_comers ["self", "i", "j", "k", "n"]) fun P h X G => k_m_move_comers
theorem Txt.m_go_by (T : Txt K mg C) : MDef K C "go_by" "Fields.go_by" s_Fields_go_by ["self"] := T.use (M := fun K mg C => MDef K C "go_by" "Fields.go_by" s_Fields_go_by ["self"]) fun P h X G => k_m_go_by
theorem Txt.m_greatest_lower (T : Txt K mg C) : MDef K C "greatest_lower" "Fields.greatest_lower" s_Fields_greatest_lower ["self"] := T.use (M := fun K mg C => MDef K C "greatest_lower" "Fields.greatest_lower" s_Fields_greatest_lower ["self"]) fun P h X G => k_m_greatest_lower
theorem Txt.m_lower_after (T : Txt K mg C) : MDef K C "lower_after" "Fields.lower_after" s_Fields_lower_after ["self", "n"] := T.use (M := fun K mg C => MDef K C "lower_after" "Fields.lower_after" s_Fields_lower_after ["self", "n"]) fun P h X G => k_m_lower_after
theorem Txt.m_share_after (T : Txt K mg C) : MDef K C "share_after" "Fields.share_after" s_Fields_share_after ["self", "n", "i"] := T.use (M := fun K mg C => MDef K C "share_after" "Fields.share_after" s_Fields_share_after ["self", "n", "i"]) fun P h X G => k_m_share_after
theorem Txt.m_apart_after (T : Txt K mg C) : MDef K C "apart_after" "Fields.apart_after" s_Fields_apart_after ["self", "n"] := T.use (M := fun K mg C => MDef K C "apart_after" "Fields.apart_after" s_Fields_apart_after ["self", "n"]) fun P h X G => k_m_apart_after
theorem Txt.m_is_near_after (T : Txt K mg C) : MDef K C "is_near_after" "Fields.is_near_after" s_Fields_is_near_after ["self", "n", "m"] := T.use (M := fun K mg C => MDef K C "is_near_after" "Fields.is_near_after" s_Fields_is_near_after ["self", "n", "m"]) fun P h X G => k_m_is_near_after
theorem Txt.m_first_greatest_after (T : Txt K mg C) : MDef K C "first_greatest_after" "Fields.first_greatest_after" s_Fields_first_greatest_after ["self", "n"] := T.use (M := fun K mg C => MDef K C "first_greatest_after" "Fields.first_greatest_after" s_Fields_first_greatest_after ["self", "n"]) fun P h X G => k_m_first_greatest_after
theorem Txt.m_fewest (T : Txt K mg C) : MDef K C "fewest" "Fields.fewest" s_Fields_fewest ["self"] := T.use (M := fun K mg C => MDef K C "fewest" "Fields.fewest" s_Fields_fewest ["self"]) fun P h X G => k_m_fewest
theorem Txt.m_bound_after (T : Txt K mg C) : MDef K C "bound_after" "Fields.bound_after" s_Fields_bound_after ["self", "n"] := T.use (M := fun K mg C => MDef K C "bound_after" "Fields.bound_after" s_Fields_bound_after ["self", "n"]) fun P h X G => k_m_bound_after
theorem Txt.m_forebear_uppers (T : Txt K mg C) : MDef K C "forebear_uppers" "Fields.forebear_uppers" s_Fields_forebear_uppers ["self", "n", "j"] := T.use (M := fun K mg C => MDef K C "forebear_uppers" "Fields.forebear_uppers" s_Fields_forebear_uppers ["self", "n", "j"]) fun P h X G => k_m_forebear_uppers
theorem Txt.m_forebears_after (T : Txt K mg C) : MDef K C "forebears_after" "Fields.forebears_after" s_Fields_forebears_after ["self", "n", "i", "j"] := T.use (M := fun K mg C => MDef K C "forebears_after" "Fields.forebears_after" s_Fields_forebears_after ["self", "n", "i", "j"]) fun P h X G => k_m_forebears_after
theorem Txt.m_has_some_after (T : Txt K mg C) : MDef K C "has_some_after" "Fields.has_some_after" s_Fields_has_some_after ["self", "n", "i", "j"] := T.use (M := fun K mg C => MDef K C "has_some_after" "Fields.has_some_after" s_Fields_has_some_after ["self", "n", "i", "j"]) fun P h X G => k_m_has_some_after
theorem Txt.m_is_mixed_after (T : Txt K mg C) : MDef K C "is_mixed_after" "Fields.is_mixed_after" s_Fields_is_mixed_after ["self", "n"] := T.use (M := fun K mg C => MDef K C "is_mixed_after" "Fields.is_mixed_after" s_Fields_is_mixed_after ["self", "n"]) fun P h X G => k_m_is_mixed_after
theorem Txt.m_are_keeping (T : Txt K mg C) : MDef K C "are_keeping" "Fields.are_keeping" s_Fields_are_keeping ["self", "weights"] := T.use (M := fun K mg C => MDef K C "are_keeping" "Fields.are_keeping" s_Fields_are_keeping ["self", "weights"]) fun P h X G => k_m_are_keeping
theorem Txt.m_weighed (T : Txt K mg C) : MDef K C "weighed" "Fields.weighed" s_Fields_weighed ["self", "weights"] := T.use (M := fun K mg C => MDef K C "weighed" "Fields.weighed" s_Fields_weighed ["self", "weights"]) fun P h X G => k_m_weighed
theorem Txt.m_rest_of_two (T : Txt K mg C) : MDef K C "rest_of_two" "Fields.rest_of_two" s_Fields_rest_of_two ["self", "a", "b"] := T.use (M := fun K mg C => MDef K C "rest_of_two" "Fields.rest_of_two" s_Fields_rest_of_two ["self", "a", "b"]) fun P h X G => k_m_rest_of_two
theorem Txt.m_two_after (T : Txt K mg C) : MDef K C "two_after" "Fields.two_after" s_Fields_two_after ["self", "a", "b", "n"] := T.use (M := fun K mg C => MDef K C "two_after" "Fields.two_after" s_Fields_two_after ["self", "a", "b", "n"]) fun P h X G => k_m_two_after
theorem Txt.t_FIELDS_BY_LENGTH (T : Txt K mg C) : ∃ (d : Addr), mg "FIELDS_BY_LENGTH" = some (.ref d) ∧ KTab K d [(Sum.inl 4, .int 2), (Sum.inl 9, .int 3), (Sum.inl 16, .int 4)] := T.use (M := fun K mg C => ∃ (d : Addr), mg "FIELDS_BY_LENGTH" = some (.ref d) ∧ KTab K d [(Sum.inl 4, .int 2), (Sum.inl 9, .int 3), (Sum.inl 16, .int 4)]) fun P h X G => ⟨36, PySem.W.mg_of X G (by kernel_rfl), ⟨⟨_, _, (show (KK P).lookup 36 = some ⟨.type "dict", none, .dict (kD_FIELDS_BY_LENGTHL).toArray 3, #[]⟩ by kernel_rfl), by rfl⟩, by decide +kernel, by decide +kernel⟩⟩
theorem Txt.t_ANSWERS (T : Txt K mg C) : Tab_ANSWERS K mg := T.use (M := fun K mg C => Tab_ANSWERS K mg) fun P h X G => ⟨193, 67, 74, 81, 88, 95, 102, 109, 116, 123, 130, 135, 140, 147, 154, 161, 168, 175, 180, 187, 192, PySem.W.mg_of X G (by kernel_rfl), ⟨⟨_, _, (show (KK P).lookup 193 = some ⟨.type "dict", none, .dict (kD_ANSWERSL).toArray 20, #[]⟩ by kernel_rfl), by rfl⟩, by decide +kernel, by decide +kernel⟩, PySem.W.mg_of X G (by kernel_rfl), PySem.W.mg_of X G (by kernel_rfl), PySem.W.mg_of X G (by kernel_rfl), PySem.W.mg_of X G (by kernel_rfl), PySem.W.mg_of X G (by kernel_rfl), PySem.W.mg_of X G (by kernel_rfl), PySem.W.mg_of X G (by kernel_rfl), PySem.W.mg_of X G (by kernel_rfl), PySem.W.mg_of X G (by kernel_rfl), PySem.W.mg_of X G (by kernel_rfl), PySem.W.mg_of X G (by kernel_rfl), PySem.W.mg_of X G (by kernel_rfl), PySem.W.mg_of X G (by kernel_rfl), PySem.W.mg_of X G (by kernel_rfl), PySem.W.mg_of X G (by kernel_rfl), PySem.W.mg_of X G (by kernel_rfl), PySem.W.mg_of X G (by kernel_rfl), PySem.W.mg_of X G (by kernel_rfl), PySem.W.mg_of X G (by kernel_rfl), PySem.W.mg_of X G (by kernel_rfl)⟩
theorem Txt.t_NUMBERS_TOLD (T : Txt K mg C) : ∃ (d : Addr), mg "NUMBERS_TOLD" = some (.ref d) ∧ KTab K d [(Sum.inl 2, .int 4), (Sum.inl 3, .int 1), (Sum.inl 4, .int 0), (Sum.inl 5, .int 2), (Sum.inl 6, .int 1), (Sum.inl 7, .int 1), (Sum.inl 8, .int 0), (Sum.inl 9, .int 3), (Sum.inl 10, .int 2), (Sum.inl 11, .int 0), (Sum.inl 14, .int 2), (Sum.inl 15, .int 3), (Sum.inl 16, .int 1), (Sum.inl 17, .int 1), (Sum.inl 18, .int 1), (Sum.inl 19, .int 0)] := T.use (M := fun K mg C => ∃ (d : Addr), mg "NUMBERS_TOLD" = some (.ref d) ∧ KTab K d [(Sum.inl 2, .int 4), (Sum.inl 3, .int 1), (Sum.inl 4, .int 0), (Sum.inl 5, .int 2), (Sum.inl 6, .int 1), (Sum.inl 7, .int 1), (Sum.inl 8, .int 0), (Sum.inl 9, .int 3), (Sum.inl 10, .int 2), (Sum.inl 11, .int 0), (Sum.inl 14, .int 2), (Sum.inl 15, .int 3), (Sum.inl 16, .int 1), (Sum.inl 17, .int 1), (Sum.inl 18, .int 1), (Sum.inl 19, .int 0)]) fun P h X G => ⟨388, PySem.W.mg_of X G (by kernel_rfl), ⟨⟨_, _, (show (KK P).lookup 388 = some ⟨.type "dict", none, .dict (kD_NUMBERS_TOLDL).toArray 16, #[]⟩ by kernel_rfl), by rfl⟩, by decide +kernel, by decide +kernel⟩⟩
theorem Txt.t_WITH_A_ROW (T : Txt K mg C) : ∃ (d : Addr), mg "WITH_A_ROW" = some (.ref d) ∧ ∀ H, SqT K H d [.int 0, .int 1, .int 12, .int 13] := T.use (M := fun K mg C => ∃ (d : Addr), mg "WITH_A_ROW" = some (.ref d) ∧ ∀ H, SqT K H d [.int 0, .int 1, .int 12, .int 13]) fun P h X G => ⟨387, PySem.W.mg_of X G (by kernel_rfl), fun H => sqT_of (show (KK P).lookup 387 = some ⟨.type "tuple", none, .seq #[(.int 0 740), (.int 1 741), (.int 12 742), (.int 13 743)] 0, #[]⟩ by kernel_rfl) rfl (by decide)⟩
end
end Fs
end

end

section
set_option Elab.async false
set_option linter.all false
set_option maxRecDepth 100000
set_option maxHeartbeats 2000000
namespace Fs
open PySem PySem.Spec PyProof.Rows L2
inductive spGcd (vs : List V) (H : Hp) (Q : VK) (E : XK) : Prop
  | mk (a b : Nat) (a0 : vs = [.int a, .int b]) (a1 : Q (.int (Nat.gcd a b : Nat)) H) : spGcd vs H Q E
inductive spLow (vs : List V) (H : Hp) (Q : VK) (E : XK) : Prop
  | mk (u : Int) (L : Nat) (a0 : vs = [.int u, .int L]) (a1 : 0 < L) (a2 : L.log2 < 9000) (a3 : ∀ p, H p = none → Q (.ref p) (upd H p (.lst [.int (Kqp4.frac u L).num, .int (Kqp4.frac u L).den]))) : spLow vs H Q E
inductive spPow (vs : List V) (H : Hp) (Q : VK) (E : XK) : Prop
  | mk (b : Int) (n : Nat) (a0 : vs = [.int b, .int n]) (a1 : (-(2 ^ 64) < b ∧ b < 2 ^ 64)) (a2 : n < 2 ^ 62) (a3 : Q (.int (b ^ n)) H) : spPow vs H Q E
section
variable {P : Program} {w : World} {K : PySem.W.Frag} {mg : Str → Option Value} {base : Heap} {C : Addr}
theorem sc_gcd : FnScope ["one", "other", "left"] ["one", "other"] (defScope s_common_divisor) := ⟨rfl, rfl, rfl, by decide +kernel, rfl, by decide +kernel, by decide +kernel⟩
theorem ok_gcd {f : Addr} {fd : FuncData} (F : Fun K "common_divisor" "common_divisor" s_common_divisor f fd) : FnOk P w K mg base CX0 1 f fd ["one", "other"] spGcd := by
  refine F.ok sc_gcd (fun vs H Q E h => ?_) (fun cdv A outer s H vs Q E hr h => ?_)
  · obtain ⟨a, b, rfl, _⟩ := h
    rfl
  · obtain ⟨a, b, rfl, k⟩ := h
    refine ⟨_, pss_cons (ps_while PassesOwn.never (pt_cmpR op_gt (pv 1) pe_int (nomark _))
        (pss_cons (ps_set (i := 2) sc_gcd.nd rfl (Or.inl rfl) (pe_op op_mod (pv 0) (pv 1)))
        (pss_cons (ps_set (i := 0) sc_gcd.nd rfl (Or.inl rfl) (pv 1))
        (pss_one (ps_set (i := 1) sc_gcd.nd rfl (Or.inl rfl) (pv 2))))))
      (pss_one (ps_ret (pv 0))), ?_⟩
    refine while_by (fun σ H' => H' = H ∧ ∃ (x y : Nat) (v : Option V), σ = [some (.int x), some (.int y), v] ∧ Nat.gcd x y = Nat.gcd a b) (fun σ _ => match σ with
      | [_, some (.int y), _] => y.toNat
      | _ => 0) ⟨rfl, a, b, none, rfl, rfl⟩ ?_ ?_
    · rintro σ H' ⟨rfl, x, y, v, rfl, e⟩
      refine ⟨_, rfl, _, _, rfl, rfl, _, rfl, ite2 (fun hc => ?_) (fun hc => ?_)⟩
      · have hy : (0 : Int) < (y : Int) := of_decide_eq_true hc
        refine ⟨_, rfl, _, rfl, _, _, rfl, rfl, hy, _, rfl, _, rfl, ⟨rfl, y, x % y, some (.int ((x : Int) % (y : Int))), ?_, ?_⟩, ?_⟩
        · show [some (V.int (y : Int)), some (V.int ((x : Int) % (y : Int))), some (V.int ((x : Int) % (y : Int)))] = _
          rw [← Int.natCast_emod]
        · rw [← e, Nat.gcd_comm, ← Nat.gcd_rec, Nat.gcd_comm]
        · show ((x : Int) % (y : Int)).toNat < ((y : Int)).toNat
          have := Int.emod_lt_of_pos (x : Int) hy
          have := Int.emod_nonneg (x : Int) (show (y : Int) ≠ 0 by omega)
          omega
      · have hy : ¬ (0 : Int) < (y : Int) := fun q => hc (decide_eq_true q)
        have : y = 0 := by omega
        subst this
        refine ⟨_, rfl, ?_⟩
        rw [Nat.gcd_zero_right] at e
        rw [← e] at k
        exact k
    · rintro σ H' Q Q' hq ⟨v, e1, i, j, e2, e3, b, e4, q⟩
      exact ⟨v, e1, i, j, e2, e3, b, e4, hq _ _ q⟩
theorem gcd_log {u : Nat} {L : Nat} (hL : 0 < L) (h : L.log2 < 9000) : ((Nat.gcd u L : Nat) : Int).natAbs.log2 < 9000 := by
  rw [Int.natAbs_natCast]
  have h1 : Nat.gcd u L ≤ L := Nat.gcd_le_right _ hL
  have h0 : 0 < Nat.gcd u L := Nat.gcd_pos_of_pos_right _ hL
  exact Nat.lt_of_le_of_lt ((Nat.le_log2 (by omega)).mpr (Nat.le_trans (Nat.log2_self_le (by omega)) h1)) h
theorem sc_low : FnScope ["upper", "lower", "divisor"] ["upper", "lower"] (defScope s_lowest) := ⟨rfl, rfl, rfl, by decide +kernel, rfl, by decide +kernel, by decide +kernel⟩
theorem ok_low {f : Addr} {fd : FuncData} (T : Txt K mg C) (F : Fun K "lowest" "lowest" s_lowest f fd) : FnOk P w K mg base CX0 2 f fd ["upper", "lower"] spLow := by
  obtain ⟨f1, fd1, F1, b1, m1⟩ := T.d_common_divisor
  have G1 : FnOk P w K mg base CX0 1 f1 fd1 ["one", "other"] spGcd := ok_gcd F1
  refine F.ok sc_low (fun vs H Q E h => ?_) (fun cdv A outer s H vs Q E hr h => ?_)
  · obtain ⟨a, b, rfl, _⟩ := h
    rfl
  · obtain ⟨u, L, rfl, hL, hlog, k⟩ := h
    refine ⟨_, pss_cons (ps_set (i := 2) sc_low.nd rfl (Or.inl rfl) (pe_call G1 hr rfl m1 F1.kp b1 .nil pass0 (pa_cons (pe_callB call_abs (by rfl) T.b_abs (by decide +kernel) (pa_cons (pv 0) pa_nil)) (pa_cons (pv 1) pa_nil))))
      (pss_one (ps_ret (pe_lst (pa_cons (pe_op op_fdivB (pv 0) (pv 2)) (pa_cons (pe_op op_fdivB (pv 1) (pv 2)) pa_nil))))), ?_⟩
    have ea : (if u < 0 then -u else u) = ((u.natAbs : Nat) : Int) := by split <;> omega
    have g := Nat.gcd_pos_of_pos_right u.natAbs hL
    refine ⟨_, rfl, _, rfl, _, rfl, u.natAbs, L, ?_, ?_⟩
    · show [V.int (if u < 0 then -u else u), V.int (L : Int)] ++ [] = _
      rw [ea]
      rfl
    · have hg : CDivB u ((Nat.gcd u.natAbs L : Nat) : Int) := ⟨by omega, gcd_log hL hlog⟩
      refine ⟨_, rfl, _, rfl, _, _, rfl, rfl, hg, _, rfl, _, rfl, _, _, rfl, rfl, hg, (by show 2 ≤ sizeLine; decide), fun p hp => ?_⟩
      have := k p hp
      rw [frac_num hL, frac_den hL, Int.natCast_ediv] at this
      exact this
theorem sc_pow : FnScope ["base", "times", "product", "step"] ["base", "times"] (defScope s_power) := ⟨rfl, rfl, rfl, by decide +kernel, rfl, by decide +kernel, by decide +kernel⟩
theorem ok_pow {f : Addr} {fd : FuncData} (T : Txt K mg C) (F : Fun K "power" "power" s_power f fd) : FnOk P w K mg base CX0 1 f fd ["base", "times"] spPow := by
  refine F.ok sc_pow (fun vs H Q E h => ?_) (fun cdv A outer s H vs Q E hr h => ?_)
  · obtain ⟨a, b, rfl, _⟩ := h
    rfl
  · obtain ⟨b, n, rfl, hb, hn, k⟩ := h
    refine ⟨_, pss_cons (ps_set (i := 2) sc_pow.nd rfl (Or.inl rfl) pe_int)
      (pss_cons (ps_for PassesOwn.never rfl (pi_range1 rfl T.b_range (pa_cons (pv 1) pa_nil)) (pg_name (i := 3) sc_pow.nd rfl (Or.inl rfl))
        (pss_one (ps_aug (i := 2) sc_pow.nd rfl (Or.inl rfl) (pv 0) iop_mul)))
      (pss_one (ps_ret (pv 2)))), ?_⟩
    refine ⟨_, rfl, (n : Int), rfl, (by omega), (by omega), ?_⟩
    rw [Int.toNat_natCast]
    refine for_range (n := n) (fun i σ H' => H' = H ∧ ∃ v : Option V, σ = [some (.int b), some (.int n), some (.int (b ^ i)), v]) ⟨rfl, none, ?_⟩ ?_ ?_
    · rw [Int.pow_zero]
      rfl
    · rintro i σ H' hi ⟨rfl, v, rfl⟩
      refine ⟨_, rfl, _, rfl, _, _, rfl, rfl, .inr hb, rfl, some (.int (0 + i)), ?_⟩
      rw [Int.pow_succ]
      rfl
    · rintro σ H' ⟨rfl, v, rfl⟩
      exact ⟨_, rfl, k⟩
end
end Fs

end

section
set_option Elab.async false
set_option linter.all false
set_option maxRecDepth 100000
set_option maxHeartbeats 2000000
namespace Fs
open PySem PySem.Spec PyProof.Rows L2
noncomputable def IntsAt (H : Hp) (a : Addr) (ns : List Int) : Prop := H a = some (.lst (ns.map V.int))
structure RowsAt (H : Hp) (ra : Addr) (rs : List Addr) (rows : List (List Int)) : Prop where
  lst : H ra = some (.lst (rs.map V.ref))
  len : rs.length = rows.length
  at_ : ∀ (i : Nat) (a : Addr), rs[i]? = some a → ∃ r, rows[i]? = some r ∧ IntsAt H a r
theorem RowsAt.same {H H' : Hp} {ra : Addr} {rs : List Addr} {rows : List (List Int)} (h : RowsAt H ra rs rows) (s : Same H H') : RowsAt H' ra rs rows :=
  ⟨s _ _ h.lst, h.len, fun i a e => let ⟨r, h1, h2⟩ := h.at_ i a e; ⟨r, h1, s _ _ h2⟩⟩
structure Sq (rows : List (List Int)) : Prop where
  le : rows.length ≤ 4
  len : ∀ r ∈ rows, r.length = rows.length
  ent : ∀ r ∈ rows, ∀ x ∈ r, 0 ≤ x ∧ x ≤ 100
theorem map_get {α β : Type} {l : List α} {f : α → β} {i : Nat} {y : β} (h : (l.map f)[i]? = some y) : ∃ a, l[i]? = some a ∧ y = f a := by
  rw [List.getElem?_map] at h
  cases e : l[i]? with
  | none => rw [e] at h; cases h
  | some a =>
    rw [e] at h
    exact ⟨a, rfl, (Option.some.inj h).symm⟩
theorem small_line {n : Nat} (h : n ≤ 1000) : n ≤ sizeLine := Nat.le_of_lt (small1000 h)
inductive spDot (vs : List V) (H : Hp) (Q : VK) (E : XK) : Prop
  | mk (a b : Addr) (ws us : List Int) (a0 : vs = [.ref a, .ref b]) (a1 : IntsAt H a ws) (a2 : IntsAt H b us) (a3 : ws.length ≤ 1000) (a4 : (∀ x ∈ ws, -(2 ^ 64) < x ∧ x < 2 ^ 64)) (a5 : ∀ H', Same H H' → Q (.int (dot ws us)) H') : spDot vs H Q E
inductive spGens (vs : List V) (H : Hp) (Q : VK) (E : XK) : Prop
  | mk (ra ua : Addr) (n : Nat) (rs : List Addr) (rows : List (List Int)) (us : List Int) (a0 : vs = [.ref ra, .ref ua, .int n]) (a1 : RowsAt H ra rs rows) (a2 : IntsAt H ua us) (a3 : Sq rows) (a4 : n ≤ 1000) (a5 : ∀ (H' : Hp) (p : Addr), Same H H' → IntsAt H' p (gens rows n us) → (p = ua ∧ n = 0 ∨ H p = none) → Q (.ref p) H') : spGens vs H Q E
section
variable {P : Program} {w : World} {K : PySem.W.Frag} {mg : Str → Option Value} {base : Heap} {C : Addr}
theorem sc_dot : FnScope ["weights", "uppers", "weight", "upper"] ["weights", "uppers"] (defScope s_weighed_sum) := ⟨rfl, rfl, rfl, by decide +kernel, rfl, by decide +kernel, by decide +kernel⟩
theorem ok_dot {f : Addr} {fd : FuncData} (T : Txt K mg C) (F : Fun K "weighed_sum" "weighed_sum" s_weighed_sum f fd) : FnOk P w K mg base CX0 1 f fd ["weights", "uppers"] spDot := by
  refine F.ok sc_dot (fun vs H Q E h => ?_) (fun cdv A outer s H vs Q E hr h => ?_)
  · obtain ⟨a, b, ws, us, rfl, _⟩ := h
    rfl
  · obtain ⟨a, b, ws, us, rfl, hA, hB, hl, hw, k⟩ := h
    refine ⟨_, pss_one (ps_ret (pe_callB (call_sumI rfl) (by rfl) T.b_sum (by decide +kernel) (pa_cons
      (pe_lc (g := gTup K 2 (gCons (gName 2) (gCons (gName 3) gNil))) rfl sc_dot.nd (pi_zip rfl T.b_zip (pa_cons (pv 0) (pa_cons (pv 1) pa_nil))) (blkOk_by (own := [("weight", 2), ("upper", 3)]) (by rfl))
        (fun _ _ _ _ _ => pg_tup rfl (pgs_cons (pg_name (i := 2) sc_dot.nd rfl (Or.inl rfl)) (pgs_cons (pg_name (i := 3) sc_dot.nd rfl (Or.inl rfl)) pgs_nil)))
        (fun _ _ _ _ _ => pts_nil) (fun _ _ _ _ _ => pe_op op_mul (pv 2) (pv 3))) pa_nil))), ?_⟩
    refine ⟨_, rfl, _, rfl, a, b, _, _, rfl, SqL.of hA, SqL.of hB, fun D hD => lc_mapZ (ys := (List.zipWith (fun a b => a * b) ws us).map V.int) hD (SqL.of hA) (SqL.of hB) (by simp) (by rw [List.length_map]; exact small_line hl)
      (fun i x z y H' U R hx hz hy s' hU hR => ?_) (fun H' s' hD' => ⟨D, _, rfl, SqL.of hD', k H' s'⟩)⟩
    obtain ⟨x1, hx1, rfl⟩ := map_get hx
    obtain ⟨z1, hz1, rfl⟩ := map_get hz
    obtain ⟨y1, hy1, rfl⟩ := map_get hy
    have ey : x1 * z1 = y1 := by
      rw [List.getElem?_zipWith, hx1, hz1] at hy1
      exact Option.some.inj hy1
    subst ey
    exact ⟨U, _, rfl, SqT.of hU, rfl, _, _, rfl, _, _, rfl, rfl, rfl, _, rfl, _, rfl, _, _, rfl, rfl, .inl (hw _ (List.mem_of_getElem? hx1)), hR H' (Same.refl H')⟩
theorem sc_gens : FnScope ["rows", "uppers", "n", "generation", "row"] ["rows", "uppers", "n"] (defScope s_generations_on) := ⟨rfl, rfl, rfl, by decide +kernel, rfl, by decide +kernel, by decide +kernel⟩
theorem ok_gens {f : Addr} {fd : FuncData} (T : Txt K mg C) (F : Fun K "generations_on" "generations_on" s_generations_on f fd) : FnOk P w K mg base CX0 2 f fd ["rows", "uppers", "n"] spGens := by
  obtain ⟨f1, fd1, F1, b1, m1⟩ := T.d_weighed_sum
  have G1 : FnOk P w K mg base CX0 1 f1 fd1 ["weights", "uppers"] spDot := ok_dot T F1
  refine F.ok sc_gens (fun vs H Q E h => ?_) (fun cdv A outer s H vs Q E hr h => ?_)
  · obtain ⟨a, b, n, rs, rows, us, rfl, _⟩ := h
    rfl
  · obtain ⟨ra, ua, n, rs, rows, us, rfl, hR, hU, sq, hn, k⟩ := h
    refine ⟨_, pss_cons (ps_for PassesOwn.never rfl (pi_range1 rfl T.b_range (pa_cons (pv 2) pa_nil)) (pg_name (i := 3) sc_gens.nd rfl (Or.inl rfl))
        (pss_one (ps_set (i := 1) sc_gens.nd rfl (Or.inr rfl)
          (pe_lc rfl sc_gens.nd (pi_list (pv 0)) (blkOk_by (own := [("row", 4)]) (by rfl)) (fun _ _ _ _ _ => pg_name (i := 4) sc_gens.nd rfl (Or.inl rfl)) (fun _ _ _ _ _ => pts_nil)
            (fun _ _ _ _ _ => pe_call G1 hr rfl m1 F1.kp b1 .nil pass0 (pa_cons (pv 4) (pa_cons (pv 1) pa_nil)))))))
      (pss_one (ps_ret (pv 1))), ?_⟩
    refine ⟨_, rfl, (n : Int), rfl, (by omega), (by omega), ?_⟩
    rw [Int.toNat_natCast]
    refine for_range (n := n) (fun i σ H' => ∃ (u : Addr) (v : Option V), σ = [some (.ref ra), some (.ref u), some (.int n), v, none] ∧ Same H H' ∧ IntsAt H' u (gens rows i us) ∧ (u = ua ∧ i = 0 ∨ H u = none)) ⟨ua, none, rfl, Same.refl H, hU, .inl ⟨rfl, rfl⟩⟩ ?_ ?_
    · rintro i σ H1 hi ⟨u, v, rfl, s1, hu, hor⟩
      have hR1 := hR.same s1
      refine ⟨_, rfl, ra, rfl, ⟨_, SqL.of hR1.lst⟩, fun D hD => lc_mapL (ys := (gstep rows (gens rows i us)).map V.int) hD (SqL.of hR1.lst) ?_ ?_ (fun j x y H2 R hx hy s2 hRR => ?_) (fun H2 s2 hD2 => ?_)⟩
      · rw [List.length_map, List.length_map, gstep_length, hR.len]
      · rw [List.length_map, hR.len]
        exact small_line (by have := sq.le; omega)
      · obtain ⟨a, ha, rfl⟩ := map_get hx
        obtain ⟨y1, hy1, rfl⟩ := map_get hy
        obtain ⟨r, hr1, hr2⟩ := hR1.at_ j a ha
        have hm : r ∈ rows := List.mem_of_getElem? hr1
        have ey : dot r (gens rows i us) = y1 := by
          unfold gstep at hy1
          rw [List.getElem?_map, hr1] at hy1
          exact Option.some.inj hy1
        subst ey
        refine ⟨rfl, _, rfl, _, rfl, a, u, r, gens rows i us, rfl, s2 _ _ hr2, s2 _ _ hu, ?_, fun x hx => ?_, hRR⟩
        · have := sq.len r hm
          have := sq.le
          omega
        · have := sq.ent r hm x hx
          omega
      · refine ⟨D, _, rfl, s1.trans s2, hD2, .inr (s1.free hD)⟩
    · rintro σ H1 ⟨u, v, rfl, s1, hu, hor⟩
      exact ⟨_, rfl, k H1 u s1 hu hor⟩
end
end Fs

end

section
set_option Elab.async false
set_option linter.all false
set_option maxRecDepth 100000
set_option maxHeartbeats 2000000
namespace Fs
open PySem PySem.Spec PyProof.Rows L2
noncomputable def fF (r u l : V) : List (Str × V) := putF "common_lower" l (putF "uppers" u (putF "rows" r []))
theorem ne_ru : ¬ (("uppers" : Str) = "rows") := by decide +kernel
theorem ne_rl : ¬ (("common_lower" : Str) = "rows") := by decide +kernel
theorem ne_ul : ¬ (("common_lower" : Str) = "uppers") := by decide +kernel
theorem fF_rows (r u l : V) : (fF r u l).lookup ("rows" : Str) = some r := by
  unfold fF
  rw [lookup_putF, if_neg (fun e => ne_rl e.symm), lookup_putF, if_neg (fun e => ne_ru e.symm), lookup_putF, if_pos rfl]
theorem fF_uppers (r u l : V) : (fF r u l).lookup ("uppers" : Str) = some u := by
  unfold fF
  rw [lookup_putF, if_neg (fun e => ne_ul e.symm), lookup_putF, if_pos rfl]
theorem fF_lower (r u l : V) : (fF r u l).lookup ("common_lower" : Str) = some l := by
  unfold fF
  rw [lookup_putF, if_pos rfl]
theorem fF_no (r u l : V) {m : Str} (h1 : ¬ m = "rows") (h2 : ¬ m = "uppers") (h3 : ¬ m = "common_lower") : (fF r u l).lookup m = none := by
  unfold fF
  rw [lookup_putF, if_neg h3, lookup_putF, if_neg h2, lookup_putF, if_neg h1]
  rfl
theorem fF_eq (r u l : V) : fF r u l = [(("rows" : Str), r), (("uppers" : Str), u), (("common_lower" : Str), l)] := by
  unfold fF
  show putF "common_lower" l (if ("rows" : Str) = "uppers" then _ else [(("rows" : Str), r), (("uppers" : Str), u)]) = _
  rw [if_neg (fun e => ne_ru e.symm)]
  show (if ("rows" : Str) = "common_lower" then _ else (("rows" : Str), r) :: (if ("uppers" : Str) = "common_lower" then _ else [(("uppers" : Str), u), (("common_lower" : Str), l)])) = _
  rw [if_neg (fun e => ne_rl e.symm), if_neg (fun e => ne_ul e.symm)]
theorem fF_putR (r u l r' : V) : putF "rows" r' (fF r u l) = fF r' u l := by
  rw [fF_eq, fF_eq]
  show (if ("rows" : Str) = "rows" then (("rows" : Str), r') :: _ else _) = _
  rw [if_pos rfl]
theorem fF_putU (r u l u' : V) : putF "uppers" u' (fF r u l) = fF r u' l := by
  rw [fF_eq, fF_eq]
  show (if ("rows" : Str) = "uppers" then _ else (("rows" : Str), r) :: (if ("uppers" : Str) = "uppers" then (("uppers" : Str), u') :: _ else _)) = _
  rw [if_neg (fun e => ne_ru e.symm), if_pos rfl]
theorem fF_putL (r u l l' : V) : putF "common_lower" l' (fF r u l) = fF r u l' := by
  rw [fF_eq, fF_eq]
  show (if ("rows" : Str) = "common_lower" then _ else (("rows" : Str), r) :: (if ("uppers" : Str) = "common_lower" then _ else (("uppers" : Str), u) :: (if ("common_lower" : Str) = "common_lower" then (("common_lower" : Str), l') :: _ else _))) = _
  rw [if_neg (fun e => ne_rl e.symm), if_neg (fun e => ne_ul e.symm), if_pos rfl]
theorem fF_few (r u l : V) : (fF r u l).length < 1000 := by rw [fF_eq]; show 3 < 1000; decide
inductive FObj (C fa : Addr) (H : Hp) (rs : List Addr) (ua : Addr) (rows : List (List Int)) (L : Int) : Prop
  | mk (dx ra : Addr) (h : H fa = some (.ins C dx (fF (.ref ra) (.ref ua) (.int L)))) (r : RowsAt H ra rs rows) : FObj C fa H rs ua rows L
structure FAt (C fa : Addr) (H : Hp) (rs : List Addr) (ua : Addr) (rows : List (List Int)) (us : List Int) (L : Int) : Prop where
  obj : FObj C fa H rs ua rows L
  ups : IntsAt H ua us
  nd : rs.Nodup
  ap : ua ∉ rs
noncomputable def But (a : Addr) (H H' : Hp) : Prop := ∀ b o, H b = some o → b ≠ a → H' b = some o
theorem But.upd {a : Addr} {H : Hp} {o : HO} : But a H (L2.upd H a o) := fun b u e hb => by rw [upd_ne hb]; exact e
theorem But.same {a : Addr} {H H1 H2 : Hp} (x : But a H H1) (s : Same H1 H2) : But a H H2 := fun b o e hb => s _ _ (x b o e hb)
theorem Same.but {a : Addr} {H H1 H2 : Hp} (s : Same H H1) (x : But a H1 H2) : But a H H2 := fun b o e hb => x b o (s _ _ e) hb
theorem But.trans {a : Addr} {H H1 H2 : Hp} (x : But a H H1) (y : But a H1 H2) : But a H H2 := fun b o e hb => y b o (x b o e hb) hb
theorem ints_ne_ins {H : Hp} {a fa C dx : Addr} {ns : List Int} {fs : List (Str × V)} (h : IntsAt H a ns) (h' : H fa = some (.ins C dx fs)) : a ≠ fa := ne_of h h' (by intro z; cases z)
theorem RowsAt.but {H H' : Hp} {ra fa C dx : Addr} {rs : List Addr} {rows : List (List Int)} {fs : List (Str × V)} (h : RowsAt H ra rs rows) (hf : H fa = some (.ins C dx fs)) (x : But fa H H') : RowsAt H' ra rs rows :=
  ⟨x _ _ h.lst (ne_of h.lst hf (by intro z; cases z)), h.len, fun i a e => let ⟨r, h1, h2⟩ := h.at_ i a e; ⟨r, h1, x _ _ h2 (ints_ne_ins h2 hf)⟩⟩
theorem FAt.same {C fa ua : Addr} {H H' : Hp} {rs : List Addr} {rows : List (List Int)} {us : List Int} {L : Int} (h : FAt C fa H rs ua rows us L) (s : Same H H') : FAt C fa H' rs ua rows us L := by
  obtain ⟨dx, ra, h1, h2⟩ := h.obj
  exact ⟨⟨dx, ra, s _ _ h1, h2.same s⟩, s _ _ h.ups, h.nd, h.ap⟩
noncomputable def Away (C g fa : Addr) (H : Hp) : Prop := ∃ dx r u l, H fa = some (.ins C dx (fF (.ref r) (.ref u) l)) ∧ r ≠ g ∧ u ≠ g
theorem Away.at {C g fa : Addr} {H H' : Hp} (h : Away C g fa H) (e : H' fa = H fa) : Away C g fa H' := let ⟨dx, r, u, l, h1, h2⟩ := h; ⟨dx, r, u, l, e.trans h1, h2⟩
theorem Away.same {C g fa : Addr} {H H' : Hp} (h : Away C g fa H) (s : Same H H') : Away C g fa H' := let ⟨dx, r, u, l, h1, h2⟩ := h; ⟨dx, r, u, l, s _ _ h1, h2⟩
theorem Away.but {C g fa a : Addr} {H H' : Hp} (h : Away C g fa H) (s : But a H H') (n : fa ≠ a) : Away C g fa H' := let ⟨dx, r, u, l, h1, h2⟩ := h; ⟨dx, r, u, l, s _ _ h1 n, h2⟩
theorem fF_inj {r u l r' u' l' : V} (h : fF r u l = fF r' u' l') : r = r' ∧ u = u' ∧ l = l' := by
  have h1 := fF_rows r u l
  have h2 := fF_uppers r u l
  have h3 := fF_lower r u l
  rw [h, fF_rows] at h1
  rw [h, fF_uppers] at h2
  rw [h, fF_lower] at h3
  exact ⟨(Option.some.inj h1).symm, (Option.some.inj h2).symm, (Option.some.inj h3).symm⟩
theorem Away.get {C g fa dx r u : Addr} {l : V} {H : Hp} (h : Away C g fa H) (e : H fa = some (.ins C dx (fF (.ref r) (.ref u) l))) : r ≠ g ∧ u ≠ g := by
  obtain ⟨dx', r', u', l', h1, h2⟩ := h
  rw [e] at h1
  have e1 := HO.ins.inj (Option.some.inj h1)
  obtain ⟨a1, a2, _⟩ := fF_inj e1.2.2
  rw [V.ref.inj a1, V.ref.inj a2]
  exact h2
inductive spFInit (C : Addr) (vs : List V) (H : Hp) (Q : VK) (E : XK) : Prop
  | mk (p dx : Addr) (a0 : vs = [.ref p]) (a1 : H p = some (.ins C dx [])) (a2 : ∀ (H' : Hp) (ua : Addr), FAt C p H' [] ua [] [] 1 → But p H H' → (∀ g, H g = none → H' g = none → Away C g p H') → Q .non H') : spFInit C vs H Q E
inductive spHow (C : Addr) (vs : List V) (H : Hp) (Q : VK) (E : XK) : Prop
  | mk (fa : Addr) (rs : List Addr) (ua : Addr) (rows : List (List Int)) (us : List Int) (L : Int) (a0 : vs = [.ref fa]) (a1 : FAt C fa H rs ua rows us L) (a2 : Q (.int (rows.length : Nat)) H) : spHow C vs H Q E
inductive spTell (C : Addr) (vs : List V) (H : Hp) (Q : VK) (E : XK) : Prop
  | mk (fa ua dx : Addr) (r u l : V) (a0 : vs = [.ref fa, .ref ua]) (a1 : H fa = some (.ins C dx (fF r u l))) (a2 : Q .non (upd H fa (.ins C dx (fF r (.ref ua) (.int 100))))) : spTell C vs H Q E
inductive spBegin (C : Addr) (vs : List V) (H : Hp) (Q : VK) (E : XK) : Prop
  | mk (fa ra dx : Addr) (r u l : V) (rs : List Addr) (rows : List (List Int)) (a0 : vs = [.ref fa, .ref ra]) (a1 : H fa = some (.ins C dx (fF r u l))) (a2 : RowsAt H ra rs rows) (a3 : rs.Nodup) (a4 : rows.length ≤ 4) (a5 : ∀ (H' : Hp) (ua : Addr), FAt C fa H' rs ua rows (List.replicate rows.length 0) 100 → But fa H H' → H ua = none → (∀ g, H g ≠ none → ra ≠ g → Away C g fa H') → Q .non H') : spBegin C vs H Q E
inductive spComers (C : Addr) (vs : List V) (H : Hp) (Q : VK) (E : XK) : Prop
  | mk (fa : Addr) (i j : Nat) (rs : List Addr) (ua : Addr) (rows : List (List Int)) (us : List Int) (L : Int) (r : List Int) (c : Int) (a0 : vs = [.ref fa, .int i, .int j]) (a1 : FAt C fa H rs ua rows us L) (a2 : rows[i]? = some r) (a3 : r[j]? = some c) (a4 : Q (.int c) H) : spComers C vs H Q E
inductive spMove (C : Addr) (vs : List V) (H : Hp) (Q : VK) (E : XK) : Prop
  | mk (fa : Addr) (i j k : Nat) (n : Int) (rs : List Addr) (ua : Addr) (rows : List (List Int)) (us : List Int) (L : Int) (r : List Int) (c d : Int) (a : Addr) (a0 : vs = [.ref fa, .int i, .int j, .int k, .int n]) (a1 : FAt C fa H rs ua rows us L) (a2 : rs[i]? = some a) (a3 : rows[i]? = some r) (a4 : r[j]? = some c) (a5 : r[k]? = some d) (a6 : j ≠ k) (a7 : ∀ H', FAt C fa H' rs ua (rows.set i ((r.set j (c - n)).set k (d + n))) us L → But a H H' → Q .non H') : spMove C vs H Q E
section
variable {P : Program} {w : World} {K : PySem.W.Frag} {mg : Str → Option Value} {base : Heap} {C : Addr}
theorem sc_finit : FnScope ["self"] ["self"] (defScope s_Fields_init) := ⟨rfl, rfl, rfl, by decide +kernel, rfl, by decide +kernel, by decide +kernel⟩
theorem ok_finit {f : Addr} {fd : FuncData} (T : Txt K mg C) (F : Fun K "__init__" "Fields.__init__" s_Fields_init f fd) : FnOk P w K mg base CX0 1 f fd ["self"] (spFInit C) := by
  refine F.ok sc_finit (fun vs H Q E h => ?_) (fun cdv A outer s H vs Q E hr h => ?_)
  · obtain ⟨p, dx, rfl, _⟩ := h
    rfl
  · obtain ⟨p, dx, rfl, hp, k⟩ := h
    refine ⟨_, pss_cons (ps_fld (pv 0) (pe_lst pa_nil) rfl) (pss_cons (ps_fld (pv 0) (pe_lst pa_nil) rfl) (pss_one (ps_fld (pv 0) pe_int rfl))), ?_⟩
    refine ⟨Nat.zero_le _, fun ra hra => ?_⟩
    have s1 : Same H (upd H ra (.lst [])) := Same.new hra
    refine ⟨_, rfl, p, C, dx, [], rfl, s1 _ _ hp, T.cl, T.n_rows, (by show 0 < 1000; decide), ?_⟩
    refine ⟨Nat.zero_le _, fun ua hua => ?_⟩
    have e1 : (upd (upd (upd H ra (.lst [])) p (.ins C dx (putF "rows" (.ref ra) []))) ua (.lst [])) p = some (.ins C dx (putF "rows" (.ref ra) [])) := by
      rw [upd_ne (ne_of_none upd_same hua), upd_same]
    refine ⟨_, rfl, p, C, dx, _, rfl, e1, T.cl, T.n_uppers, (by show 1 < 1000; decide), ?_⟩
    refine ⟨_, rfl, p, C, dx, _, rfl, upd_same, T.cl, T.n_common_lower, ?_, ?_⟩
    · show (putF "uppers" (V.ref ua) (putF "rows" (V.ref ra) [])).length < 1000
      have := length_putF "uppers" (V.ref ua) (putF "rows" (V.ref ra) [])
      have := length_putF "rows" (V.ref ra) []
      simp at this
      omega
    · have npr : ra ≠ p := fun e => by rw [e, hp] at hra; cases hra
      have npu : ua ≠ p := fun e => by
        rw [e, upd_same] at hua
        cases hua
      have nur : ua ≠ ra := fun e => by
        rw [e, upd_ne npr, upd_same] at hua
        cases hua
      have hHu : H ua = none := by
        rw [upd_ne npu, upd_ne nur] at hua
        exact hua
      refine k _ ua ⟨⟨dx, ra, upd_same, ?_, rfl, fun i a e => by simp at e⟩, ?_, List.nodup_nil, by simp⟩ (fun b o e hb => ?_) ?_
      · rw [upd_ne npr, upd_ne npr, upd_ne (Ne.symm nur), upd_ne npr, upd_same]
        rfl
      · show _ = some _
        rw [upd_ne npu, upd_ne npu, upd_same]
        rfl
      · rw [upd_ne hb, upd_ne hb, upd_ne (ne_of_none e hHu), upd_ne hb, upd_ne (ne_of_none e hra)]
        exact e
      · intro g _ hg'
        refine ⟨dx, ra, ua, _, upd_same, fun e => ?_, fun e => ?_⟩
        · rw [← e, upd_ne npr, upd_ne npr, upd_ne (Ne.symm nur), upd_ne npr, upd_same] at hg'
          cases hg'
        · rw [← e, upd_ne npu, upd_ne npu, upd_same] at hg'
          cases hg'
theorem sc_how : FnScope ["self"] ["self"] (defScope s_Fields_how_many) := ⟨rfl, rfl, rfl, by decide +kernel, rfl, by decide +kernel, by decide +kernel⟩
theorem ok_how {f : Addr} {fd : FuncData} (T : Txt K mg C) (F : Fun K "how_many" "Fields.how_many" s_Fields_how_many f fd) : FnOk P w K mg base CX0 1 f fd ["self"] (spHow C) := by
  refine F.ok sc_how (fun vs H Q E h => ?_) (fun cdv A outer s H vs Q E hr h => ?_)
  · obtain ⟨_, _, _, _, _, _, rfl, _⟩ := h
    rfl
  · obtain ⟨fa, rs, ua, rows, us, L, rfl, hF, k⟩ := h
    obtain ⟨dx, ra, h1, h2⟩ := hF.obj
    refine ⟨_, pss_one (ps_ret (pe_callB call_len_seq (by rfl) T.b_len PySem.boot_len (pa_cons (pe_fld (pv 0) rfl) pa_nil))), ?_⟩
    refine ⟨_, rfl, fa, C, dx, _, _, rfl, h1, T.cl, T.n_rows, fF_rows _ _ _, ra, _, rfl, .inl (SqL.of h2.lst), ?_⟩
    rw [List.length_map, h2.len]
    exact k
theorem sc_tell : FnScope ["self", "hundredths"] ["self", "hundredths"] (defScope s_Fields_tell_shares) := ⟨rfl, rfl, rfl, by decide +kernel, rfl, by decide +kernel, by decide +kernel⟩
theorem ok_tell {f : Addr} {fd : FuncData} (T : Txt K mg C) (F : Fun K "tell_shares" "Fields.tell_shares" s_Fields_tell_shares f fd) : FnOk P w K mg base CX0 1 f fd ["self", "hundredths"] (spTell C) := by
  obtain ⟨tk, mH⟩ := T.c_HUNDRED
  refine F.ok sc_tell (fun vs H Q E h => ?_) (fun cdv A outer s H vs Q E hr h => ?_)
  · obtain ⟨_, _, _, _, _, _, rfl, _⟩ := h
    rfl
  · obtain ⟨fa, ua, dx, r, u, l, rfl, h1, k⟩ := h
    refine ⟨_, pss_cons (ps_fld (pv 0) (pv 1) rfl) (pss_one (ps_fld (pv 0) (pe_glob (v := .int 100) rfl mH ⟨_, rfl⟩) rfl)), ?_⟩
    refine ⟨_, rfl, _, rfl, fa, C, dx, _, rfl, h1, T.cl, T.n_uppers, fF_few _ _ _, ?_⟩
    rw [fF_putU]
    refine ⟨_, rfl, fa, C, dx, _, rfl, upd_same, T.cl, T.n_common_lower, fF_few _ _ _, ?_⟩
    rw [fF_putL]
    have e : upd (upd H fa (.ins C dx (fF r (.ref ua) l))) fa (.ins C dx (fF r (.ref ua) (.int 100))) = upd H fa (.ins C dx (fF r (.ref ua) (.int 100))) := by
      funext b
      by_cases hb : b = fa
      · rw [hb, upd_same, upd_same]
      · rw [upd_ne hb, upd_ne hb, upd_ne hb]
    show Q .non _
    rw [e]
    exact k
theorem sc_begin : FnScope ["self", "rows", "row"] ["self", "rows"] (defScope s_Fields_begin) := ⟨rfl, rfl, rfl, by decide +kernel, rfl, by decide +kernel, by decide +kernel⟩
theorem ok_begin {f : Addr} {fd : FuncData} (T : Txt K mg C) (F : Fun K "begin" "Fields.begin" s_Fields_begin f fd) : FnOk P w K mg base CX0 2 f fd ["self", "rows"] (spBegin C) := by
  obtain ⟨f1, fd1, F1, b1, m1⟩ := T.m_tell_shares
  have G1 : FnOk P w K mg base CX0 1 f1 fd1 ["self", "hundredths"] (spTell C) := ok_tell T F1
  refine F.ok sc_begin (fun vs H Q E h => ?_) (fun cdv A outer s H vs Q E hr h => ?_)
  · obtain ⟨_, _, _, _, _, _, _, _, rfl, _⟩ := h
    rfl
  · obtain ⟨fa, ra, dx, r, u, l, rs, rows, rfl, h1, hR, hnd, h4, k⟩ := h
    refine ⟨_, pss_cons (ps_fld (pv 0) (pv 1) rfl) (pss_one (ps_expr (pe_meth (pv 0) T.cl m1 G1 hr b1 .nil pass0 (pa_cons
      (pe_lc rfl sc_begin.nd (pi_list (pv 1)) (blkOk_by (own := [("row", 2)]) (by rfl)) (fun _ _ _ _ _ => pg_name (i := 2) sc_begin.nd rfl (Or.inl rfl)) (fun _ _ _ _ _ => pts_nil) (fun _ _ _ _ _ => pe_int)) pa_nil)))), ?_⟩
    refine ⟨_, rfl, _, rfl, fa, C, dx, _, rfl, h1, T.cl, T.n_rows, fF_few _ _ _, ?_⟩
    rw [fF_putR]
    have x1 : But fa H (upd H fa (.ins C dx (fF (.ref ra) u l))) := But.upd
    have hR1 := hR.but h1 x1
    refine ⟨_, rfl, fa, dx, _, rfl, upd_same, fF_no _ _ _ (by decide +kernel) (by decide +kernel) (by decide +kernel), _, rfl, ra, rfl, ⟨_, SqL.of hR1.lst⟩, fun D hD => lc_mapL (ys := (List.replicate rows.length (0 : Int)).map V.int) hD (SqL.of hR1.lst) ?_ ?_ (fun j x y H2 R hx hy s2 hRR => ?_) (fun H2 s2 hD2 => ?_)⟩
    · rw [List.length_map, List.length_map, List.length_replicate, hR.len]
    · rw [List.length_map, hR.len]
      exact small_line (by omega)
    · obtain ⟨y1, hy1, rfl⟩ := map_get hy
      have : y1 = 0 := (List.mem_replicate.mp (List.mem_of_getElem? hy1)).2
      subst this
      exact ⟨rfl, hRR H2 (Same.refl H2)⟩
    · have nD : D ≠ fa := fun e => by
        rw [e, upd_same] at hD
        cases hD
      have hHD : H D = none := by
        rw [upd_ne nD] at hD
        exact hD
      have x2 : But fa H2 (upd H2 fa (.ins C dx (fF (.ref ra) (.ref D) (.int 100)))) := But.upd
      have h2f := s2 _ _ (upd_same (H := H) (a := fa) (o := .ins C dx (fF (.ref ra) u l)))
      refine ⟨fa, D, dx, _, _, _, rfl, h2f, ?_⟩
      refine k _ D ⟨⟨dx, ra, upd_same, (hR1.same s2).but h2f x2⟩, x2 _ _ hD2 nD, hnd, fun hm => ?_⟩ ((x1.same s2).trans x2) hHD (fun g hg hra => ⟨dx, ra, D, _, upd_same, hra, fun e => hg (e ▸ hHD)⟩)
      obtain ⟨i, hi⟩ := List.getElem?_of_mem hm
      obtain ⟨r', _, e2⟩ := hR.at_ i D hi
      have e2' : H D = _ := e2
      rw [hHD] at e2'
      cases e2'
theorem sc_comers : FnScope ["self", "i", "j"] ["self", "i", "j"] (defScope s_Fields_comers) := ⟨rfl, rfl, rfl, by decide +kernel, rfl, by decide +kernel, by decide +kernel⟩
theorem get_some {α : Type} {l : List α} {m : List Addr} (h : m.length = l.length) {i : Nat} {x : α} (e : l[i]? = some x) : ∃ a, m[i]? = some a :=
  ⟨_, List.getElem?_eq_getElem (by have := (List.getElem?_eq_some_iff.mp e).1; omega)⟩
theorem ok_comers {f : Addr} {fd : FuncData} (T : Txt K mg C) (F : Fun K "comers" "Fields.comers" s_Fields_comers f fd) : FnOk P w K mg base CX0 1 f fd ["self", "i", "j"] (spComers C) := by
  refine F.ok sc_comers (fun vs H Q E h => ?_) (fun cdv A outer s H vs Q E hr h => ?_)
  · obtain ⟨_, _, _, _, _, _, _, _, _, _, rfl, _⟩ := h
    rfl
  · obtain ⟨fa, i, j, rs, ua, rows, us, L, r, c, rfl, hF, e1, e2, k⟩ := h
    obtain ⟨dx, ra, h1, h2⟩ := hF.obj
    obtain ⟨a, ha⟩ := get_some h2.len e1
    obtain ⟨r', e1', hr'⟩ := h2.at_ i a ha
    rw [e1] at e1'
    cases e1'
    refine ⟨_, pss_one (ps_ret (pe_ix ix_list (pe_ix ix_list (pe_fld (pv 0) rfl) (pv 1) (fun _ _ => rfl)) (pv 2) (fun _ _ => rfl))), ?_⟩
    exact ⟨_, rfl, fa, C, dx, _, _, rfl, h1, T.cl, T.n_rows, fF_rows _ _ _, _, rfl, ra, _, _, _, rfl, rfl, SqL.of h2.lst, atI_nat (by rw [List.getElem?_map, ha]; rfl), _, rfl, a, _, _, _, rfl, rfl, SqL.of hr', atI_nat (by rw [List.getElem?_map, e2]; rfl), k⟩
theorem sc_move : FnScope ["self", "i", "j", "k", "n", "row"] ["self", "i", "j", "k", "n"] (defScope s_Fields_move_comers) := ⟨rfl, rfl, rfl, by decide +kernel, rfl, by decide +kernel, by decide +kernel⟩
theorem ixN_nat {n j : Nat} (h : j < n) : ixN n (j : Int) = some j := by
  unfold ixN
  rw [if_pos (by omega), if_pos (by omega), Int.toNat_natCast]
theorem ok_move {f : Addr} {fd : FuncData} (T : Txt K mg C) (F : Fun K "move_comers" "Fields.move_comers" s_Fields_move_comers f fd) : FnOk P w K mg base CX0 1 f fd ["self", "i", "j", "k", "n"] (spMove C) := by
  refine F.ok sc_move (fun vs H Q E h => ?_) (fun cdv A outer s H vs Q E hr h => ?_)
  · obtain ⟨_, _, _, _, _, _, _, _, _, _, _, _, _, _, rfl, _⟩ := h
    rfl
  · obtain ⟨fa, i, j, q, n, rs, ua, rows, us, L, r, c, d, a, rfl, hF, ha, e1, e2, e3, hjq, k⟩ := h
    obtain ⟨dx, ra, h1, h2⟩ := hF.obj
    obtain ⟨r', e1', hr'⟩ := h2.at_ i a ha
    rw [e1] at e1'
    cases e1'
    refine ⟨_, pss_cons (ps_set (i := 5) sc_move.nd rfl (Or.inl rfl) (pe_ix ix_list (pe_fld (pv 0) rfl) (pv 1) (fun _ _ => rfl)))
      (pss_cons (ps_augS (pv 5) (pv 2) get_list (pv 4) ip_sub set_list) (pss_one (ps_augS (pv 5) (pv 3) get_list (pv 4) ip_add set_list))), ?_⟩
    refine ⟨_, rfl, fa, C, dx, _, _, rfl, h1, T.cl, T.n_rows, fF_rows _ _ _, _, rfl, ra, _, _, _, rfl, rfl, SqL.of h2.lst, atI_nat (by rw [List.getElem?_map, ha]; rfl), ?_⟩
    have hj : j < r.length := (List.getElem?_eq_some_iff.mp e2).1
    have hq : q < r.length := (List.getElem?_eq_some_iff.mp e3).1
    refine ⟨_, rfl, _, rfl, a, _, j, _, rfl, rfl, SqL.of hr', (by rw [List.getElem?_map, e2]; rfl), _, rfl, _, _, rfl, rfl, a, _, _, j, rfl, rfl, hr', ixN_nat (by rw [List.length_map]; exact hj), ?_⟩
    have ej : (r.map V.int).set j (.int (c - n)) = (r.set j (c - n)).map V.int := by rw [List.map_set]
    rw [ej]
    refine ⟨_, rfl, _, rfl, a, _, q, _, rfl, rfl, SqL.of upd_same, (by rw [List.getElem?_map, List.getElem?_set_ne hjq, e3]; rfl), _, rfl, _, _, rfl, rfl, a, _, _, q, rfl, rfl, upd_same, ixN_nat (by rw [List.length_map, List.length_set]; exact hq), ?_⟩
    have eq : ((r.set j (c - n)).map V.int).set q (.int (d + n)) = ((r.set j (c - n)).set q (d + n)).map V.int := by rw [List.map_set (f := V.int) (l := r.set j (c - n))]
    rw [eq]
    have x : But a H (upd (upd H a (.lst ((r.set j (c - n)).map V.int))) a (.lst (((r.set j (c - n)).set q (d + n)).map V.int))) := But.trans But.upd But.upd
    have nra : ra ≠ a := ne_of h2.lst hr' (by
      intro z
      cases rs with
      | nil => simp at ha
      | cons a0 rs' =>
        cases r with
        | nil => simp at e2
        | cons r0 r' =>
          have z' := HO.lst.inj z
          simp at z')
    have nua : ua ≠ a := fun e => hF.ap (by rw [e]; exact List.mem_of_getElem? ha)
    refine k _ ⟨⟨dx, ra, x _ _ h1 (Ne.symm (ints_ne_ins hr' h1)), x _ _ h2.lst nra, by rw [List.length_set]; exact h2.len, fun i' a' ha' => ?_⟩, x _ _ hF.ups nua, hF.nd, hF.ap⟩ x
    by_cases hii : i' = i
    · subst hii
      rw [ha] at ha'
      cases ha'
      exact ⟨_, List.getElem?_set_self (List.getElem?_eq_some_iff.mp e1).1, upd_same⟩
    · obtain ⟨r2, er2, hr2⟩ := h2.at_ i' a' ha'
      have na : a' ≠ a := fun e => hii (nd_ix hF.nd ha' (by rw [e]; exact ha))
      exact ⟨r2, by rw [List.getElem?_set_ne (fun e => hii e.symm)]; exact er2, x _ _ hr2 na⟩
end
end Fs

end

section
set_option Elab.async false
set_option linter.all false
set_option maxRecDepth 100000
set_option maxHeartbeats 2000000
namespace Fs
open PySem PySem.Spec PyProof.Rows L2
noncomputable def FracAt (H : Hp) (p : Addr) (f : Kqp4.Frac) : Prop := H p = some (.lst [.int f.num, .int f.den])
inductive spGo (C : Addr) (vs : List V) (H : Hp) (Q : VK) (E : XK) : Prop
  | mk (fa : Addr) (rs : List Addr) (ua : Addr) (rows : List (List Int)) (us : List Int) (L : Int) (a0 : vs = [.ref fa]) (a1 : FAt C fa H rs ua rows us L) (a2 : Sq rows) (a3 : ∀ (H' : Hp) (ua' : Addr), FAt C fa H' rs ua' rows (gstep rows us) (L * 100) → But fa H H' → (∀ g, H g ≠ none → Away C g fa H → Away C g fa H') → Q .non H') : spGo C vs H Q E
inductive spGreat (C : Addr) (vs : List V) (H : Hp) (Q : VK) (E : XK) : Prop
  | mk (fa : Addr) (rs : List Addr) (ua : Addr) (rows : List (List Int)) (us : List Int) (L : Nat) (a0 : vs = [.ref fa]) (a1 : FAt C fa H rs ua rows us L) (a2 : 0 < L) (a3 : L.log2 < 9000) (a4 : us ≠ []) (a5 : us.length ≤ 4) (a6 : ∀ (H' : Hp) (M : Int), Same H H' → Great (us.map fun u => ((Kqp4.frac u L).den : Int)) M → Q (.int M) H') : spGreat C vs H Q E
inductive spShareA (C : Addr) (vs : List V) (H : Hp) (Q : VK) (E : XK) : Prop
  | mk (fa : Addr) (n i : Nat) (rs : List Addr) (ua : Addr) (rows : List (List Int)) (us : List Int) (L : Nat) (u : Int) (a0 : vs = [.ref fa, .int n, .int i]) (a1 : FAt C fa H rs ua rows us L) (a2 : Sq rows) (a3 : n ≤ 4) (a4 : 0 < L) (a5 : (L * 100 ^ n).log2 < 9000) (a6 : (gens rows n us)[i]? = some u) (a7 : ∀ (H' : Hp) (p : Addr), Same H H' → H p = none → FracAt H' p (Kqp4.frac u (L * 100 ^ n)) → Q (.ref p) H') : spShareA C vs H Q E
inductive spApartA (C : Addr) (vs : List V) (H : Hp) (Q : VK) (E : XK) : Prop
  | mk (fa : Addr) (n : Nat) (rs : List Addr) (ua : Addr) (rows : List (List Int)) (us : List Int) (L : Nat) (a0 : vs = [.ref fa, .int n]) (a1 : FAt C fa H rs ua rows us L) (a2 : Sq rows) (a3 : n ≤ 4) (a4 : 0 < L) (a5 : (L * 100 ^ n).log2 < 9000) (a6 : gens rows n us ≠ []) (a7 : ∀ (H' : Hp) (p : Addr) (M m : Int), Great (gens rows n us) M → Least (gens rows n us) m → Same H H' → H p = none → FracAt H' p (Kqp4.frac (M - m) (L * 100 ^ n)) → Q (.ref p) H') : spApartA C vs H Q E
inductive spFewest (C : Addr) (vs : List V) (H : Hp) (Q : VK) (E : XK) : Prop
  | mk (fa : Addr) (rs : List Addr) (ua : Addr) (rows : List (List Int)) (us : List Int) (L : Int) (a0 : vs = [.ref fa]) (a1 : FAt C fa H rs ua rows us L) (a2 : Sq rows) (a3 : rows ≠ []) (a4 : ∀ (H' : Hp) (m : Int), Same H H' → (∃ r ∈ rows, m ∈ r) → (∀ r ∈ rows, ∀ x ∈ r, m ≤ x) → Q (.int m) H') : spFewest C vs H Q E
inductive spBoundA (C : Addr) (vs : List V) (H : Hp) (Q : VK) (E : XK) : Prop
  | mk (fa : Addr) (n : Nat) (rs : List Addr) (ua : Addr) (rows : List (List Int)) (us : List Int) (L : Nat) (a0 : vs = [.ref fa, .int n]) (a1 : FAt C fa H rs ua rows us L) (a2 : Sq rows) (a3 : n ≤ 4) (a4 : 0 < L) (a5 : (L * 100 ^ n).log2 < 9000) (a6 : rows ≠ []) (a7 : us ≠ []) (a8 : ∀ (H' : Hp) (p : Addr) (f M m : Int), (∃ r ∈ rows, f ∈ r) → (∀ r ∈ rows, ∀ x ∈ r, f ≤ x) → Great us M → Least us m → Same H H' → H p = none → FracAt H' p (Kqp4.frac ((M - m) * (100 - f * (rows.length : Int)) ^ n) (L * 100 ^ n)) → Q (.ref p) H') : spBoundA C vs H Q E
inductive spLowerA (C : Addr) (vs : List V) (H : Hp) (Q : VK) (E : XK) : Prop
  | mk (fa : Addr) (n : Nat) (rs : List Addr) (ua : Addr) (rows : List (List Int)) (us : List Int) (L : Nat) (a0 : vs = [.ref fa, .int n]) (a1 : FAt C fa H rs ua rows us L) (a2 : n ≤ 4) (a3 : Q (.int ((L * 100 ^ n : Nat) : Int)) H) : spLowerA C vs H Q E
inductive spForeU (C : Addr) (vs : List V) (H : Hp) (Q : VK) (E : XK) : Prop
  | mk (fa : Addr) (n j : Nat) (rs : List Addr) (ua : Addr) (rows : List (List Int)) (us : List Int) (L : Int) (a0 : vs = [.ref fa, .int n, .int j]) (a1 : FAt C fa H rs ua rows us L) (a2 : Sq rows) (a3 : n ≤ 4) (a4 : ∀ (H' : Hp) (p : Addr), Same H H' → H p = none → IntsAt H' p (gens rows n (unit rows.length j)) → Q (.ref p) H') : spForeU C vs H Q E
inductive spForeA (C : Addr) (vs : List V) (H : Hp) (Q : VK) (E : XK) : Prop
  | mk (fa : Addr) (n i j : Nat) (rs : List Addr) (ua : Addr) (rows : List (List Int)) (us : List Int) (L : Int) (u : Int) (a0 : vs = [.ref fa, .int n, .int i, .int j]) (a1 : FAt C fa H rs ua rows us L) (a2 : Sq rows) (a3 : n ≤ 4) (a4 : (gens rows n (unit rows.length j))[i]? = some u) (a5 : ∀ (H' : Hp) (p : Addr), Same H H' → H p = none → FracAt H' p (Kqp4.frac u (100 ^ n)) → Q (.ref p) H') : spForeA C vs H Q E
theorem cast_pow (n : Nat) : ((100 ^ n : Nat) : Int) = (100 : Int) ^ n := by
  rw [Int.natCast_pow]
  rfl
theorem cast_lower (L n : Nat) : ((L * 100 ^ n : Nat) : Int) = (L : Int) * (100 : Int) ^ n := by rw [Int.natCast_mul, cast_pow]
theorem pow_log : ∀ n : Nat, n ≤ 4 → (100 ^ n).log2 < 9000 := by decide
theorem pow_small : ∀ n : Nat, n ≤ 4 → -(2 ^ 64) < (100 : Int) ^ n ∧ (100 : Int) ^ n < 2 ^ 64 := by decide
section
variable {P : Program} {w : World} {K : PySem.W.Frag} {mg : Str → Option Value} {base : Heap} {C : Addr}
theorem sc_go : FnScope ["self"] ["self"] (defScope s_Fields_go_by) := ⟨rfl, rfl, rfl, by decide +kernel, rfl, by decide +kernel, by decide +kernel⟩
theorem ok_go {f : Addr} {fd : FuncData} (T : Txt K mg C) (F : Fun K "go_by" "Fields.go_by" s_Fields_go_by f fd) : FnOk P w K mg base CX0 3 f fd ["self"] (spGo C) := by
  obtain ⟨f1, fd1, F1, b1, m1⟩ := T.d_generations_on
  have G1 : FnOk P w K mg base CX0 2 f1 fd1 ["rows", "uppers", "n"] spGens := ok_gens T F1
  obtain ⟨tk, mH⟩ := T.c_HUNDRED
  refine F.ok sc_go (fun vs H Q E h => ?_) (fun cdv A outer s H vs Q E hr h => ?_)
  · obtain ⟨_, _, _, _, _, _, rfl, _⟩ := h
    rfl
  · obtain ⟨fa, rs, ua, rows, us, L, rfl, hF, sq, k⟩ := h
    obtain ⟨dx, ra, h1, h2⟩ := hF.obj
    refine ⟨_, pss_cons (ps_fld (pv 0) (pe_call G1 hr rfl m1 F1.kp b1 .nil pass0 (pa_cons (pe_fld (pv 0) rfl) (pa_cons (pe_fld (pv 0) rfl) (pa_cons pe_int pa_nil)))) rfl)
      (pss_one (ps_fldaug (pv 0) (pe_glob (v := .int 100) rfl mH ⟨_, rfl⟩) iop_mul)), ?_⟩
    refine ⟨_, rfl, fa, C, dx, _, _, rfl, h1, T.cl, T.n_rows, fF_rows _ _ _, _, rfl, fa, C, dx, _, _, rfl, h1, T.cl, T.n_uppers, fF_uppers _ _ _, ra, ua, 1, rs, rows, us, rfl, h2, hF.ups, sq, (by decide), fun H1 p s1 hp hor => ?_⟩
    have hn : H p = none := by
      rcases hor with z | z
      · exact absurd z.2 (by decide)
      · exact z
    have h1' := s1 _ _ h1
    refine ⟨_, rfl, fa, C, dx, _, rfl, h1', T.cl, T.n_uppers, fF_few _ _ _, ?_⟩
    rw [fF_putU]
    refine ⟨_, rfl, fa, C, dx, _, _, rfl, upd_same, T.cl, T.n_common_lower, fF_lower _ _ _, _, _, rfl, rfl, .inr ⟨by decide, by decide⟩, dx, _, upd_same, fF_few _ _ _, ?_⟩
    rw [fF_putL]
    have x : But fa H1 (upd (upd H1 fa (.ins C dx (fF (.ref ra) (.ref p) (.int L)))) fa (.ins C dx (fF (.ref ra) (.ref p) (.int (L * 100))))) := But.trans But.upd But.upd
    refine k _ p ⟨⟨dx, ra, upd_same, (h2.same s1).but h1' x⟩, x _ _ hp (ints_ne_ins hp h1'), hF.nd, fun hm => ?_⟩ (Same.but s1 x) (fun g hg hA => ⟨dx, ra, p, _, upd_same, (hA.get h1).1, fun e => hg (e ▸ hn)⟩)
    obtain ⟨i, hi⟩ := List.getElem?_of_mem hm
    obtain ⟨r', _, e2⟩ := h2.at_ i p hi
    have e2' : H p = _ := e2
    rw [hn] at e2'
    cases e2'
theorem sc_great : FnScope ["self", "upper"] ["self"] (defScope s_Fields_greatest_lower) := ⟨rfl, rfl, rfl, by decide +kernel, rfl, by decide +kernel, by decide +kernel⟩
theorem ok_great {f : Addr} {fd : FuncData} (T : Txt K mg C) (F : Fun K "greatest_lower" "Fields.greatest_lower" s_Fields_greatest_lower f fd) : FnOk P w K mg base CX0 3 f fd ["self"] (spGreat C) := by
  obtain ⟨f1, fd1, F1, b1, m1⟩ := T.d_lowest
  have G1 : FnOk P w K mg base CX0 2 f1 fd1 ["upper", "lower"] spLow := ok_low T F1
  refine F.ok sc_great (fun vs H Q E h => ?_) (fun cdv A outer s H vs Q E hr h => ?_)
  · obtain ⟨_, _, _, _, _, _, rfl, _⟩ := h
    rfl
  · obtain ⟨fa, rs, ua, rows, us, L, rfl, hF, hL, hlog, hne, h4, k⟩ := h
    obtain ⟨dx, ra, h1, h2⟩ := hF.obj
    refine ⟨_, pss_one (ps_ret (pe_callB (call_maxI rfl) (by rfl) T.b_max (by decide +kernel) (pa_cons
      (pe_lc (te := tOp (rIxL K) (tCall spLow [] E0 (tCons (tVar 1) (tCons (tFld K (tVar 0) "common_lower") tNil))) (tC (.int 1))) rfl sc_great.nd (pi_list (pe_fld (pv 0) rfl)) (blkOk_by (own := [("upper", 1)]) (by rfl))
        (fun _ _ _ _ _ => pg_name (i := 1) sc_great.nd rfl (Or.inl rfl)) (fun _ _ _ _ _ => pts_nil)
        (fun _ _ _ _ _ => pe_ix ix_list (pe_call G1 hr rfl m1 F1.kp b1 .nil pass0 (pa_cons (pv 1) (pa_cons (pe_fld (pv 0) rfl) pa_nil))) pe_int (fun _ _ => rfl))) pa_nil))), ?_⟩
    refine ⟨_, rfl, fa, C, dx, _, _, rfl, h1, T.cl, T.n_uppers, fF_uppers _ _ _, ua, rfl, ⟨_, SqL.of hF.ups⟩, fun D hD => lc_mapL (ys := (us.map fun u => ((Kqp4.frac u L).den : Int)).map V.int) hD (SqL.of hF.ups) (by simp) ?_ (fun j x y H2 R hx hy s2 hRR => ?_) (fun H2 s2 hD2 => ?_)⟩
    · rw [List.length_map]
      exact small_line (by omega)
    · obtain ⟨u, hu, rfl⟩ := map_get hx
      obtain ⟨y1, hy1, rfl⟩ := map_get hy
      rw [List.getElem?_map, hu] at hy1
      cases hy1
      refine ⟨rfl, _, rfl, _, rfl, fa, C, dx, _, _, rfl, s2 _ _ h1, T.cl, T.n_common_lower, fF_lower _ _ _, u, L, rfl, hL, hlog, fun p hp => ?_⟩
      exact ⟨p, _, 1, _, rfl, rfl, SqL.of upd_same, rfl, hRR _ (Same.new hp)⟩
    · exact ⟨D, _, rfl, SqL.of hD2, (by simpa using hne), fun M h5 h6 => k H2 M s2 ⟨h5, h6⟩⟩
theorem sc_lowerA : FnScope ["self", "n"] ["self", "n"] (defScope s_Fields_lower_after) := ⟨rfl, rfl, rfl, by decide +kernel, rfl, by decide +kernel, by decide +kernel⟩
theorem ok_lowerA {f : Addr} {fd : FuncData} (T : Txt K mg C) (F : Fun K "lower_after" "Fields.lower_after" s_Fields_lower_after f fd) : FnOk P w K mg base CX0 2 f fd ["self", "n"] (spLowerA C) := by
  obtain ⟨f3, fd3, F3, b3, m3⟩ := T.d_power
  have G3 : FnOk P w K mg base CX0 1 f3 fd3 ["base", "times"] spPow := ok_pow T F3
  obtain ⟨tk, mH⟩ := T.c_HUNDRED
  refine F.ok sc_lowerA (fun vs H Q E h => ?_) (fun cdv A outer s H vs Q E hr h => ?_)
  · obtain ⟨_, _, _, _, _, _, _, rfl, _⟩ := h
    rfl
  · obtain ⟨fa, n, rs, ua, rows, us, L, rfl, hF, hn, k⟩ := h
    obtain ⟨dx, ra, h1, h2⟩ := hF.obj
    refine ⟨_, pss_one (ps_ret (pe_op op_mul (pe_fld (pv 0) rfl) (pe_call G3 hr rfl m3 F3.kp b3 .nil pass0 (pa_cons (pe_glob (v := .int 100) rfl mH ⟨_, rfl⟩) (pa_cons (pv 1) pa_nil))))), ?_⟩
    refine ⟨_, rfl, fa, C, dx, _, _, rfl, h1, T.cl, T.n_common_lower, fF_lower _ _ _, _, rfl, 100, n, rfl, ⟨by decide, by decide⟩, (by omega), ?_⟩
    refine ⟨_, _, rfl, rfl, .inr (pow_small n hn), ?_⟩
    rw [cast_lower] at k
    exact k
theorem sc_shareA : FnScope ["self", "n", "i", "uppers"] ["self", "n", "i"] (defScope s_Fields_share_after) := ⟨rfl, rfl, rfl, by decide +kernel, rfl, by decide +kernel, by decide +kernel⟩
theorem ok_shareA {f : Addr} {fd : FuncData} (T : Txt K mg C) (F : Fun K "share_after" "Fields.share_after" s_Fields_share_after f fd) : FnOk P w K mg base CX0 3 f fd ["self", "n", "i"] (spShareA C) := by
  obtain ⟨f1, fd1, F1, b1, m1⟩ := T.d_generations_on
  obtain ⟨f2, fd2, F2, b2, m2⟩ := T.d_lowest
  obtain ⟨f5, fd5, F5, b5, m5⟩ := T.m_lower_after
  have G5 : FnOk P w K mg base CX0 2 f5 fd5 ["self", "n"] (spLowerA C) := ok_lowerA T F5
  have G1 : FnOk P w K mg base CX0 2 f1 fd1 ["rows", "uppers", "n"] spGens := ok_gens T F1
  have G2 : FnOk P w K mg base CX0 2 f2 fd2 ["upper", "lower"] spLow := ok_low T F2
  refine F.ok sc_shareA (fun vs H Q E h => ?_) (fun cdv A outer s H vs Q E hr h => ?_)
  · obtain ⟨_, _, _, _, _, _, _, _, _, rfl, _⟩ := h
    rfl
  · obtain ⟨fa, n, i, rs, ua, rows, us, L, u, rfl, hF, sq, hn, hL, hlog, hu, k⟩ := h
    obtain ⟨dx, ra, h1, h2⟩ := hF.obj
    refine ⟨_, pss_cons (ps_set (i := 3) sc_shareA.nd rfl (Or.inl rfl) (pe_call G1 hr rfl m1 F1.kp b1 .nil pass0 (pa_cons (pe_fld (pv 0) rfl) (pa_cons (pe_fld (pv 0) rfl) (pa_cons (pv 1) pa_nil)))))
      (pss_one (ps_ret (pe_call G2 hr rfl m2 F2.kp b2 .nil pass0 (pa_cons (pe_ix ix_list (pv 3) (pv 2) (fun _ _ => rfl)) (pa_cons
        (pe_meth (pv 0) T.cl m5 G5 hr b5 .nil pass0 (pa_cons (pv 1) pa_nil)) pa_nil))))), ?_⟩
    refine ⟨_, rfl, fa, C, dx, _, _, rfl, h1, T.cl, T.n_rows, fF_rows _ _ _, _, rfl, fa, C, dx, _, _, rfl, h1, T.cl, T.n_uppers, fF_uppers _ _ _, _, rfl, ra, ua, n, rs, rows, us, rfl, h2, hF.ups, sq, (by omega), fun H1 p s1 hp hor => ?_⟩
    refine ⟨_, rfl, _, rfl, p, _, _, _, rfl, rfl, SqL.of hp, atI_nat (by rw [List.getElem?_map, hu]; rfl), _, rfl, fa, dx, _, rfl, s1 _ _ h1, fF_no _ _ _ (by decide +kernel) (by decide +kernel) (by decide +kernel), _, rfl, fa, n, rs, ua, rows, us, L, rfl, hF.same s1, hn, u, L * 100 ^ n, rfl, Nat.mul_pos hL (hun_pos n), hlog, fun q hq => ?_⟩
    exact k _ q (s1.trans (Same.new hq)) (s1.free hq) upd_same
theorem sc_apartA : FnScope ["self", "n", "uppers"] ["self", "n"] (defScope s_Fields_apart_after) := ⟨rfl, rfl, rfl, by decide +kernel, rfl, by decide +kernel, by decide +kernel⟩
theorem ok_apartA {f : Addr} {fd : FuncData} (T : Txt K mg C) (F : Fun K "apart_after" "Fields.apart_after" s_Fields_apart_after f fd) : FnOk P w K mg base CX0 3 f fd ["self", "n"] (spApartA C) := by
  obtain ⟨f1, fd1, F1, b1, m1⟩ := T.d_generations_on
  obtain ⟨f2, fd2, F2, b2, m2⟩ := T.d_lowest
  obtain ⟨f5, fd5, F5, b5, m5⟩ := T.m_lower_after
  have G5 : FnOk P w K mg base CX0 2 f5 fd5 ["self", "n"] (spLowerA C) := ok_lowerA T F5
  have G1 : FnOk P w K mg base CX0 2 f1 fd1 ["rows", "uppers", "n"] spGens := ok_gens T F1
  have G2 : FnOk P w K mg base CX0 2 f2 fd2 ["upper", "lower"] spLow := ok_low T F2
  refine F.ok sc_apartA (fun vs H Q E h => ?_) (fun cdv A outer s H vs Q E hr h => ?_)
  · obtain ⟨_, _, _, _, _, _, _, rfl, _⟩ := h
    rfl
  · obtain ⟨fa, n, rs, ua, rows, us, L, rfl, hF, sq, hn, hL, hlog, hne, k⟩ := h
    obtain ⟨dx, ra, h1, h2⟩ := hF.obj
    refine ⟨_, pss_cons (ps_set (i := 2) sc_apartA.nd rfl (Or.inl rfl) (pe_call G1 hr rfl m1 F1.kp b1 .nil pass0 (pa_cons (pe_fld (pv 0) rfl) (pa_cons (pe_fld (pv 0) rfl) (pa_cons (pv 1) pa_nil)))))
      (pss_one (ps_ret (pe_call G2 hr rfl m2 F2.kp b2 .nil pass0 (pa_cons (pe_op op_sub (pe_callB (call_maxI rfl) (by rfl) T.b_max (by decide +kernel) (pa_cons (pv 2) pa_nil)) (pe_callB (call_minI rfl) (by rfl) T.b_min (by decide +kernel) (pa_cons (pv 2) pa_nil))) (pa_cons
        (pe_meth (pv 0) T.cl m5 G5 hr b5 .nil pass0 (pa_cons (pv 1) pa_nil)) pa_nil))))), ?_⟩
    refine ⟨_, rfl, fa, C, dx, _, _, rfl, h1, T.cl, T.n_rows, fF_rows _ _ _, _, rfl, fa, C, dx, _, _, rfl, h1, T.cl, T.n_uppers, fF_uppers _ _ _, _, rfl, ra, ua, n, rs, rows, us, rfl, h2, hF.ups, sq, (by omega), fun H1 p s1 hp hor => ?_⟩
    refine ⟨_, rfl, p, _, rfl, SqL.of hp, hne, fun M hM1 hM2 => ⟨_, rfl, p, _, rfl, SqL.of hp, hne, fun m hm1 hm2 => ⟨_, _, rfl, rfl, ?_⟩⟩⟩
    refine ⟨_, rfl, fa, dx, _, rfl, s1 _ _ h1, fF_no _ _ _ (by decide +kernel) (by decide +kernel) (by decide +kernel), _, rfl, fa, n, rs, ua, rows, us, L, rfl, hF.same s1, hn, M - m, L * 100 ^ n, rfl, Nat.mul_pos hL (hun_pos n), hlog, fun q hq => ?_⟩
    exact k _ q M m ⟨hM1, hM2⟩ ⟨hm1, hm2⟩ (s1.trans (Same.new hq)) (s1.free hq) upd_same
theorem sc_fewest : FnScope ["self", "row"] ["self"] (defScope s_Fields_fewest) := ⟨rfl, rfl, rfl, by decide +kernel, rfl, by decide +kernel, by decide +kernel⟩
theorem least_ex : ∀ (l : List Int), l ≠ [] → ∃ m, Least l m
  | [], h => absurd rfl h
  | [a], _ => ⟨a, List.mem_cons_self, fun b hb => by rw [List.mem_singleton.mp hb]; exact Int.le_refl _⟩
  | a :: b :: l, _ => by
    obtain ⟨m, h1, h2⟩ := least_ex (b :: l) (by simp)
    by_cases h : a ≤ m
    · refine ⟨a, List.mem_cons_self, fun c hc => ?_⟩
      rcases List.mem_cons.mp hc with e | hc
      · rw [e]; exact Int.le_refl _
      · exact Int.le_trans h (h2 c hc)
    · refine ⟨m, List.mem_cons_of_mem _ h1, fun c hc => ?_⟩
      rcases List.mem_cons.mp hc with e | hc
      · omega
      · exact h2 c hc
theorem least_uniq {l : List Int} {a b : Int} (h : Least l a) (h' : Least l b) : a = b := by
  have := h.2 b h'.1
  have := h'.2 a h.1
  omega
theorem leasts : ∀ rows : List (List Int), (∀ r ∈ rows, r ≠ []) → ∃ ms : List Int, ms.length = rows.length ∧ ∀ (i : Nat) (r : List Int) (m : Int), rows[i]? = some r → ms[i]? = some m → Least r m := by
  intro l_
  induction l_ with
  | nil =>
    intro _
    exact ⟨[], rfl, fun i r m h => by simp at h⟩
  | cons r rows ih =>
    intro h
    obtain ⟨m, hm⟩ := least_ex r (h r List.mem_cons_self)
    obtain ⟨ms, h1, h2⟩ := ih fun q hq => h q (List.mem_cons_of_mem _ hq)
    refine ⟨m :: ms, by rw [List.length_cons, List.length_cons, h1], fun i r' m' e1 e2 => ?_⟩
    cases i with
    | zero =>
      cases e1
      cases e2
      exact hm
    | succ i => exact h2 i r' m' e1 e2
theorem ok_fewest {f : Addr} {fd : FuncData} (T : Txt K mg C) (F : Fun K "fewest" "Fields.fewest" s_Fields_fewest f fd) : FnOk P w K mg base CX0 1 f fd ["self"] (spFewest C) := by
  refine F.ok sc_fewest (fun vs H Q E h => ?_) (fun cdv A outer s H vs Q E hr h => ?_)
  · obtain ⟨_, _, _, _, _, _, rfl, _⟩ := h
    rfl
  · obtain ⟨fa, rs, ua, rows, us, L, rfl, hF, sq, hne, k⟩ := h
    obtain ⟨dx, ra, h1, h2⟩ := hF.obj
    have hpos : 0 < rows.length := List.length_pos_iff.mpr hne
    obtain ⟨ms, hl, hms⟩ := leasts rows fun r hr e => by
      have := sq.len r hr
      rw [e] at this
      simp at this
      omega
    refine ⟨_, pss_one (ps_ret (pe_callB (call_minI rfl) (by rfl) T.b_min (by decide +kernel) (pa_cons
      (pe_lc (te := tCB (rMinI K) (tCons (tVar 1) tNil)) rfl sc_fewest.nd (pi_list (pe_fld (pv 0) rfl)) (blkOk_by (own := [("row", 1)]) (by rfl))
        (fun _ _ _ _ _ => pg_name (i := 1) sc_fewest.nd rfl (Or.inl rfl)) (fun _ _ _ _ _ => pts_nil)
        (fun _ _ _ _ _ => pe_callB (call_minI rfl) (by rfl) T.b_min (by decide +kernel) (pa_cons (pv 1) pa_nil))) pa_nil))), ?_⟩
    refine ⟨_, rfl, fa, C, dx, _, _, rfl, h1, T.cl, T.n_rows, fF_rows _ _ _, ra, rfl, ⟨_, SqL.of h2.lst⟩, fun D hD => lc_mapL (ys := ms.map V.int) hD (SqL.of h2.lst) (by simp [hl, h2.len]) ?_ (fun j x y H2 R hx hy s2 hRR => ?_) (fun H2 s2 hD2 => ?_)⟩
    · rw [List.length_map, h2.len]
      exact small_line (by have := sq.le; omega)
    · obtain ⟨a, ha, rfl⟩ := map_get hx
      obtain ⟨m, hm, rfl⟩ := map_get hy
      obtain ⟨r, hr1, hr2⟩ := h2.at_ j a ha
      have hL := hms j r m hr1 hm
      refine ⟨rfl, _, rfl, a, r, rfl, SqL.of (s2 _ _ hr2), (fun e => by rw [e] at hL; exact nomatch hL.1), fun M hM1 hM2 => ?_⟩
      have : M = m := least_uniq ⟨hM1, hM2⟩ hL
      subst this
      exact hRR H2 (Same.refl H2)
    · refine ⟨D, ms, rfl, SqL.of hD2, (fun e => by rw [e] at hl; simp at hl; omega), fun M hM1 hM2 => k H2 M s2 ?_ ?_⟩
      · obtain ⟨i, hi⟩ := List.getElem?_of_mem hM1
        obtain ⟨r, hr⟩ : ∃ r, rows[i]? = some r := ⟨_, List.getElem?_eq_getElem (by have := (List.getElem?_eq_some_iff.mp hi).1; omega)⟩
        exact ⟨r, List.mem_of_getElem? hr, (hms i r M hr hi).1⟩
      · intro r hr x hx
        obtain ⟨i, hi⟩ := List.getElem?_of_mem hr
        obtain ⟨m, hm⟩ : ∃ m, ms[i]? = some m := ⟨_, List.getElem?_eq_getElem (by have := (List.getElem?_eq_some_iff.mp hi).1; omega)⟩
        exact Int.le_trans (hM2 m (List.mem_of_getElem? hm)) ((hms i r m hi hm).2 x hx)
theorem sc_boundA : FnScope ["self", "n", "left", "apart"] ["self", "n"] (defScope s_Fields_bound_after) := ⟨rfl, rfl, rfl, by decide +kernel, rfl, by decide +kernel, by decide +kernel⟩
theorem ok_boundA {f : Addr} {fd : FuncData} (T : Txt K mg C) (F : Fun K "bound_after" "Fields.bound_after" s_Fields_bound_after f fd) : FnOk P w K mg base CX0 3 f fd ["self", "n"] (spBoundA C) := by
  obtain ⟨f1, fd1, F1, b1, m1⟩ := T.m_fewest
  obtain ⟨f2, fd2, F2, b2, m2⟩ := T.d_lowest
  obtain ⟨f3, fd3, F3, b3, m3⟩ := T.d_power
  obtain ⟨f5, fd5, F5, b5, m5⟩ := T.m_lower_after
  have G5 : FnOk P w K mg base CX0 2 f5 fd5 ["self", "n"] (spLowerA C) := ok_lowerA T F5
  obtain ⟨f4, fd4, F4, b4, m4⟩ := T.m_how_many
  have G1 : FnOk P w K mg base CX0 1 f1 fd1 ["self"] (spFewest C) := ok_fewest T F1
  have G2 : FnOk P w K mg base CX0 2 f2 fd2 ["upper", "lower"] spLow := ok_low T F2
  have G3 : FnOk P w K mg base CX0 1 f3 fd3 ["base", "times"] spPow := ok_pow T F3
  have G4 : FnOk P w K mg base CX0 1 f4 fd4 ["self"] (spHow C) := ok_how T F4
  obtain ⟨tk, mH⟩ := T.c_HUNDRED
  refine F.ok sc_boundA (fun vs H Q E h => ?_) (fun cdv A outer s H vs Q E hr h => ?_)
  · obtain ⟨_, _, _, _, _, _, _, rfl, _⟩ := h
    rfl
  · obtain ⟨fa, n, rs, ua, rows, us, L, rfl, hF, sq, hn, hL, hlog, hne, hne2, k⟩ := h
    obtain ⟨dx, ra, h1, h2⟩ := hF.obj
    have hr1 : Room 1 _ := hr.mono (by decide)
    refine ⟨_, pss_cons (ps_set (i := 2) sc_boundA.nd rfl (Or.inl rfl) (pe_op op_sub (pe_glob (v := .int 100) rfl mH ⟨_, rfl⟩) (pe_op op_mul (pe_meth0 (pv 0) T.cl m1 G1 hr1 b1 .nil pass0) (pe_meth0 (pv 0) T.cl m4 G4 hr1 b4 .nil pass0))))
      (pss_cons (ps_set (i := 3) sc_boundA.nd rfl (Or.inl rfl) (pe_op op_sub (pe_callB (call_maxI rfl) (by rfl) T.b_max (by decide +kernel) (pa_cons (pe_fld (pv 0) rfl) pa_nil)) (pe_callB (call_minI rfl) (by rfl) T.b_min (by decide +kernel) (pa_cons (pe_fld (pv 0) rfl) pa_nil))))
      (pss_one (ps_ret (pe_call G2 hr rfl m2 F2.kp b2 .nil pass0 (pa_cons (pe_op op_mul (pv 3) (pe_call G3 hr1 rfl m3 F3.kp b3 .nil pass0 (pa_cons (pv 2) (pa_cons (pv 1) pa_nil)))) (pa_cons
        (pe_meth (pv 0) T.cl m5 G5 hr b5 .nil pass0 (pa_cons (pv 1) pa_nil)) pa_nil)))))), ?_⟩
    have hw : ∀ m : Str, (¬ m = "rows") → (¬ m = "uppers") → (¬ m = "common_lower") → (fF (V.ref ra) (V.ref ua) (V.int L)).lookup m = none := fun m a b c => fF_no _ _ _ a b c
    refine ⟨_, rfl, fa, dx, _, rfl, h1, hw _ (by decide +kernel) (by decide +kernel) (by decide +kernel), fa, rs, ua, rows, us, L, rfl, hF, sq, hne, fun H1 q s1 hq1 hq2 => ?_⟩
    have hF1 := hF.same s1
    have h1' := s1 _ _ h1
    refine ⟨_, rfl, fa, dx, _, rfl, h1', hw _ (by decide +kernel) (by decide +kernel) (by decide +kernel), fa, rs, ua, rows, us, L, rfl, hF1, ?_⟩
    have q100 : 0 ≤ q ∧ q ≤ 100 := let ⟨r, h5, h6⟩ := hq1; sq.ent r h5 q h6
    have h4 := sq.le
    have hqr : 0 ≤ q * (rows.length : Int) ∧ q * (rows.length : Int) ≤ 400 := by
      refine ⟨Int.mul_nonneg q100.1 (by omega), ?_⟩
      have := Int.mul_le_mul q100.2 (show (rows.length : Int) ≤ 4 by omega) (by omega) (by omega)
      omega
    refine ⟨_, _, rfl, rfl, .inl ⟨by omega, by omega⟩, _, _, rfl, rfl, ?_⟩
    refine ⟨_, rfl, fa, C, dx, _, _, rfl, h1', T.cl, T.n_uppers, fF_uppers _ _ _, ua, us, rfl, SqL.of hF1.ups, hne2, fun M hM1 hM2 => ⟨_, rfl, fa, C, dx, _, _, rfl, h1', T.cl, T.n_uppers, fF_uppers _ _ _, ua, us, rfl, SqL.of hF1.ups, hne2, fun m hm1 hm2 => ⟨_, _, rfl, rfl, ?_⟩⟩⟩
    have lsm : -(2 ^ 64) < (100 - q * (rows.length : Int)) ^ n ∧ (100 - q * (rows.length : Int)) ^ n < 2 ^ 64 := by
      have key : ∀ z : Int, -300 ≤ z → z ≤ 100 → -(2 ^ 64) < z ^ n ∧ z ^ n < 2 ^ 64 := by
        intro z hz1 hz2
        have a1 : z.natAbs ≤ 300 := by omega
        have a2 : (z ^ n).natAbs ≤ 300 ^ 4 := by
          rw [Int.natAbs_pow]
          exact Nat.le_trans (Nat.pow_le_pow_left a1 n) (Nat.pow_le_pow_right (by decide) hn)
        have a3 : (300 : Nat) ^ 4 = 8100000000 := by decide
        omega
      exact key _ (by omega) (by omega)
    refine ⟨_, rfl, _, rfl, _, rfl, 100 - q * (rows.length : Int), n, rfl, ⟨by omega, by omega⟩, (by omega), _, _, rfl, rfl, .inr lsm, ?_⟩
    refine ⟨_, rfl, fa, dx, _, rfl, h1', hw _ (by decide +kernel) (by decide +kernel) (by decide +kernel), _, rfl, fa, n, rs, ua, rows, us, L, rfl, hF1, hn, (M - m) * (100 - q * (rows.length : Int)) ^ n, L * 100 ^ n, rfl, Nat.mul_pos hL (hun_pos n), hlog, fun z hz => ?_⟩
    exact k _ z q M m hq1 hq2 ⟨hM1, hM2⟩ ⟨hm1, hm2⟩ (s1.trans (Same.new hz)) (s1.free hz) upd_same
theorem sc_foreU : FnScope ["self", "n", "j", "of_j", "field"] ["self", "n", "j"] (defScope s_Fields_forebear_uppers) := ⟨rfl, rfl, rfl, by decide +kernel, rfl, by decide +kernel, by decide +kernel⟩
theorem ok_foreU {f : Addr} {fd : FuncData} (T : Txt K mg C) (F : Fun K "forebear_uppers" "Fields.forebear_uppers" s_Fields_forebear_uppers f fd) : FnOk P w K mg base CX0 3 f fd ["self", "n", "j"] (spForeU C) := by
  obtain ⟨f1, fd1, F1, b1, m1⟩ := T.d_generations_on
  obtain ⟨f4, fd4, F4, b4, m4⟩ := T.m_how_many
  have G1 : FnOk P w K mg base CX0 2 f1 fd1 ["rows", "uppers", "n"] spGens := ok_gens T F1
  have G4 : FnOk P w K mg base CX0 1 f4 fd4 ["self"] (spHow C) := ok_how T F4
  refine F.ok sc_foreU (fun vs H Q E h => ?_) (fun cdv A outer s H vs Q E hr h => ?_)
  · obtain ⟨_, _, _, _, _, _, _, _, rfl, _⟩ := h
    rfl
  · obtain ⟨fa, n, j, rs, ua, rows, us, L, rfl, hF, sq, hn, k⟩ := h
    obtain ⟨dx, ra, h1, h2⟩ := hF.obj
    have hr1 : Room 1 _ := hr.mono (by decide)
    have h4 := sq.le
    refine ⟨_, pss_cons (ps_setLc (i := 3) rfl sc_foreU.nd rfl rfl (sw_true rfl rfl rfl rfl) (pi_range1 rfl T.b_range (pa_cons (pe_meth0 (pv 0) T.cl m4 G4 hr1 b4 .nil pass0) pa_nil)) (blkOk_by (own := [("field", 4)]) (by rfl))
        (fun _ _ _ _ _ => pg_name (i := 4) sc_foreU.nd rfl (Or.inl rfl)) (fun _ _ _ _ _ => pts_nil) (fun _ _ _ _ _ => pe_ifExp (pt_cmpR op_eq (pv 4) (pv 2) (nomark _)) pe_int pe_int))
      (pss_one (ps_ret (pe_call G1 hr rfl m1 F1.kp b1 .nil pass0 (pa_cons (pe_fld (pv 0) rfl) (pa_cons (pv 3) (pa_cons (pv 1) pa_nil)))))), ?_⟩
    refine ⟨_, rfl, fa, dx, _, rfl, h1, fF_no _ _ _ (by decide +kernel) (by decide +kernel) (by decide +kernel), fa, rs, ua, rows, us, L, rfl, hF, (rows.length : Int), rfl, (by omega), (by omega), ?_⟩
    rw [Int.toNat_natCast]
    refine fun D hD => lc_mapR (ys := (unit rows.length j).map V.int) hD (by rw [List.length_map, unit_length]) (small_line (by omega)) (fun l y H2 R hl hy s2 hRR => ?_) (fun H2 s2 hD2 => ?_)
    · obtain ⟨y1, hy1, rfl⟩ := map_get hy
      rw [unit_get hl] at hy1
      cases hy1
      refine ⟨rfl, _, rfl, _, rfl, rfl, _, rfl, ite2 (fun hc => ?_) (fun hc => ?_)⟩
      · have e : V.int (0 + (l : Int)) = V.int (j : Int) := of_decide_eq_true hc
        have e' := V.int.inj e
        have hlj : l = j := by omega
        have := hRR H2 (Same.refl H2)
        rw [if_pos hlj] at this
        exact this
      · have hlj : ¬ l = j := fun e => hc (decide_eq_true (by rw [e, Int.zero_add]))
        have := hRR H2 (Same.refl H2)
        rw [if_neg hlj] at this
        exact this
    · have h1' := s2 _ _ h1
      refine ⟨_, rfl, fa, C, dx, _, _, rfl, h1', T.cl, T.n_rows, fF_rows _ _ _, _, rfl, _, rfl, ra, D, n, rs, rows, unit rows.length j, rfl, h2.same s2, hD2, sq, (by omega), fun H3 p s3 hp hor => ?_⟩
      refine k H3 p (s2.trans s3) ?_ hp
      rcases hor with z | z
      · rw [z.1]
        exact hD
      · exact s2.free z
theorem sc_foreA : FnScope ["self", "n", "i", "j"] ["self", "n", "i", "j"] (defScope s_Fields_forebears_after) := ⟨rfl, rfl, rfl, by decide +kernel, rfl, by decide +kernel, by decide +kernel⟩
theorem ok_foreA {f : Addr} {fd : FuncData} (T : Txt K mg C) (F : Fun K "forebears_after" "Fields.forebears_after" s_Fields_forebears_after f fd) : FnOk P w K mg base CX0 4 f fd ["self", "n", "i", "j"] (spForeA C) := by
  obtain ⟨f1, fd1, F1, b1, m1⟩ := T.m_forebear_uppers
  obtain ⟨f2, fd2, F2, b2, m2⟩ := T.d_lowest
  obtain ⟨f3, fd3, F3, b3, m3⟩ := T.d_power
  have G1 : FnOk P w K mg base CX0 3 f1 fd1 ["self", "n", "j"] (spForeU C) := ok_foreU T F1
  have G2 : FnOk P w K mg base CX0 2 f2 fd2 ["upper", "lower"] spLow := ok_low T F2
  have G3 : FnOk P w K mg base CX0 1 f3 fd3 ["base", "times"] spPow := ok_pow T F3
  obtain ⟨tk, mH⟩ := T.c_HUNDRED
  refine F.ok sc_foreA (fun vs H Q E h => ?_) (fun cdv A outer s H vs Q E hr h => ?_)
  · obtain ⟨_, _, _, _, _, _, _, _, _, _, rfl, _⟩ := h
    rfl
  · obtain ⟨fa, n, i, j, rs, ua, rows, us, L, u, rfl, hF, sq, hn, hu, k⟩ := h
    obtain ⟨dx, ra, h1, h2⟩ := hF.obj
    have hr1 : Room 1 _ := hr.mono (by decide)
    have hr2 : Room 2 _ := hr.mono (by decide)
    refine ⟨_, pss_one (ps_ret (pe_call G2 hr2 rfl m2 F2.kp b2 .nil pass0 (pa_cons (pe_ix ix_list (pe_meth (pv 0) T.cl m1 G1 hr b1 .nil pass0 (pa_cons (pv 1) (pa_cons (pv 3) pa_nil))) (pv 2) (fun _ _ => rfl)) (pa_cons
        (pe_call G3 hr1 rfl m3 F3.kp b3 .nil pass0 (pa_cons (pe_glob (v := .int 100) rfl mH ⟨_, rfl⟩) (pa_cons (pv 1) pa_nil))) pa_nil)))), ?_⟩
    refine ⟨_, rfl, fa, dx, _, rfl, h1, fF_no _ _ _ (by decide +kernel) (by decide +kernel) (by decide +kernel), _, rfl, _, rfl, fa, n, j, rs, ua, rows, us, L, rfl, hF, sq, hn, fun H3 p s3 hpn hp => ?_⟩
    refine ⟨_, rfl, p, _, _, _, rfl, rfl, SqL.of hp, atI_nat (by rw [List.getElem?_map, hu]; rfl), _, rfl, 100, n, rfl, ⟨by decide, by decide⟩, (by omega), ?_⟩
    refine ⟨u, 100 ^ n, ?_, hun_pos n, ?_, fun q hq => ?_⟩
    · show [V.int u, V.int ((100 : Int) ^ n)] ++ [] = _
      rw [← cast_pow]
      rfl
    · exact pow_log n hn
    · exact k _ q (s3.trans (Same.new hq)) (s3.free hq) upd_same
end
end Fs

end

section
set_option Elab.async false
set_option linter.all false
set_option maxRecDepth 100000
set_option maxHeartbeats 2000000
namespace L2
open PySem PySem.Spec PyProof.Rows
theorem lc_mapE {K : PySem.W.Frag} {a : Addr} {xs ys : List V} {g : TG} {te : TE} {vs : List Nat} {σ : St} {H1 : Hp} {D : Addr} {Qd : Hp → Prop} (hn : H1 D = none) (hA : SqL K H1 a xs) (hlen : ys.length = xs.length) (hz : xs.length ≤ sizeLine)
    (step : ∀ (i : Nat) (x y : V) (H : Hp) (T : Addr) (R : VK), xs[i]? = some x → ys[i]? = some y → Same H1 H → H T = some (.tup [.int (i : Nat), x]) → (∀ H', Same H H' → R y H') → g (.ref T) (wipe σ vs) H fun σ2 H2 => wipe σ2 vs = wipe σ vs ∧ te σ2 H2 R)
    (hd : ∀ H, Same H1 H → H D = some (.lst ys) → Qd H) :
    ∃ W : Nat → Nat → Hp → Prop, (∃ m, W 0 m (upd H1 D (.lst []))) ∧ ∀ i m H, W i m H →
      ((Ite K a).stop i H ∧ Qd H) ∨ ((Ite K a).go i H ∧ ∃ Nx : Hp → Prop, (∀ H', Nx H' → ∃ m', m' < m ∧ W (i + 1) m' H') ∧ ∀ x H', (Ite K a).yld i H x H' → g x (wipe σ vs) H' fun σ2 H2 => wipe σ2 vs = wipe σ vs ∧ tYes σ2 H2 fun b H3 =>
        if b = true then te σ2 H3 fun y H4 => ∃ acc, H4 D = some (.lst acc) ∧ acc.length < sizeLine ∧ Nx (upd H4 D (.lst (acc ++ [y]))) else Nx H3) := by
  refine ⟨fun i m H => m = ys.length - i ∧ i ≤ ys.length ∧ Same H1 H ∧ H D = some (.lst (ys.take i)), ⟨ys.length, by simp, Nat.zero_le _, Same.new hn, upd_same⟩, ?_⟩
  rintro i m H ⟨rfl, hi, p1, p2⟩
  have qa := p1.seq hA
  by_cases hlt : i < ys.length
  · refine .inr ⟨⟨xs, xs[i]'(by omega), qa, by simp⟩, fun H' => Same H1 H' ∧ H' D = some (.lst (ys.take (i + 1))), fun H' p' => ⟨ys.length - (i + 1), by omega, rfl, hlt, p'⟩, fun x H' y => ?_⟩
    obtain ⟨T, x1, rfl, hT, rfl, y1⟩ := y
    obtain ⟨w', hw⟩ : ∃ y, ys[i]? = some y := ⟨_, List.getElem?_eq_getElem hlt⟩
    have sT : Same H (upd H T (.tup [.int (i : Nat), x1])) := Same.new hT
    exact step i x1 w' _ T (fun y H4 => ∃ acc, H4 D = some (.lst acc) ∧ acc.length < sizeLine ∧ (Same H1 (upd H4 D (.lst (acc ++ [y]))) ∧ (upd H4 D (.lst (acc ++ [y]))) D = some (.lst (ys.take (i + 1))))) (y1 xs qa) hw (p1.trans sT) upd_same fun H' s' =>
      ⟨_, s' _ _ (sT _ _ p2), by rw [List.length_take]; omega, fun b o e => by rw [upd_ne (ne_of_none e hn)]; exact s' _ _ (sT _ _ (p1 _ _ e)), by rw [upd_same, take_snocV hw]⟩
  · have e : i = ys.length := by omega
    subst e
    refine .inl ⟨⟨xs, qa, by omega⟩, hd H p1 ?_⟩
    rw [List.take_of_length_le (Nat.le_refl _)] at p2
    exact p2
theorem for_enum {K : PySem.W.Frag} {a : Addr} {xs : List V} {g : TG} {tb : TS} {D : Ends} {σ : St} {H : Hp} (Pv : Nat → St → Hp → Prop) (h0 : Pv 0 σ H) (hl : ∀ i σ H, i ≤ xs.length → Pv i σ H → SqL K H a xs)
    (hs : ∀ i x σ H T, xs[i]? = some x → Pv i σ H → H T = none → g (.ref T) σ (upd H T (.tup [.int (i : Nat), x])) fun σ2 H2 => tb { D with nx := Pv (i + 1), ct := Pv (i + 1), bk := D.nx } σ2 H2) (hd : ∀ σ H, Pv xs.length σ H → D.nx σ H) :
    ∃ W : Nat → Nat → St → Hp → Prop, (∃ m, W 0 m σ H) ∧ ∀ i m σ H, W i m σ H →
      ((Ite K a).stop i H ∧ D.nx σ H) ∨ ((Ite K a).go i H ∧ ∃ N : St → Hp → Prop, (∀ σ' H', N σ' H' → ∃ m', m' < m ∧ W (i + 1) m' σ' H') ∧ ∀ x H', (Ite K a).yld i H x H' → g x σ H' fun σ2 H2 => tb { D with nx := N, ct := N, bk := D.nx } σ2 H2) := by
  refine ⟨fun i m σ H => m = xs.length - i ∧ i ≤ xs.length ∧ Pv i σ H, ⟨xs.length, by simp, Nat.zero_le _, h0⟩, ?_⟩
  rintro i m σ H ⟨rfl, hi, p⟩
  have q := hl i σ H hi p
  by_cases hlt : i < xs.length
  · refine .inr ⟨⟨xs, xs[i], q, by simp [hlt]⟩, Pv (i + 1), fun σ' H' p' => ⟨xs.length - (i + 1), by omega, rfl, hlt, p'⟩, fun x H' y => ?_⟩
    obtain ⟨T, x1, rfl, hT, rfl, y1⟩ := y
    exact hs i x1 σ _ T (y1 xs q) p hT
  · have e : i = xs.length := by omega
    subst e
    exact .inl ⟨⟨xs, q, Nat.le_refl _⟩, hd σ H p⟩
end L2
namespace Fs
open PySem PySem.Spec PyProof.Rows L2
theorem range_get {n i a : Nat} (h : (List.range n)[i]? = some a) : a = i ∧ i < n := by
  obtain ⟨h1, h2⟩ := List.getElem?_eq_some_iff.mp h
  rw [List.getElem_range] at h2
  rw [List.length_range] at h1
  exact ⟨h2.symm, h1⟩
theorem range_map_get {α : Type} {n i : Nat} {f : Nat → α} {y : α} (h : ((List.range n).map f)[i]? = some y) : y = f i ∧ i < n := by
  obtain ⟨a, ha, rfl⟩ := map_get h
  obtain ⟨rfl, h2⟩ := range_get ha
  exact ⟨rfl, h2⟩
theorem first_ix : ∀ (l : List Int) (M : Int), M ∈ l → ∃ i : Nat, l[i]? = some M ∧ ∀ (j : Nat) (v : Int), j < i → l[j]? = some v → v ≠ M := by
  intro l_
  induction l_ with
  | nil =>
    intro M h
    exact nomatch h
  | cons a l ih =>
    intro M h
    by_cases e : a = M
    · exact ⟨0, by rw [e]; rfl, fun j v hj => absurd hj (Nat.not_lt_zero _)⟩
    · have hm : M ∈ l := by
        rcases List.mem_cons.mp h with z | z
        · exact absurd z.symm e
        · exact z
      obtain ⟨i, h1, h2⟩ := ih M hm
      refine ⟨i + 1, h1, fun j v hj hv => ?_⟩
      cases j with
      | zero =>
        have : a = v := Option.some.inj hv
        rw [← this]
        exact e
      | succ j => exact h2 j v (by omega) hv
theorem least_all {l : List Int} {m : Int} (h1 : m ∈ l) (h2 : ∀ a, a ∈ l → m ≤ a) : decide (0 < m) = l.all fun y => decide (0 < y) := by
  rw [Bool.eq_iff_iff, decide_eq_true_iff, List.all_eq_true]
  constructor
  · intro h y hy
    have := h2 y hy
    exact decide_eq_true (by omega)
  · intro h
    exact of_decide_eq_true (h m h1)
inductive spOwn (C : Addr) (vs : List V) (H : Hp) (Q : VK) (E : XK) : Prop
  | mk (fa : Addr) (i : Nat) (rs : List Addr) (ua : Addr) (rows : List (List Int)) (us : List Int) (L : Int) (r : List Int) (c : Int) (a0 : vs = [.ref fa, .int i]) (a1 : FAt C fa H rs ua rows us L) (a2 : rows[i]? = some r) (a3 : r[i]? = some c) (a4 : Q (.int c) H) : spOwn C vs H Q E
inductive spFrom (C : Addr) (vs : List V) (H : Hp) (Q : VK) (E : XK) : Prop
  | mk (fa : Addr) (j : Nat) (rs : List Addr) (ua : Addr) (rows : List (List Int)) (us : List Int) (L : Int) (a0 : vs = [.ref fa, .int j]) (a1 : FAt C fa H rs ua rows us L) (a2 : Sq rows) (a3 : j < rows.length) (a4 : ∀ (H' : Hp) (p : Addr), Same H H' → IntsAt H' p (rows.map fun r => r.getD j 0) → Q (.ref p) H') : spFrom C vs H Q E
inductive spSome (C : Addr) (vs : List V) (H : Hp) (Q : VK) (E : XK) : Prop
  | mk (fa : Addr) (n i j : Nat) (rs : List Addr) (ua : Addr) (rows : List (List Int)) (us : List Int) (L : Int) (u : Int) (a0 : vs = [.ref fa, .int n, .int i, .int j]) (a1 : FAt C fa H rs ua rows us L) (a2 : Sq rows) (a3 : n ≤ 4) (a4 : (gens rows n (unit rows.length j))[i]? = some u) (a5 : ∀ H', Same H H' → Q (.bl (decide (0 < u))) H') : spSome C vs H Q E
inductive spMixed (C : Addr) (vs : List V) (H : Hp) (Q : VK) (E : XK) : Prop
  | mk (fa : Addr) (n : Nat) (rs : List Addr) (ua : Addr) (rows : List (List Int)) (us : List Int) (L : Int) (a0 : vs = [.ref fa, .int n]) (a1 : FAt C fa H rs ua rows us L) (a2 : Sq rows) (a3 : n ≤ 4) (a4 : ∀ H', Same H H' → Q (.bl ((List.range rows.length).all fun j => (gens rows n (unit rows.length j)).all fun y => decide (0 < y))) H') : spMixed C vs H Q E
inductive spKeeps (C : Addr) (vs : List V) (H : Hp) (Q : VK) (E : XK) : Prop
  | mk (fa wa : Addr) (rs : List Addr) (ua : Addr) (rows : List (List Int)) (us : List Int) (L : Int) (ws : List Int) (a0 : vs = [.ref fa, .ref wa]) (a1 : FAt C fa H rs ua rows us L) (a2 : Sq rows) (a3 : IntsAt H wa ws) (a4 : ws.length = rows.length) (a5 : (∀ x ∈ ws, -(2 ^ 64) < x ∧ x < 2 ^ 64)) (a6 : ∀ H', Same H H' → Q (.bl ((List.range rows.length).all fun j => decide (dot ws (rows.map fun r => r.getD j 0) = 100 * ws.getD j 0))) H') : spKeeps C vs H Q E
inductive spWeighed (C : Addr) (vs : List V) (H : Hp) (Q : VK) (E : XK) : Prop
  | mk (fa wa : Addr) (rs : List Addr) (ua : Addr) (rows : List (List Int)) (us : List Int) (L : Nat) (ws : List Int) (a0 : vs = [.ref fa, .ref wa]) (a1 : FAt C fa H rs ua rows us L) (a2 : IntsAt H wa ws) (a3 : ws.length ≤ 1000) (a4 : (∀ x ∈ ws, -(2 ^ 64) < x ∧ x < 2 ^ 64)) (a5 : 0 < L) (a6 : L.log2 < 9000) (a7 : ∀ (H' : Hp) (p : Addr), Same H H' → H p = none → FracAt H' p (Kqp4.frac (dot ws us) L) → Q (.ref p) H') : spWeighed C vs H Q E
inductive spRest (C : Addr) (vs : List V) (H : Hp) (Q : VK) (E : XK) : Prop
  | mk (fa : Addr) (a b : Nat) (rs : List Addr) (ua : Addr) (rows : List (List Int)) (us : List Int) (L : Nat) (u0 u1 : Int) (a0 : vs = [.ref fa, .int a, .int b]) (a1 : FAt C fa H rs ua rows us L) (a2 : Sq rows) (a3 : a ≤ 100) (a4 : b ≤ 100) (a5 : us[0]? = some u0) (a6 : us[1]? = some u1) (a7 : 0 < L) (a8 : L.log2 < 9000) (a9 : (L * (a + b)).log2 < 9000) (a10 : ∀ (H' : Hp) (p : Addr), Same H H' → H p = none → FracAt H' p (if a + b = 0 then Kqp4.frac u0 L else Kqp4.frac (u0 * (b : Int) + u1 * (a : Int)) (L * (a + b))) → Q (.ref p) H') : spRest C vs H Q E
inductive spTwo (C : Addr) (vs : List V) (H : Hp) (Q : VK) (E : XK) : Prop
  | mk (fa : Addr) (a b n : Nat) (rs : List Addr) (ua : Addr) (rows : List (List Int)) (us : List Int) (L : Nat) (u0 u1 v0 v1 : Int) (a0 : vs = [.ref fa, .int a, .int b, .int n]) (a1 : FAt C fa H rs ua rows us L) (a2 : a ≤ 100) (a3 : b ≤ 100) (a4 : n ≤ 4) (a5 : us[0]? = some u0) (a6 : us[1]? = some u1) (a7 : 0 < L) (a8 : (L * 100 ^ n).log2 < 9000) (a9 : gens [[100 - (a : Int), (a : Int)], [(b : Int), 100 - (b : Int)]] n [u0, u1] = [v0, v1]) (a10 : ∀ (H' : Hp) (p : Addr), Same H H' → H p = none → H' p = some (.lst [.int (Kqp4.frac v0 (L * 100 ^ n)).num, .int (Kqp4.frac v0 (L * 100 ^ n)).den, .int (Kqp4.frac v1 (L * 100 ^ n)).num, .int (Kqp4.frac v1 (L * 100 ^ n)).den]) → Q (.ref p) H') : spTwo C vs H Q E
inductive spNear (C : Addr) (vs : List V) (H : Hp) (Q : VK) (E : XK) : Prop
  | mk (fa : Addr) (n m : Nat) (rs : List Addr) (ua : Addr) (rows : List (List Int)) (us : List Int) (L : Nat) (a0 : vs = [.ref fa, .int n, .int m]) (a1 : FAt C fa H rs ua rows us L) (a2 : Sq rows) (a3 : n ≤ 4) (a4 : m ≤ 1000) (a5 : 0 < L) (a6 : (L * 100 ^ n).log2 < 9000) (a7 : gens rows n us ≠ []) (a8 : ∀ (H' : Hp) (M l : Int), Great (gens rows n us) M → Least (gens rows n us) l → Same H H' → Q (.bl (decide ((Kqp4.frac (M - l) (L * 100 ^ n)).num * (m : Int) ≤ ((Kqp4.frac (M - l) (L * 100 ^ n)).den : Int)))) H') : spNear C vs H Q E
inductive spFirst (C : Addr) (vs : List V) (H : Hp) (Q : VK) (E : XK) : Prop
  | mk (fa : Addr) (n : Nat) (rs : List Addr) (ua : Addr) (rows : List (List Int)) (us : List Int) (L : Int) (a0 : vs = [.ref fa, .int n]) (a1 : FAt C fa H rs ua rows us L) (a2 : Sq rows) (a3 : n ≤ 4) (a4 : gens rows n us ≠ []) (a5 : ∀ (H' : Hp) (i : Nat) (M : Int), Same H H' → Great (gens rows n us) M → (gens rows n us)[i]? = some M → (∀ (j : Nat) (v : Int), j < i → (gens rows n us)[j]? = some v → v < M) → Q (.int (i : Nat)) H') : spFirst C vs H Q E
section
variable {P : Program} {w : World} {K : PySem.W.Frag} {mg : Str → Option Value} {base : Heap} {C : Addr}
theorem sc_own : FnScope ["self", "i"] ["self", "i"] (defScope s_Fields_own_comers) := ⟨rfl, rfl, rfl, by decide +kernel, rfl, by decide +kernel, by decide +kernel⟩
theorem ok_own {f : Addr} {fd : FuncData} (T : Txt K mg C) (F : Fun K "own_comers" "Fields.own_comers" s_Fields_own_comers f fd) : FnOk P w K mg base CX0 2 f fd ["self", "i"] (spOwn C) := by
  obtain ⟨f1, fd1, F1, b1, m1⟩ := T.m_comers
  have G1 : FnOk P w K mg base CX0 1 f1 fd1 ["self", "i", "j"] (spComers C) := ok_comers T F1
  refine F.ok sc_own (fun vs H Q E h => ?_) (fun cdv A outer s H vs Q E hr h => ?_)
  · obtain ⟨_, _, _, _, _, _, _, _, _, rfl, _⟩ := h
    rfl
  · obtain ⟨fa, i, rs, ua, rows, us, L, r, c, rfl, hF, e1, e2, k⟩ := h
    obtain ⟨dx, ra, h1, h2⟩ := hF.obj
    refine ⟨_, pss_one (ps_ret (pe_meth (pv 0) T.cl m1 G1 hr b1 .nil pass0 (pa_cons (pv 1) (pa_cons (pv 1) pa_nil)))), ?_⟩
    exact ⟨_, rfl, fa, dx, _, rfl, h1, fF_no _ _ _ (by decide +kernel) (by decide +kernel) (by decide +kernel), _, rfl, _, rfl, fa, i, i, rs, ua, rows, us, L, r, c, rfl, hF, e1, e2, k⟩
theorem sc_cfrom : FnScope ["self", "j", "row"] ["self", "j"] (defScope s_Fields_comers_from) := ⟨rfl, rfl, rfl, by decide +kernel, rfl, by decide +kernel, by decide +kernel⟩
theorem ok_cfrom {f : Addr} {fd : FuncData} (T : Txt K mg C) (F : Fun K "comers_from" "Fields.comers_from" s_Fields_comers_from f fd) : FnOk P w K mg base CX0 1 f fd ["self", "j"] (spFrom C) := by
  refine F.ok sc_cfrom (fun vs H Q E h => ?_) (fun cdv A outer s H vs Q E hr h => ?_)
  · obtain ⟨_, _, _, _, _, _, _, rfl, _⟩ := h
    rfl
  · obtain ⟨fa, j, rs, ua, rows, us, L, rfl, hF, sq, hj, k⟩ := h
    obtain ⟨dx, ra, h1, h2⟩ := hF.obj
    refine ⟨_, pss_one (ps_ret (pe_lc (te := tOp (rIxL K) (tVar 2) (tVar 1)) rfl sc_cfrom.nd (pi_list (pe_fld (pv 0) rfl)) (blkOk_by (own := [("row", 2)]) (by rfl))
      (fun _ _ _ _ _ => pg_name (i := 2) sc_cfrom.nd rfl (Or.inl rfl)) (fun _ _ _ _ _ => pts_nil) (fun _ _ _ _ _ => pe_ix ix_list (pv 2) (pv 1) (fun _ _ => rfl)))), ?_⟩
    refine ⟨_, rfl, fa, C, dx, _, _, rfl, h1, T.cl, T.n_rows, fF_rows _ _ _, ra, rfl, ⟨_, SqL.of h2.lst⟩, fun D hD => lc_mapL (ys := (rows.map fun (r : List Int) => r.getD j 0).map V.int) hD (SqL.of h2.lst) (by simp [h2.len]) ?_ (fun i x y H2 R hx hy s2 hRR => ?_) (fun H2 s2 hD2 => ?_)⟩
    rotate_left
    rotate_left
    · exact k H2 D s2 hD2
    · rw [List.length_map, h2.len]
      exact small_line (by have := sq.le; omega)
    · obtain ⟨a, ha, rfl⟩ := map_get hx
      obtain ⟨y1, hy1, rfl⟩ := map_get hy
      obtain ⟨r, hr1, hr2⟩ := h2.at_ i a ha
      obtain ⟨r', hr1', rfl⟩ := map_get hy1
      rw [hr1] at hr1'
      cases hr1'
      have hl := sq.len r (List.mem_of_getElem? hr1)
      have hg : r[j]? = some (r.getD j 0) := by
        rw [List.getD_eq_getElem?_getD, List.getElem?_eq_getElem (by omega)]
        rfl
      exact ⟨rfl, _, rfl, _, rfl, a, _, _, _, rfl, rfl, SqL.of (s2 _ _ hr2), atI_nat (by rw [List.getElem?_map, hg]; rfl), hRR H2 (Same.refl H2)⟩
theorem sc_some : FnScope ["self", "n", "i", "j"] ["self", "n", "i", "j"] (defScope s_Fields_has_some_after) := ⟨rfl, rfl, rfl, by decide +kernel, rfl, by decide +kernel, by decide +kernel⟩
theorem ok_some {f : Addr} {fd : FuncData} (T : Txt K mg C) (F : Fun K "has_some_after" "Fields.has_some_after" s_Fields_has_some_after f fd) : FnOk P w K mg base CX0 4 f fd ["self", "n", "i", "j"] (spSome C) := by
  obtain ⟨f1, fd1, F1, b1, m1⟩ := T.m_forebear_uppers
  have G1 : FnOk P w K mg base CX0 3 f1 fd1 ["self", "n", "j"] (spForeU C) := ok_foreU T F1
  refine F.ok sc_some (fun vs H Q E h => ?_) (fun cdv A outer s H vs Q E hr h => ?_)
  · obtain ⟨_, _, _, _, _, _, _, _, _, _, rfl, _⟩ := h
    rfl
  · obtain ⟨fa, n, i, j, rs, ua, rows, us, L, u, rfl, hF, sq, hn, hu, k⟩ := h
    obtain ⟨dx, ra, h1, h2⟩ := hF.obj
    refine ⟨_, pss_one (ps_ret (pe_cmpR op_gt (pe_ix ix_list (pe_meth (pv 0) T.cl m1 G1 hr b1 .nil pass0 (pa_cons (pv 1) (pa_cons (pv 3) pa_nil))) (pv 2) (fun _ _ => rfl)) pe_int (nomark _))), ?_⟩
    refine ⟨_, rfl, fa, dx, _, rfl, h1, fF_no _ _ _ (by decide +kernel) (by decide +kernel) (by decide +kernel), _, rfl, _, rfl, fa, n, j, rs, ua, rows, us, L, rfl, hF, sq, hn, fun H3 p s3 hpn hp => ?_⟩
    exact ⟨_, rfl, p, _, _, _, rfl, rfl, SqL.of hp, atI_nat (by rw [List.getElem?_map, hu]; rfl), _, _, rfl, rfl, k H3 s3⟩
theorem sc_mixed : FnScope ["self", "n", "j"] ["self", "n"] (defScope s_Fields_is_mixed_after) := ⟨rfl, rfl, rfl, by decide +kernel, rfl, by decide +kernel, by decide +kernel⟩
theorem ok_mixed {f : Addr} {fd : FuncData} (T : Txt K mg C) (F : Fun K "is_mixed_after" "Fields.is_mixed_after" s_Fields_is_mixed_after f fd) : FnOk P w K mg base CX0 4 f fd ["self", "n"] (spMixed C) := by
  obtain ⟨f1, fd1, F1, b1, m1⟩ := T.m_forebear_uppers
  obtain ⟨f4, fd4, F4, b4, m4⟩ := T.m_how_many
  have G1 : FnOk P w K mg base CX0 3 f1 fd1 ["self", "n", "j"] (spForeU C) := ok_foreU T F1
  have G4 : FnOk P w K mg base CX0 1 f4 fd4 ["self"] (spHow C) := ok_how T F4
  refine F.ok sc_mixed (fun vs H Q E h => ?_) (fun cdv A outer s H vs Q E hr h => ?_)
  · obtain ⟨_, _, _, _, _, _, _, rfl, _⟩ := h
    rfl
  · obtain ⟨fa, n, rs, ua, rows, us, L, rfl, hF, sq, hn, k⟩ := h
    obtain ⟨dx, ra, h1, h2⟩ := hF.obj
    have hr1 : Room 1 _ := hr.mono (by decide)
    have h4 := sq.le
    refine ⟨_, pss_one (ps_ret (pe_callB (call_allB rfl) (by rfl) T.b_all (by decide +kernel) (pa_cons
      (pe_lc (te := tOp (rI0 fun i j => .bl (decide (j < i))) (tCB (rMinI K) (tCons (tMeth C "forebear_uppers" (spForeU C) [] E0 (tVar 0) (tCons (tVar 1) (tCons (tVar 2) tNil))) tNil)) (tC (.int 0)))
        rfl sc_mixed.nd (pi_range1 rfl T.b_range (pa_cons (pe_meth0 (pv 0) T.cl m4 G4 hr1 b4 .nil pass0) pa_nil)) (blkOk_by (own := [("j", 2)]) (by rfl))
        (fun _ _ _ _ _ => pg_name (i := 2) sc_mixed.nd rfl (Or.inl rfl)) (fun _ _ _ _ _ => pts_nil)
        (fun _ _ _ _ _ => pe_cmpR op_gt (pe_callB (call_minI rfl) (by rfl) T.b_min (by decide +kernel) (pa_cons (pe_meth (pv 0) T.cl m1 G1 hr b1 .nil pass0 (pa_cons (pv 1) (pa_cons (pv 2) pa_nil))) pa_nil)) pe_int (nomark _))) pa_nil))), ?_⟩
    refine ⟨_, rfl, fa, dx, _, rfl, h1, fF_no _ _ _ (by decide +kernel) (by decide +kernel) (by decide +kernel), fa, rs, ua, rows, us, L, rfl, hF, (rows.length : Int), rfl, (by omega), (by omega), ?_⟩
    rw [Int.toNat_natCast]
    refine fun D hD => lc_mapR (ys := ((List.range rows.length).map fun j => (gens rows n (unit rows.length j)).all fun y => decide (0 < y)).map V.bl) hD (by simp) (small_line (by omega)) (fun l y H2 R hl hy s2 hRR => ?_) (fun H2 s2 hD2 => ?_)
    · obtain ⟨y1, hy1, rfl⟩ := map_get hy
      obtain ⟨rfl, _⟩ := range_map_get hy1
      have hne : gens rows n (unit rows.length l) ≠ [] := fun e => by
        have hh := gens_length rows (unit rows.length l) (by rw [unit_length]) n
        rw [e] at hh
        simp at hh
        omega
      refine ⟨rfl, _, rfl, fa, dx, _, rfl, s2 _ _ h1, fF_no _ _ _ (by decide +kernel) (by decide +kernel) (by decide +kernel), _, rfl, _, rfl, fa, n, l, rs, ua, rows, us, L, ?_, hF.same s2, sq, hn, fun H3 p s3 hpn hp => ?_⟩
      · show [V.ref fa, V.int (n : Int), V.int (0 + (l : Int))] = _
        rw [Int.zero_add]
      · refine ⟨p, _, rfl, SqL.of hp, hne, fun M hM1 hM2 => ⟨_, _, rfl, rfl, ?_⟩⟩
        show R (V.bl (decide (0 < M))) H3
        rw [least_all hM1 hM2]
        exact hRR H3 s3
    · refine ⟨D, _, rfl, SqL.of hD2, ?_⟩
      have := k H2 s2
      rw [List.all_map]
      exact this
theorem sc_keeps : FnScope ["self", "weights", "j", "own"] ["self", "weights"] (defScope s_Fields_are_keeping) := ⟨rfl, rfl, rfl, by decide +kernel, rfl, by decide +kernel, by decide +kernel⟩
theorem ok_keeps {f : Addr} {fd : FuncData} (T : Txt K mg C) (F : Fun K "are_keeping" "Fields.are_keeping" s_Fields_are_keeping f fd) : FnOk P w K mg base CX0 2 f fd ["self", "weights"] (spKeeps C) := by
  obtain ⟨f1, fd1, F1, b1, m1⟩ := T.d_weighed_sum
  obtain ⟨f2, fd2, F2, b2, m2⟩ := T.m_comers_from
  have G1 : FnOk P w K mg base CX0 1 f1 fd1 ["weights", "uppers"] spDot := ok_dot T F1
  have G2 : FnOk P w K mg base CX0 1 f2 fd2 ["self", "j"] (spFrom C) := ok_cfrom T F2
  obtain ⟨tk, mH⟩ := T.c_HUNDRED
  refine F.ok sc_keeps (fun vs H Q E h => ?_) (fun cdv A outer s H vs Q E hr h => ?_)
  · obtain ⟨_, _, _, _, _, _, _, _, rfl, _⟩ := h
    rfl
  · obtain ⟨fa, wa, rs, ua, rows, us, L, ws, rfl, hF, sq, hW, hl, hb, k⟩ := h
    obtain ⟨dx, ra, h1, h2⟩ := hF.obj
    have h4 := sq.le
    refine ⟨_, pss_one (ps_ret (pe_callB (call_allB rfl) (by rfl) T.b_all (by decide +kernel) (pa_cons
      (pe_lc (g := gTup K 2 (gCons (gName 2) (gCons (gName 3) gNil))) rfl sc_keeps.nd (pi_enum rfl T.b_enumerate (pa_cons (pv 1) pa_nil)) (blkOk_by (own := [("j", 2), ("own", 3)]) (by rfl))
        (fun _ _ _ _ _ => pg_tup rfl (pgs_cons (pg_name (i := 2) sc_keeps.nd rfl (Or.inl rfl)) (pgs_cons (pg_name (i := 3) sc_keeps.nd rfl (Or.inl rfl)) pgs_nil)))
        (fun _ _ _ _ _ => pts_nil)
        (fun _ _ _ _ _ => pe_cmpR op_eq (pe_call G1 hr rfl m1 F1.kp b1 .nil pass0 (pa_cons (pv 1) (pa_cons (pe_meth (pv 0) T.cl m2 G2 hr b2 .nil pass0 (pa_cons (pv 2) pa_nil)) pa_nil))) (pe_op op_mul (pe_glob (v := .int 100) rfl mH ⟨_, rfl⟩) (pv 3)) (nomark _))) pa_nil))), ?_⟩
    refine ⟨_, rfl, wa, _, rfl, SqL.of hW, fun D hD => lc_mapE (ys := ((List.range rows.length).map fun j => decide (dot ws (rows.map fun r => r.getD j 0) = 100 * ws.getD j 0)).map V.bl) hD (SqL.of hW) (by simp [hl]) ?_ (fun i x y H2 U R hx hy s2 hU hRR => ?_) (fun H2 s2 hD2 => ?_)⟩
    · rw [List.length_map]
      exact small_line (by omega)
    · obtain ⟨z, hz, rfl⟩ := map_get hx
      obtain ⟨y1, hy1, rfl⟩ := map_get hy
      obtain ⟨rfl, hi⟩ := range_map_get hy1
      have ez : ws.getD i 0 = z := by rw [List.getD_eq_getElem?_getD, hz]; rfl
      refine ⟨U, _, rfl, SqT.of hU, rfl, _, _, rfl, _, _, rfl, rfl, rfl, _, rfl, _, rfl, fa, dx, _, rfl, s2 _ _ h1, fF_no _ _ _ (by decide +kernel) (by decide +kernel) (by decide +kernel), _, rfl, fa, i, rs, ua, rows, us, L, rfl, hF.same s2, sq, hi, fun H3 p s3 hp => ?_⟩
      refine ⟨wa, p, ws, _, rfl, s3 _ _ (s2 _ _ hW), hp, (by omega), hb, fun H4 s4 => ?_⟩
      refine ⟨_, rfl, _, _, rfl, rfl, .inl ⟨by decide, by decide⟩, rfl, ?_⟩
      have := hRR H4 (s3.trans s4)
      rw [ez] at this
      have e2 : decide (V.int (dot ws (rows.map fun r => r.getD i 0)) = V.int (100 * z)) = decide (dot ws (rows.map fun r => r.getD i 0) = 100 * z) := decide_eq_decide.mpr ⟨fun e => V.int.inj e, fun e => by rw [e]⟩
      rw [e2]
      exact this
    · refine ⟨D, _, rfl, SqL.of hD2, ?_⟩
      have := k H2 s2
      rw [List.all_map]
      exact this
theorem sc_weighed : FnScope ["self", "weights"] ["self", "weights"] (defScope s_Fields_weighed) := ⟨rfl, rfl, rfl, by decide +kernel, rfl, by decide +kernel, by decide +kernel⟩
theorem ok_weighed {f : Addr} {fd : FuncData} (T : Txt K mg C) (F : Fun K "weighed" "Fields.weighed" s_Fields_weighed f fd) : FnOk P w K mg base CX0 3 f fd ["self", "weights"] (spWeighed C) := by
  obtain ⟨f1, fd1, F1, b1, m1⟩ := T.d_weighed_sum
  obtain ⟨f2, fd2, F2, b2, m2⟩ := T.d_lowest
  have G1 : FnOk P w K mg base CX0 1 f1 fd1 ["weights", "uppers"] spDot := ok_dot T F1
  have G2 : FnOk P w K mg base CX0 2 f2 fd2 ["upper", "lower"] spLow := ok_low T F2
  refine F.ok sc_weighed (fun vs H Q E h => ?_) (fun cdv A outer s H vs Q E hr h => ?_)
  · obtain ⟨_, _, _, _, _, _, _, _, rfl, _⟩ := h
    rfl
  · obtain ⟨fa, wa, rs, ua, rows, us, L, ws, rfl, hF, hW, hl, hb, hL, hlog, k⟩ := h
    obtain ⟨dx, ra, h1, h2⟩ := hF.obj
    have hr1 : Room 1 _ := hr.mono (by decide)
    refine ⟨_, pss_one (ps_ret (pe_call G2 hr rfl m2 F2.kp b2 .nil pass0 (pa_cons (pe_call G1 hr1 rfl m1 F1.kp b1 .nil pass0 (pa_cons (pv 1) (pa_cons (pe_fld (pv 0) rfl) pa_nil))) (pa_cons (pe_fld (pv 0) rfl) pa_nil)))), ?_⟩
    refine ⟨_, rfl, _, rfl, fa, C, dx, _, _, rfl, h1, T.cl, T.n_uppers, fF_uppers _ _ _, wa, ua, ws, us, rfl, hW, hF.ups, hl, hb, fun H1 s1 => ?_⟩
    exact ⟨_, rfl, fa, C, dx, _, _, rfl, s1 _ _ h1, T.cl, T.n_common_lower, fF_lower _ _ _, dot ws us, L, rfl, hL, hlog, fun q hq => k _ q (s1.trans (Same.new hq)) (s1.free hq) upd_same⟩
theorem sc_rest : FnScope ["self", "a", "b"] ["self", "a", "b"] (defScope s_Fields_rest_of_two) := ⟨rfl, rfl, rfl, by decide +kernel, rfl, by decide +kernel, by decide +kernel⟩
theorem ok_rest {f : Addr} {fd : FuncData} (T : Txt K mg C) (F : Fun K "rest_of_two" "Fields.rest_of_two" s_Fields_rest_of_two f fd) : FnOk P w K mg base CX0 4 f fd ["self", "a", "b"] (spRest C) := by
  obtain ⟨f1, fd1, F1, b1, m1⟩ := T.m_share_after
  obtain ⟨f2, fd2, F2, b2, m2⟩ := T.d_lowest
  have G1 : FnOk P w K mg base CX0 3 f1 fd1 ["self", "n", "i"] (spShareA C) := ok_shareA T F1
  have G2 : FnOk P w K mg base CX0 2 f2 fd2 ["upper", "lower"] spLow := ok_low T F2
  refine F.ok sc_rest (fun vs H Q E h => ?_) (fun cdv A outer s H vs Q E hr h => ?_)
  · obtain ⟨_, _, _, _, _, _, _, _, _, _, rfl, _⟩ := h
    rfl
  · obtain ⟨fa, a, b, rs, ua, rows, us, L, u0, u1, rfl, hF, sq, ha, hb, e0, e1, hL, hlog, hlog2, k⟩ := h
    obtain ⟨dx, ra, h1, h2⟩ := hF.obj
    have hr2 : Room 2 _ := hr.mono (by decide)
    refine ⟨_, pss_cons (ps_if (pt_cmpR op_eq (pe_op op_add (pv 1) (pv 2)) pe_int (nomark _)) (pss_one (ps_ret (pe_meth (pv 0) T.cl m1 G1 hr b1 .nil pass0 (pa_cons pe_int (pa_cons pe_int pa_nil))))) pss_nil)
      (pss_one (ps_ret (pe_call G2 hr2 rfl m2 F2.kp b2 .nil pass0 (pa_cons (pe_op op_add (pe_op op_mul (pe_ix ix_list (pe_fld (pv 0) rfl) pe_int (fun _ _ => rfl)) (pv 2)) (pe_op op_mul (pe_ix ix_list (pe_fld (pv 0) rfl) pe_int (fun _ _ => rfl)) (pv 1)))
        (pa_cons (pe_op op_mul (pe_fld (pv 0) rfl) (pe_op op_add (pv 1) (pv 2))) pa_nil))))), ?_⟩
    refine ⟨_, rfl, _, rfl, _, _, rfl, rfl, rfl, _, rfl, ite2 (fun hc => ?_) (fun hc => ?_)⟩
    · have e : V.int ((a : Int) + (b : Int)) = V.int 0 := of_decide_eq_true hc
      have e' := V.int.inj e
      have hab : a + b = 0 := by omega
      rw [if_pos hab] at k
      refine ⟨_, rfl, fa, dx, _, rfl, h1, fF_no _ _ _ (by decide +kernel) (by decide +kernel) (by decide +kernel), fa, 0, 0, rs, ua, rows, us, L, u0, rfl, hF, sq, (by decide), hL, ?_, e0, fun H3 p s3 hp hf => k H3 p s3 hp ?_⟩
      · rw [Nat.pow_zero, Nat.mul_one]
        exact hlog
      · rw [Nat.pow_zero, Nat.mul_one] at hf
        exact hf
    · have hab : ¬ a + b = 0 := fun z => hc (decide_eq_true (by
        have : (a : Int) + (b : Int) = 0 := by omega
        show V.int ((a : Int) + (b : Int)) = V.int 0
        rw [this]))
      rw [if_neg hab] at k
      refine ⟨_, rfl, fa, C, dx, _, _, rfl, h1, T.cl, T.n_uppers, fF_uppers _ _ _, ua, _, ((0 : Nat) : Int), _, rfl, rfl, SqL.of hF.ups, atI_nat (by rw [List.getElem?_map, e0]; rfl), _, rfl, _, _, rfl, rfl, .inr ⟨by omega, by omega⟩, ?_⟩
      refine ⟨_, rfl, fa, C, dx, _, _, rfl, h1, T.cl, T.n_uppers, fF_uppers _ _ _, ua, _, ((1 : Nat) : Int), _, rfl, rfl, SqL.of hF.ups, atI_nat (by rw [List.getElem?_map, e1]; rfl), _, rfl, _, _, rfl, rfl, .inr ⟨by omega, by omega⟩, _, _, rfl, rfl, ?_⟩
      refine ⟨_, rfl, fa, C, dx, _, _, rfl, h1, T.cl, T.n_common_lower, fF_lower _ _ _, _, rfl, _, rfl, _, _, rfl, rfl, _, _, rfl, rfl, .inr ⟨by omega, by omega⟩, u0 * (b : Int) + u1 * (a : Int), L * (a + b), ?_, Nat.mul_pos hL (by omega), hlog2, fun q hq => k _ q (Same.new hq) hq upd_same⟩
      show [V.int (u0 * (b : Int) + u1 * (a : Int)), V.int ((L : Int) * ((a : Int) + (b : Int)))] ++ [] = _
      rw [Int.natCast_mul, Int.natCast_add]
      rfl
theorem sc_near : FnScope ["self", "n", "m", "apart"] ["self", "n", "m"] (defScope s_Fields_is_near_after) := ⟨rfl, rfl, rfl, by decide +kernel, rfl, by decide +kernel, by decide +kernel⟩
theorem ok_near {f : Addr} {fd : FuncData} (T : Txt K mg C) (F : Fun K "is_near_after" "Fields.is_near_after" s_Fields_is_near_after f fd) : FnOk P w K mg base CX0 4 f fd ["self", "n", "m"] (spNear C) := by
  obtain ⟨f1, fd1, F1, b1, m1⟩ := T.m_apart_after
  have G1 : FnOk P w K mg base CX0 3 f1 fd1 ["self", "n"] (spApartA C) := ok_apartA T F1
  refine F.ok sc_near (fun vs H Q E h => ?_) (fun cdv A outer s H vs Q E hr h => ?_)
  · obtain ⟨_, _, _, _, _, _, _, _, rfl, _⟩ := h
    rfl
  · obtain ⟨fa, n, m, rs, ua, rows, us, L, rfl, hF, sq, hn, hm, hL, hlog, hne, k⟩ := h
    obtain ⟨dx, ra, h1, h2⟩ := hF.obj
    refine ⟨_, pss_cons (ps_set (i := 3) sc_near.nd rfl (Or.inl rfl) (pe_meth (pv 0) T.cl m1 G1 hr b1 .nil pass0 (pa_cons (pv 1) pa_nil)))
      (pss_one (ps_ret (pe_cmpR op_le (pe_op op_mul (pe_ix ix_list (pv 3) pe_int (fun _ _ => rfl)) (pv 2)) (pe_ix ix_list (pv 3) pe_int (fun _ _ => rfl)) (nomark _)))), ?_⟩
    refine ⟨_, rfl, fa, dx, _, rfl, h1, fF_no _ _ _ (by decide +kernel) (by decide +kernel) (by decide +kernel), _, rfl, fa, n, rs, ua, rows, us, L, rfl, hF, sq, hn, hL, hlog, hne, fun H1 p M l hM hl s1 hp hf => ?_⟩
    exact ⟨_, rfl, p, _, 0, _, rfl, rfl, SqL.of hf, rfl, _, rfl, _, _, rfl, rfl, .inr ⟨by omega, by omega⟩, _, rfl, p, _, 1, _, rfl, rfl, SqL.of hf, rfl, _, _, rfl, rfl, k H1 M l hM hl s1⟩
theorem sc_first : FnScope ["self", "n", "uppers"] ["self", "n"] (defScope s_Fields_first_greatest_after) := ⟨rfl, rfl, rfl, by decide +kernel, rfl, by decide +kernel, by decide +kernel⟩
theorem ok_first {f : Addr} {fd : FuncData} (T : Txt K mg C) (F : Fun K "first_greatest_after" "Fields.first_greatest_after" s_Fields_first_greatest_after f fd) : FnOk P w K mg base CX0 3 f fd ["self", "n"] (spFirst C) := by
  obtain ⟨f1, fd1, F1, b1, m1⟩ := T.d_generations_on
  have G1 : FnOk P w K mg base CX0 2 f1 fd1 ["rows", "uppers", "n"] spGens := ok_gens T F1
  refine F.ok sc_first (fun vs H Q E h => ?_) (fun cdv A outer s H vs Q E hr h => ?_)
  · obtain ⟨_, _, _, _, _, _, _, rfl, _⟩ := h
    rfl
  · obtain ⟨fa, n, rs, ua, rows, us, L, rfl, hF, sq, hn, hne, k⟩ := h
    obtain ⟨dx, ra, h1, h2⟩ := hF.obj
    refine ⟨_, pss_cons (ps_set (i := 2) sc_first.nd rfl (Or.inl rfl) (pe_call G1 hr rfl m1 F1.kp b1 .nil pass0 (pa_cons (pe_fld (pv 0) rfl) (pa_cons (pe_fld (pv 0) rfl) (pa_cons (pv 1) pa_nil)))))
      (pss_one (ps_ret (pe_bm PySem.F.plainAttrs_list PySem.F.slot_list_index PySem.F.type_list_index mt_index (pv 2) (pa_cons (pe_callB (call_maxI rfl) (by rfl) T.b_max (by decide +kernel) (pa_cons (pv 2) pa_nil)) pa_nil)))), ?_⟩
    refine ⟨_, rfl, fa, C, dx, _, _, rfl, h1, T.cl, T.n_rows, fF_rows _ _ _, _, rfl, fa, C, dx, _, _, rfl, h1, T.cl, T.n_uppers, fF_uppers _ _ _, _, rfl, ra, ua, n, rs, rows, us, rfl, h2, hF.ups, sq, (by omega), fun H1 p s1 hp hor => ?_⟩
    refine ⟨_, rfl, .inl ⟨rfl, _, SqL.of hp⟩, _, rfl, p, _, rfl, SqL.of hp, hne, fun M hM1 hM2 => ?_⟩
    obtain ⟨i, hi, hlt⟩ := first_ix _ M hM1
    refine ⟨p, _, .int M, i, .int M, rfl, rfl, SqL.of hp, rfl, ?_, ?_, ?_, ?_, k H1 i M s1 ⟨hM1, hM2⟩ hi (fun j v hj hv => ?_)⟩
    · rw [List.all_map]
      exact List.all_eq_true.mpr fun _ _ => rfl
    · rw [List.getElem?_map, hi]
      rfl
    · show (M == M) = true
      exact beq_self_eq_true M
    · intro j z' hj hz
      obtain ⟨v, hv, rfl⟩ := map_get hz
      show (v == M) = false
      exact beq_eq_false_iff_ne.mpr (hlt j v hj hv)
    · have h5 := hM2 v (List.mem_of_getElem? hv)
      have h6 := hlt j v hj hv
      omega
end
end Fs

end

section
set_option Elab.async false
set_option linter.all false
set_option maxRecDepth 100000
set_option maxHeartbeats 2000000
namespace Fs
open PySem PySem.Spec PyProof.Rows L2
theorem cut_two {us : List Int} {u0 u1 : Int} (h0 : us[0]? = some u0) (h1 : us[1]? = some u1) : cutV (us.map V.int) none (some 2) = [u0, u1].map V.int := by
  match us, h0, h1 with
  | a :: b :: r, h0, h1 =>
    have e0 : a = u0 := Option.some.inj h0
    have e1 : b = u1 := Option.some.inj h1
    subst e0 e1
    unfold cutV
    rw [HT.sIx_none, show (2 : Int) = ((2 : Nat) : Int) from rfl, HT.sIx_nat, List.drop_zero]
    rw [List.length_map, List.length_cons, List.length_cons, show min 2 (r.length + 1 + 1) - 0 = 2 from Nat.min_eq_left (Nat.le_add_left 2 r.length)]
    rfl
section
variable {P : Program} {w : World} {K : PySem.W.Frag} {mg : Str → Option Value} {base : Heap} {C : Addr}
theorem sc_two : FnScope ["self", "a", "b", "n", "rows", "uppers"] ["self", "a", "b", "n"] (defScope s_Fields_two_after) := ⟨rfl, rfl, rfl, by decide +kernel, rfl, by decide +kernel, by decide +kernel⟩
theorem ok_two {f : Addr} {fd : FuncData} (T : Txt K mg C) (F : Fun K "two_after" "Fields.two_after" s_Fields_two_after f fd) : FnOk P w K mg base CX0 3 f fd ["self", "a", "b", "n"] (spTwo C) := by
  obtain ⟨f1, fd1, F1, b1, m1⟩ := T.d_generations_on
  obtain ⟨f2, fd2, F2, b2, m2⟩ := T.d_lowest
  obtain ⟨f5, fd5, F5, b5, m5⟩ := T.m_lower_after
  have G1 : FnOk P w K mg base CX0 2 f1 fd1 ["rows", "uppers", "n"] spGens := ok_gens T F1
  have G2 : FnOk P w K mg base CX0 2 f2 fd2 ["upper", "lower"] spLow := ok_low T F2
  have G5 : FnOk P w K mg base CX0 2 f5 fd5 ["self", "n"] (spLowerA C) := ok_lowerA T F5
  obtain ⟨tk, mH⟩ := T.c_HUNDRED
  refine F.ok sc_two (fun vs H Q E h => ?_) (fun cdv A outer s H vs Q E hr h => ?_)
  · obtain ⟨_, _, _, _, _, _, _, _, _, _, _, _, _, rfl, _⟩ := h
    rfl
  · obtain ⟨fa, a, b, n, rs, ua, rows, us, L, u0, u1, v0, v1, rfl, hF, ha, hb, hn, e0, e1, hL, hlog, hg, k⟩ := h
    obtain ⟨dx, ra, h1, h2⟩ := hF.obj
    have nd := sc_two.nd
    refine ⟨_, pss_cons (ps_set (i := 4) nd rfl (Or.inl rfl) (pe_lst (pa_cons (pe_lst (pa_cons (pe_op op_sub (pe_glob (v := .int 100) rfl mH ⟨_, rfl⟩) (pv 1)) (pa_cons (pv 1) pa_nil)))
        (pa_cons (pe_lst (pa_cons (pv 2) (pa_cons (pe_op op_sub (pe_glob (v := .int 100) rfl mH ⟨_, rfl⟩) (pv 2)) pa_nil))) pa_nil))))
      (pss_cons (ps_set (i := 5) nd rfl (Or.inl rfl) (pe_call G1 hr rfl m1 F1.kp b1 .nil pass0 (pa_cons (pv 4) (pa_cons (pe_slice sl_list (pe_fld (pv 0) rfl) po_none (po_some pe_int)) (pa_cons (pv 3) pa_nil)))))
      (pss_one (ps_ret (pe_op op_cat (pe_call G2 hr rfl m2 F2.kp b2 .nil pass0 (pa_cons (pe_ix ix_list (pv 5) pe_int (fun _ _ => rfl)) (pa_cons (pe_meth (pv 0) T.cl m5 G5 hr b5 .nil pass0 (pa_cons (pv 3) pa_nil)) pa_nil)))
        (pe_call G2 hr rfl m2 F2.kp b2 .nil pass0 (pa_cons (pe_ix ix_list (pv 5) pe_int (fun _ _ => rfl)) (pa_cons (pe_meth (pv 0) T.cl m5 G5 hr b5 .nil pass0 (pa_cons (pv 3) pa_nil)) pa_nil))))))), ?_⟩
    refine ⟨_, rfl, _, _, rfl, rfl, _, rfl, (by show 2 ≤ sizeLine; decide), fun q1 hq1 => ?_⟩
    refine ⟨_, rfl, _, rfl, _, _, rfl, rfl, (by show 2 ≤ sizeLine; decide), fun q2 hq2 => ?_⟩
    refine ⟨(by show 2 ≤ sizeLine; decide), fun q3 hq3 => ?_⟩
    have s1 : Same H (upd H q1 (.lst [.int (100 - (a : Int)), .int a])) := Same.new hq1
    have s2 : Same (upd H q1 (.lst [.int (100 - (a : Int)), .int a])) (upd (upd H q1 (.lst [.int (100 - (a : Int)), .int a])) q2 (.lst [.int b, .int (100 - (b : Int))])) := Same.new hq2
    have s3 : Same (upd (upd H q1 (.lst [.int (100 - (a : Int)), .int a])) q2 (.lst [.int b, .int (100 - (b : Int))])) (upd (upd (upd H q1 (.lst [.int (100 - (a : Int)), .int a])) q2 (.lst [.int b, .int (100 - (b : Int))])) q3 (.lst [.ref q1, .ref q2])) := Same.new hq3
    have s123 := (s1.trans s2).trans s3
    refine ⟨_, rfl, _, rfl, fa, C, dx, _, _, rfl, s123 _ _ h1, T.cl, T.n_uppers, fF_uppers _ _ _, _, rfl, ua, _, rfl, SqL.of (s123 _ _ hF.ups), fun q4 hq4 => ?_⟩
    rw [cut_two e0 e1]
    have s4 : Same H (upd (upd (upd (upd H q1 (.lst [.int (100 - (a : Int)), .int a])) q2 (.lst [.int b, .int (100 - (b : Int))])) q3 (.lst [.ref q1, .ref q2])) q4 (.lst ([u0, u1].map V.int))) := s123.trans (Same.new hq4)
    have sq4 : Same _ (upd (upd (upd (upd H q1 (.lst [.int (100 - (a : Int)), .int a])) q2 (.lst [.int b, .int (100 - (b : Int))])) q3 (.lst [.ref q1, .ref q2])) q4 (.lst ([u0, u1].map V.int))) := Same.new hq4
    refine ⟨_, rfl, q3, q4, n, [q1, q2], [[100 - (a : Int), (a : Int)], [(b : Int), 100 - (b : Int)]], [u0, u1], rfl, ⟨sq4 _ _ upd_same, rfl, fun i z hz => ?_⟩, upd_same, ⟨by show 2 ≤ 4; decide, fun r hr => ?_, fun r hr y hy => ?_⟩, (by omega), fun H5 p s5 hp hor => ?_⟩
    · match i, hz with
      | 0, hz =>
        cases hz
        exact ⟨_, rfl, sq4 _ _ (s3 _ _ (s2 _ _ upd_same))⟩
      | 1, hz =>
        cases hz
        exact ⟨_, rfl, sq4 _ _ (s3 _ _ upd_same)⟩
    · rcases List.mem_cons.mp hr with e | hr
      · rw [e]; rfl
      · rw [List.mem_singleton.mp hr]; rfl
    · rcases List.mem_cons.mp hr with e | hr
      · rw [e] at hy
        rcases List.mem_cons.mp hy with e | hy
        · omega
        · have := List.mem_singleton.mp hy
          omega
      · rw [List.mem_singleton.mp hr] at hy
        rcases List.mem_cons.mp hy with e | hy
        · omega
        · have := List.mem_singleton.mp hy
          omega
    · rw [hg] at hp
      have s5' := s4.trans s5
      refine ⟨_, rfl, p, _, 0, _, rfl, rfl, SqL.of hp, rfl, ?_⟩
      refine ⟨_, rfl, fa, dx, _, rfl, s5' _ _ h1, fF_no _ _ _ (by decide +kernel) (by decide +kernel) (by decide +kernel), _, rfl, fa, n, rs, ua, rows, us, L, rfl, hF.same s5', hn, v0, L * 100 ^ n, rfl, Nat.mul_pos hL (hun_pos n), hlog, fun g1 hg1 => ?_⟩
      have s6 := s5'.trans (Same.new (o := .lst [.int (Kqp4.frac v0 (L * 100 ^ n)).num, .int (Kqp4.frac v0 (L * 100 ^ n)).den]) hg1)
      refine ⟨_, rfl, p, _, 1, _, rfl, rfl, SqL.of (Same.new hg1 _ _ hp), rfl, ?_⟩
      refine ⟨_, rfl, fa, dx, _, rfl, s6 _ _ h1, fF_no _ _ _ (by decide +kernel) (by decide +kernel) (by decide +kernel), _, rfl, fa, n, rs, ua, rows, us, L, rfl, hF.same s6, hn, v1, L * 100 ^ n, rfl, Nat.mul_pos hL (hun_pos n), hlog, fun g2 hg2 => ?_⟩
      have s7 := s6.trans (Same.new (o := .lst [.int (Kqp4.frac v1 (L * 100 ^ n)).num, .int (Kqp4.frac v1 (L * 100 ^ n)).den]) hg2)
      refine ⟨g1, g2, _, _, rfl, rfl, Same.new hg2 _ _ upd_same, upd_same, (by show 4 ≤ sizeLine; decide), fun g3 hg3 => ?_⟩
      exact k _ g3 (s7.trans (Same.new hg3)) (s7.free hg3) upd_same
end
end Fs

end

section
set_option Elab.async false
set_option linter.all false
set_option maxRecDepth 100000
set_option maxHeartbeats 2000000
namespace Fs
open PySem PySem.Spec PyProof.Rows L2
inductive StRel : Option Kqp4.Land → List (List Int) → List Int → Nat → Prop
  | none : StRel none [] [] 0
  | some {x : Kqp4.Land} {us : List Int} {k : Nat} (h : Ok x us k) : StRel (some x) (cRows x) us k
structure ObjAt (C fa : Addr) (H : Hp) (rs : List Addr) (s : Option Kqp4.Land) (k : Nat) : Prop where
  ex : ∃ ua rows us, FAt C fa H rs ua rows us ((100 ^ k : Nat) : Int) ∧ StRel s rows us k
theorem ObjAt.same {C fa : Addr} {H H' : Hp} {rs : List Addr} {s : Option Kqp4.Land} {k : Nat} (h : ObjAt C fa H rs s k) (e : Same H H') : ObjAt C fa H' rs s k :=
  let ⟨ua, rows, us, h1, h2⟩ := h.ex
  ⟨ua, rows, us, h1.same e, h2⟩
theorem ObjAt.land {C fa : Addr} {H : Hp} {rs : List Addr} {x : Kqp4.Land} {k : Nat} (h : ObjAt C fa H rs (some x) k) : ∃ ua us, FAt C fa H rs ua (cRows x) us ((100 ^ k : Nat) : Int) ∧ Ok x us k := by
  obtain ⟨ua, rows, us, h1, h2⟩ := h.ex
  cases h2 with
  | some hk => exact ⟨ua, us, h1, hk⟩
noncomputable def toInts (l : List Nat) : List Int := l.map fun (n : Nat) => (n : Int)
theorem toInts_length (l : List Nat) : (toInts l).length = l.length := by unfold toInts; simp
theorem toInts_get {l : List Nat} {i n : Nat} (h : l[i]? = some n) : (toInts l)[i]? = some (n : Int) := by unfold toInts; rw [List.getElem?_map, h]; rfl
noncomputable def Frame (fa : Addr) (rs : List Addr) (H H' : Hp) : Prop := ∀ b o, H b = some o → b ≠ fa → b ∉ rs → H' b = some o
theorem Same.frame {fa : Addr} {rs : List Addr} {H H' : Hp} (s : Same H H') : Frame fa rs H H' := fun b o e _ _ => s b o e
inductive spAns (C : Addr) (st : Bool) (okL : Nat → Prop) (c : List Nat → Kqp4.Call) (vs : List V) (H : Hp) (Q : VK) (E : XK) : Prop
  | mk (fa t : Addr) (l : List Nat) (rs : List Addr) (s : Option Kqp4.Land) (k : Nat) (a0 : vs = [.ref fa, .ref t]) (a1 : IntsAt H t (toInts l)) (a2 : okL l.length) (a3 : l.length ≤ 60) (a4 : t ∉ rs) (a5 : ObjAt C fa H rs s k) (a6 : (s = none → st = true)) (a7 : k ≤ 300) (a8 : ∀ (H' : Hp) (p : Addr) (rs' : List Addr) (k' : Nat), ObjAt C fa H' rs' (Kqp4.step s (c l)).1 k' → k' ≤ k + 1 → IntsAt H' p (Kqp4Neutral.tell (Kqp4.step s (c l)).2) → H p = none → Frame fa rs H H' → (∀ r ∈ rs', r ∈ rs ∨ H r = none) → (∀ g, H g ≠ none → t ≠ g → Away C g fa H → Away C g fa H') → Q (.ref p) H') : spAns C st okL c vs H Q E
inductive spAnsL (C : Addr) (okL : Nat → Prop) (c : List Nat → Kqp4.Call) (vs : List V) (H : Hp) (Q : VK) (E : XK) : Prop
  | mk (fa t : Addr) (l : List Nat) (rs : List Addr) (x : Kqp4.Land) (k : Nat) (ua : Addr) (us : List Int) (a0 : vs = [.ref fa, .ref t]) (a1 : IntsAt H t (toInts l)) (a2 : okL l.length) (a3 : l.length ≤ 60) (a4 : t ∉ rs) (a5 : ObjAt C fa H rs (some x) k) (a6 : FAt C fa H rs ua (cRows x) us ((100 ^ k : Nat) : Int)) (a7 : Ok x us k) (a8 : k ≤ 300)
    (a9 : ∀ (H' : Hp) (p : Addr) (rs' : List Addr) (k' : Nat), ObjAt C fa H' rs' (Kqp4.step (some x) (c l)).1 k' → k' ≤ k + 1 → IntsAt H' p (Kqp4Neutral.tell (Kqp4.step (some x) (c l)).2) → H p = none → Frame fa rs H H' → (∀ r ∈ rs', r ∈ rs ∨ H r = none) → (∀ g, H g ≠ none → t ≠ g → Away C g fa H → Away C g fa H') → Q (.ref p) H') : spAnsL C okL c vs H Q E
theorem Ok.sq {x : Kqp4.Land} {us : List Int} {k : Nat} (h : Ok x us k) : Sq (cRows x) := by
  refine ⟨by rw [cRows_length]; exact h.four, fun r hr => ?_, fun r hr y hy => ?_⟩
  · unfold cRows at hr
    obtain ⟨i, _, e⟩ := List.mem_map.mp hr
    rw [← e, cRow_length, cRows_length]
  · unfold cRows at hr
    obtain ⟨i, hi, e⟩ := List.mem_map.mp hr
    rw [← e] at hy
    unfold cRow at hy
    obtain ⟨j, hj, e2⟩ := List.mem_map.mp hy
    have := comes_le h (List.mem_range.mp hi) (List.mem_range.mp hj)
    rw [← e2]
    omega
theorem hun_log {m : Nat} (h : m ≤ 1000) : (100 ^ m).log2 < 9000 := by
  have h1 : 100 ^ m ≤ (2 ^ 7) ^ m := Nat.pow_le_pow_left (by decide) m
  have h2 : (2 ^ 7) ^ m = 2 ^ (7 * m) := by rw [← Nat.pow_mul]
  have h3 : 2 ^ (7 * m) < 2 ^ 9000 := Nat.pow_lt_pow_right (by decide) (by omega)
  have hp : 100 ^ m ≠ 0 := by have := hun_pos m; omega
  exact (Nat.log2_lt hp).mpr (by omega)
theorem gen_no {n : Nat} (hc : (!decide ((n : Int) ≤ 4)) = true) : 4 < n := by
  have : ¬ (n : Int) ≤ 4 := by simpa using hc
  omega
theorem gen_yes {n : Nat} (hc : ¬ (!decide ((n : Int) ≤ 4)) = true) : n ≤ 4 := by
  have : (n : Int) ≤ 4 := by simpa using hc
  omega
theorem kn_le {k n : Nat} (hk : k ≤ 300) (hn : n ≤ 4) : k + n ≤ 1000 := by omega
theorem k_le {k : Nat} (hk : k ≤ 300) : k ≤ 1000 := by omega
theorem fld_no {z n : Nat} (hc : (!decide (z < n)) = true) : n ≤ z := by
  have : ¬ z < n := by simpa using hc
  omega
theorem fld_yes {z n : Nat} (hc : ¬ (!decide (z < n)) = true) : z < n := by simpa using hc
inductive spAreF (C : Addr) (vs : List V) (H : Hp) (Q : VK) (E : XK) : Prop
  | mk (fa t : Addr) (rs : List Addr) (ua : Addr) (rows : List (List Int)) (us : List Int) (L : Int) (ns : List Int) (a0 : vs = [.ref fa, .ref t]) (a1 : FAt C fa H rs ua rows us L) (a2 : IntsAt H t ns) (a3 : ns.length ≤ 1000) (a4 : ∀ H', Same H H' → Q (.bl (ns.all fun z => decide (z < (rows.length : Int)))) H') : spAreF C vs H Q E
inductive spAreG (vs : List V) (H : Hp) (Q : VK) (E : XK) : Prop
  | mk (n : Int) (a0 : vs = [.int n]) (a1 : Q (.bl (decide (n ≤ 4))) H) : spAreG vs H Q E
section
variable {P : Program} {w : World} {K : PySem.W.Frag} {mg : Str → Option Value} {base : Heap} {C : Addr}
theorem sc_areF : FnScope ["fields", "told", "field"] ["fields", "told"] (defScope s_are_fields) := ⟨rfl, rfl, rfl, by decide +kernel, rfl, by decide +kernel, by decide +kernel⟩
theorem ok_areF {f : Addr} {fd : FuncData} (T : Txt K mg C) (F : Fun K "are_fields" "are_fields" s_are_fields f fd) : FnOk P w K mg base CX0 2 f fd ["fields", "told"] (spAreF C) := by
  obtain ⟨f4, fd4, F4, b4, m4⟩ := T.m_how_many
  have G4 : FnOk P w K mg base CX0 1 f4 fd4 ["self"] (spHow C) := ok_how T F4
  refine F.ok sc_areF (fun vs H Q E h => ?_) (fun cdv A outer s H vs Q E hr h => ?_)
  · obtain ⟨_, _, _, _, _, _, _, _, rfl, _⟩ := h
    rfl
  · obtain ⟨fa, t, rs, ua, rows, us, L, ns, rfl, hF, hT, hl, k⟩ := h
    obtain ⟨dx, ra, h1, h2⟩ := hF.obj
    refine ⟨_, pss_one (ps_ret (pe_callB (call_allB rfl) (by rfl) T.b_all (by decide +kernel) (pa_cons
      (pe_lc rfl sc_areF.nd (pi_list (pv 1)) (blkOk_by (own := [("field", 2)]) (by rfl)) (fun _ _ _ _ _ => pg_name (i := 2) sc_areF.nd rfl (Or.inl rfl)) (fun _ _ _ _ _ => pts_nil)
        (fun _ _ _ _ _ => pe_cmpR op_lt (pv 2) (pe_meth0 (pv 0) T.cl m4 G4 hr b4 .nil pass0) (nomark _))) pa_nil))), ?_⟩
    refine ⟨_, rfl, t, rfl, ⟨_, SqL.of hT⟩, fun D hD => lc_mapL (ys := (ns.map fun z => decide (z < (rows.length : Int))).map V.bl) hD (SqL.of hT) (by simp) ?_ (fun j x y H2 R hx hy s2 hRR => ?_) (fun H2 s2 hD2 => ?_)⟩
    · rw [List.length_map]
      exact small_line hl
    · obtain ⟨z, hz, rfl⟩ := map_get hx
      obtain ⟨y1, hy1, rfl⟩ := map_get hy
      rw [List.getElem?_map, hz] at hy1
      cases hy1
      exact ⟨rfl, _, rfl, _, rfl, fa, dx, _, rfl, s2 _ _ h1, fF_no _ _ _ (by decide +kernel) (by decide +kernel) (by decide +kernel), fa, rs, ua, rows, us, L, rfl, hF.same s2, _, _, rfl, rfl, hRR H2 (Same.refl H2)⟩
    · refine ⟨D, _, rfl, SqL.of hD2, ?_⟩
      have := k H2 s2
      rw [List.all_map]
      exact this
theorem sc_areG : FnScope ["n"] ["n"] (defScope s_are_generations) := ⟨rfl, rfl, rfl, by decide +kernel, rfl, by decide +kernel, by decide +kernel⟩
theorem ok_areG {f : Addr} {fd : FuncData} (T : Txt K mg C) (F : Fun K "are_generations" "are_generations" s_are_generations f fd) : FnOk P w K mg base CX0 1 f fd ["n"] spAreG := by
  obtain ⟨tk, mM⟩ := T.c_MOST_GENERATIONS
  refine F.ok sc_areG (fun vs H Q E h => ?_) (fun cdv A outer s H vs Q E hr h => ?_)
  · obtain ⟨_, rfl, _⟩ := h
    rfl
  · obtain ⟨n, rfl, k⟩ := h
    refine ⟨_, pss_one (ps_ret (pe_cmpR op_le (pv 0) (pe_glob (v := .int 4) rfl mM ⟨_, rfl⟩) (nomark _))), ?_⟩
    exact ⟨_, rfl, _, _, rfl, rfl, k⟩
theorem dec_lt_cast (a b : Nat) : decide ((a : Int) < (b : Int)) = decide (a < b) := decide_eq_decide.mpr (by omega)
theorem all_one (z n : Nat) : ((toInts [z]).all fun y => decide (y < (n : Int))) = decide (z < n) := by
  show (decide ((z : Int) < (n : Int)) && true) = _
  rw [Bool.and_true, dec_lt_cast]
theorem sc_ashare : FnScope ["fields", "told"] ["fields", "told"] (defScope s_answer_share) := ⟨rfl, rfl, rfl, by decide +kernel, rfl, by decide +kernel, by decide +kernel⟩
theorem ok_ashare {f : Addr} {fd : FuncData} (T : Txt K mg C) (F : Fun K "answer_share" "answer_share" s_answer_share f fd) : FnOk P w K mg base CX0 4 f fd ["fields", "told"] (spAnsL C (fun n => n = 1) fun l => .share (l.getD 0 0)) := by
  obtain ⟨f1, fd1, F1, b1, m1⟩ := T.d_are_fields
  obtain ⟨f2, fd2, F2, b2, m2⟩ := T.m_share_after
  have G1 : FnOk P w K mg base CX0 2 f1 fd1 ["fields", "told"] (spAreF C) := ok_areF T F1
  have G2 : FnOk P w K mg base CX0 3 f2 fd2 ["self", "n", "i"] (spShareA C) := ok_shareA T F2
  obtain ⟨t1, c1⟩ := T.c_NOT_AS_TOLD
  obtain ⟨t2, c2⟩ := T.c_DONE
  refine F.ok sc_ashare (fun vs H Q E h => ?_) (fun cdv A outer s H vs Q E hr h => ?_)
  · obtain ⟨_, _, _, _, _, _, _, _, rfl, _⟩ := h
    rfl
  · obtain ⟨fa, t, l, rs, x, k, ua, us, rfl, hT, hl, h60, hts, hO, hF, ok, hk, fin⟩ := h
    have hr2 : Room 2 _ := hr.mono (by decide)
    obtain ⟨z, rfl⟩ : ∃ z, l = [z] := List.length_eq_one_iff.mp hl
    · obtain ⟨dx, ra, h1, h2⟩ := hF.obj
      refine ⟨_, pss_cons (ps_if (pt_not (pt_val (pe_call G1 hr2 rfl m1 F1.kp b1 .nil pass0 (pa_cons (pv 0) (pa_cons (pv 1) pa_nil))))) (pss_one (ps_ret (pe_lst (pa_cons (pe_glob (v := .int (-22)) rfl c1 ⟨_, rfl⟩) pa_nil)))) pss_nil)
        (pss_one (ps_ret (pe_op op_cat (pe_lst (pa_cons (pe_glob (v := .int 0) rfl c2 ⟨_, rfl⟩) pa_nil)) (pe_meth (pv 0) T.cl m2 G2 hr b2 .nil pass0 (pa_cons pe_int (pa_cons (pe_ix ix_list (pv 1) pe_int (fun _ _ => rfl)) pa_nil)))))), ?_⟩
      refine ⟨_, rfl, _, rfl, fa, t, rs, ua, _, us, _, _, rfl, hF, hT, (by simp [toInts]), fun H1 s1 => ⟨_, rfl, ?_⟩⟩
      rw [all_one, cRows_length]
      refine ite2 (fun hc => ?_) (fun hc => ?_)
      · have hz : x.fields ≤ z := fld_no hc
        refine ⟨by decide, fun p hp => fin _ p rs k ?_ (by omega) ?_ (s1.free hp) (Same.frame (s1.trans (Same.new hp))) (fun r hr => .inl hr) (fun g _ _ hA => hA.same (s1.trans (Same.new hp)))⟩
        · exact hO.same (s1.trans (Same.new hp))
        · have e : (Kqp4.step (some x) (Kqp4.Call.share ([z].getD 0 0))).2 = .num (-22) := by
            show (if x.fields ≤ z then _ else _) = _
            rw [if_pos hz]
          show IntsAt _ _ (Kqp4Neutral.tell (Kqp4.step (some x) (Kqp4.Call.share ([z].getD 0 0))).2)
          rw [e]
          exact upd_same
      · have hz : z < x.fields := fld_yes hc
        obtain ⟨u, hu⟩ : ∃ u, us[z]? = some u := ⟨_, List.getElem?_eq_getElem (by rw [ok.ulen]; exact hz)⟩
        refine ⟨by decide, fun q hq => ?_⟩
        have s2 : Same H (upd H1 q (.lst [.int 0])) := s1.trans (Same.new hq)
        refine ⟨_, rfl, fa, dx, _, rfl, s2 _ _ h1, fF_no _ _ _ (by decide +kernel) (by decide +kernel) (by decide +kernel), _, rfl, t, _, 0, _, rfl, rfl, SqL.of (s2 _ _ hT), rfl, fa, 0, z, rs, ua, cRows x, us, 100 ^ k, u, rfl, hF.same s2, ok.sq, (by decide), hun_pos k, ?_, hu, fun H3 p s3 hp hp3 => ?_⟩
        · rw [Nat.pow_zero, Nat.mul_one]
          exact hun_log (k_le hk)
        · refine ⟨q, p, _, _, rfl, rfl, s3 _ _ upd_same, hp3, (by show 3 ≤ sizeLine; decide), fun v hv => fin _ v rs k ?_ (by omega) ?_ ((s2.trans s3).free hv) (Same.frame ((s2.trans s3).trans (Same.new hv))) (fun r hr => .inl hr) (fun g _ _ hA => hA.same ((s2.trans s3).trans (Same.new hv)))⟩
          · exact hO.same ((s2.trans s3).trans (Same.new hv))
          · have e : (Kqp4.step (some x) (Kqp4.Call.share ([z].getD 0 0))).2 = Kqp4.tell (Kqp4.frac u (100 ^ k)) := by
              show (if x.fields ≤ z then _ else Kqp4.tell (Kqp4.at_ x.shares z)) = _
              rw [if_neg (by omega), ok.shareAt hu]
            show IntsAt _ _ (Kqp4Neutral.tell (Kqp4.step (some x) (Kqp4.Call.share ([z].getD 0 0))).2)
            rw [e]
            have := upd_same (H := H3) (a := v) (o := .lst ([V.int 0] ++ [V.int (Kqp4.frac u (100 ^ k * 100 ^ 0)).num, V.int (Kqp4.frac u (100 ^ k * 100 ^ 0)).den]))
            rw [Nat.pow_zero, Nat.mul_one] at this
            rw [Nat.pow_zero, Nat.mul_one]
            exact this
end
end Fs

end

section
set_option Elab.async false
set_option linter.all false
set_option maxRecDepth 100000
set_option maxHeartbeats 2000000
namespace Fs
open PySem PySem.Spec PyProof.Rows L2
inductive spOne (C : Addr) (vs : List V) (H : Hp) (Q : VK) (E : XK) : Prop
  | mk (fa t : Addr) (most : Int) (rs : List Addr) (ua : Addr) (rows : List (List Int)) (us : List Int) (L : Int) (ns : List Int) (a0 : vs = [.ref fa, .ref t, .int most]) (a1 : FAt C fa H rs ua rows us L) (a2 : IntsAt H t ns) (a3 : 0 < rows.length) (a4 : Q (.bl (decide (ns.length = rows.length) && ns.all fun y => decide (y ≤ most))) H) : spOne C vs H Q E
noncomputable def firstT (bs : List Bool) : Int := match bs.findIdx? id with
  | some i => (i : Nat)
  | none => -33
inductive spFirstT (vs : List V) (H : Hp) (Q : VK) (E : XK) : Prop
  | mk (a : Addr) (bs : List Bool) (a0 : vs = [.ref a]) (a1 : H a = some (.lst (bs.map V.bl))) (a2 : ∀ (H' : Hp) (p : Addr), Same H H' → H p = none → IntsAt H' p [firstT bs] → Q (.ref p) H') : spFirstT vs H Q E
theorem firstT_at {bs : List Bool} {i : Nat} (h1 : bs[i]? = some true) (h2 : ∀ j, j < i → bs[j]? ≠ some true) : firstT bs = (i : Nat) := by
  have hi : i < bs.length := (List.getElem?_eq_some_iff.mp h1).1
  have e : bs.findIdx? id = some i := by
    rw [List.findIdx?_eq_some_iff_getElem]
    refine ⟨hi, ?_, fun j hj => ?_⟩
    · rw [List.getElem?_eq_getElem hi] at h1
      exact Option.some.inj h1
    · have := h2 j hj
      rw [List.getElem?_eq_getElem (by omega)] at this
      intro z
      exact this (by rw [show bs[j] = true from z])
  unfold firstT
  rw [e]
theorem firstT_none {bs : List Bool} (h2 : ∀ j, j < bs.length → bs[j]? ≠ some true) : firstT bs = -33 := by
  have e : bs.findIdx? id = none := by
    rw [List.findIdx?_eq_none_iff]
    intro x hx
    obtain ⟨j, hj⟩ := List.getElem?_of_mem hx
    cases x with
    | false => rfl
    | true => exact absurd hj (h2 j (List.getElem?_eq_some_iff.mp hj).1)
  unfold firstT
  rw [e]
theorem firstT_range (f : Nat → Bool) : Kqp4.Ans.num (firstT ((List.range 5).map f)) = (match (List.range 5).find? f with
    | none => Kqp4.Ans.num (-33)
    | some n => Kqp4.Ans.num (n : Nat)) := by
  show Kqp4.Ans.num (firstT [f 0, f 1, f 2, f 3, f 4]) = (match ([0, 1, 2, 3, 4] : List Nat).find? f with
    | none => Kqp4.Ans.num (-33)
    | some n => Kqp4.Ans.num (n : Nat))
  cases h0 : f 0 <;> cases h1 : f 1 <;> cases h2 : f 2 <;> cases h3 : f 3 <;> cases h4 : f 4 <;> simp [List.find?, h0, h1, h2, h3, h4, firstT, List.findIdx?, List.findIdx?.go]
section
variable {P : Program} {w : World} {K : PySem.W.Frag} {mg : Str → Option Value} {base : Heap} {C : Addr}
theorem sc_one : FnScope ["fields", "told", "most"] ["fields", "told", "most"] (defScope s_are_one_each) := ⟨rfl, rfl, rfl, by decide +kernel, rfl, by decide +kernel, by decide +kernel⟩
theorem ok_one {f : Addr} {fd : FuncData} (T : Txt K mg C) (F : Fun K "are_one_each" "are_one_each" s_are_one_each f fd) : FnOk P w K mg base CX0 2 f fd ["fields", "told", "most"] (spOne C) := by
  obtain ⟨f1, fd1, F1, b1, m1⟩ := T.m_how_many
  have G1 : FnOk P w K mg base CX0 1 f1 fd1 ["self"] (spHow C) := ok_how T F1
  refine F.ok sc_one (fun vs H Q E h => ?_) (fun cdv A outer s H vs Q E hr h => ?_)
  · obtain ⟨_, _, _, _, _, _, _, _, _, rfl, _⟩ := h
    rfl
  · obtain ⟨fa, t, most, rs, ua, rows, us, L, ns, rfl, hF, hT, hpos, k⟩ := h
    obtain ⟨dx, ra, h1, h2⟩ := hF.obj
    refine ⟨_, pss_one (ps_ret (pe_and (pe_cmpR op_eq (pe_callB call_len_seq (by rfl) T.b_len PySem.boot_len (pa_cons (pv 1) pa_nil)) (pe_meth0 (pv 0) T.cl m1 G1 hr b1 .nil pass0) (nomark _))
      (pe_one (pe_cmpR op_le (pe_callB (call_maxI rfl) (by rfl) T.b_max (by decide +kernel) (pa_cons (pv 1) pa_nil)) (pv 2) (nomark _))))), ?_⟩
    refine ⟨_, rfl, t, _, rfl, .inl (SqL.of hT), _, rfl, fa, dx, _, rfl, h1, fF_no _ _ _ (by decide +kernel) (by decide +kernel) (by decide +kernel), fa, rs, ua, rows, us, _, rfl, hF, rfl, _, rfl, ?_⟩
    rw [List.length_map]
    refine ite2 (fun hc => ?_) (fun hc => ?_)
    · have e : V.int (ns.length : Int) = V.int (rows.length : Int) := of_decide_eq_true hc
      have e' := V.int.inj e
      have hlen : ns.length = rows.length := by omega
      have hne : ns ≠ [] := fun z => by
        rw [z] at hlen
        simp at hlen
        omega
      refine ⟨_, rfl, t, _, rfl, SqL.of hT, hne, fun M hM1 hM2 => ⟨_, rfl, _, _, rfl, rfl, ?_⟩⟩
      have e2 : decide (M ≤ most) = ns.all fun y => decide (y ≤ most) := by
        rw [Bool.eq_iff_iff, decide_eq_true_iff, List.all_eq_true]
        constructor
        · intro h y hy
          have := hM2 y hy
          exact decide_eq_true (by omega)
        · intro h
          exact of_decide_eq_true (h M hM1)
      rw [decide_eq_true hlen, Bool.true_and, ← e2] at k
      exact k
    · have hlen : ¬ ns.length = rows.length := fun z => hc (decide_eq_true (by rw [z]))
      rw [decide_eq_false hlen, Bool.false_and] at k
      exact k
theorem sc_firstT : FnScope ["by_generation", "n", "is_so"] ["by_generation"] (defScope s_first_time) := ⟨rfl, rfl, rfl, by decide +kernel, rfl, by decide +kernel, by decide +kernel⟩
theorem ok_firstT {f : Addr} {fd : FuncData} (T : Txt K mg C) (F : Fun K "first_time" "first_time" s_first_time f fd) : FnOk P w K mg base CX0 1 f fd ["by_generation"] spFirstT := by
  obtain ⟨t1, c1⟩ := T.c_NOT_WITHIN
  refine F.ok sc_firstT (fun vs H Q E h => ?_) (fun cdv A outer s H vs Q E hr h => ?_)
  · obtain ⟨_, _, rfl, _⟩ := h
    rfl
  · obtain ⟨a, bs, rfl, hA, k⟩ := h
    have nd := sc_firstT.nd
    refine ⟨_, pss_cons (ps_for (g := gTup K 2 (gCons (gName 1) (gCons (gName 2) gNil))) PassesOwn.never rfl (pi_enum rfl T.b_enumerate (pa_cons (pv 0) pa_nil)) (pg_tup rfl (pgs_cons (pg_name (i := 1) nd rfl (Or.inl rfl)) (pgs_cons (pg_name (i := 2) nd rfl (Or.inl rfl)) pgs_nil)))
        (pss_one (ps_if (pt_val (pv 2)) (pss_one (ps_ret (pe_lst (pa_cons (pv 1) pa_nil)))) pss_nil)))
      (pss_one (ps_ret (pe_lst (pa_cons (pe_glob (v := .int (-33)) rfl c1 ⟨_, rfl⟩) pa_nil)))), ?_⟩
    refine ⟨_, rfl, a, _, rfl, SqL.of hA, for_enum (K := K) (a := a) (xs := bs.map V.bl) (fun i σ H' => ∃ v1 v2 : Option V, σ = [some (.ref a), v1, v2] ∧ Same H H' ∧ ∀ j, j < i → bs[j]? ≠ some true) ?_ ?_ ?_ ?_⟩
    · exact ⟨none, none, rfl, Same.refl H, fun j hj => absurd hj (Nat.not_lt_zero _)⟩
    · rintro i σ H' _ ⟨_, _, _, s1, _⟩
      exact SqL.of (s1 _ _ hA)
    · rintro i y σ H' U hi ⟨v1, v2, rfl, s1, hno⟩ hU
      obtain ⟨b, hb, rfl⟩ := map_get hi
      have s2 : Same H' (upd H' U (.tup [.int (i : Nat), .bl b])) := Same.new hU
      refine ⟨U, _, rfl, SqT.of upd_same, rfl, _, _, rfl, _, _, rfl, rfl, _, rfl, b, rfl, ite2 (fun hc => ?_) (fun hc => ?_)⟩
      · subst hc
        refine ⟨_, rfl, (by show 1 ≤ sizeLine; decide), fun p hp => k _ p ((s1.trans s2).trans (Same.new hp)) ((s1.trans s2).free hp) ?_⟩
        rw [firstT_at hb hno]
        exact upd_same
      · refine ⟨_, _, rfl, s1.trans s2, fun j hj => ?_⟩
        by_cases e : j = i
        · rw [e, hb]
          intro z
          exact hc (Option.some.inj z)
        · exact hno j (by omega)
    · rintro σ H' ⟨v1, v2, rfl, s1, hno⟩
      refine ⟨(by show 1 ≤ sizeLine; decide), fun p hp => k _ p (s1.trans (Same.new hp)) (s1.free hp) ?_⟩
      rw [List.length_map] at hno
      rw [firstT_none hno]
      exact upd_same
end
end Fs

end

section
set_option Elab.async false
set_option linter.all false
set_option maxRecDepth 100000
set_option maxHeartbeats 2000000
namespace Fs
open PySem PySem.Spec PyProof.Rows L2
noncomputable def PairsAt (H0 H : Hp) (ts : List Addr) (cs : List (List (List Int))) : Prop := ts.length = cs.length ∧ ∀ (i : Nat) (c : List (List Int)), cs[i]? = some c → ∃ t u, ts[i]? = some t ∧ H t = some (.tup [.int (numOf c), .ref u]) ∧ IntsAt H u (toldOf c) ∧ H0 u = none
theorem PairsAt.snoc {H0 H : Hp} {ts : List Addr} {cs : List (List (List Int))} {c : List (List Int)} {t u : Addr} (h : PairsAt H0 H ts cs) (ht : H t = some (.tup [.int (numOf c), .ref u])) (hu : IntsAt H u (toldOf c)) (hn : H0 u = none) : PairsAt H0 H (ts ++ [t]) (cs ++ [c]) := by
  refine ⟨by rw [List.length_append, List.length_append, h.1]; rfl, fun i d e => ?_⟩
  by_cases hi : i < cs.length
  · rw [List.getElem?_append_left hi] at e
    obtain ⟨t', u', h1, h2, h3⟩ := h.2 i d e
    exact ⟨t', u', by rw [List.getElem?_append_left (by rw [h.1]; exact hi)]; exact h1, h2, h3⟩
  · rw [List.getElem?_append_right (by omega)] at e
    have hz : i - cs.length = 0 := by
      have := (List.getElem?_eq_some_iff.mp e).1
      simp at this
      omega
    rw [hz] at e
    cases e
    refine ⟨t, u, ?_, ht, hu, hn⟩
    rw [List.getElem?_append_right (by rw [h.1]; omega), h.1, hz]
    rfl
inductive spSplit (K : PySem.W.Frag) (vs : List V) (H : Hp) (Q : VK) (E : XK) : Prop
  | mk (a : Addr) (cs : List (List (List Int))) (a0 : vs = [.ref a]) (a1 : SqL K H a ((PyFlat.put cs).map V.int)) (a2 : (∀ c ∈ cs, PyFlat.okCall PyKqp4.shape c)) (a3 : cs.length ≤ 200) (a4 : (PyFlat.put cs).length ≤ 12400) (a5 : ∀ (H' : Hp) (p : Addr) (ts : List Addr), Same H H' → H' p = some (.lst (ts.map V.ref)) → PairsAt H H' ts cs → H p = none → Q (.ref p) H') : spSplit K vs H Q E
theorem cut_nat (l : List Int) (b e : Nat) (hb : b ≤ e) (he : e ≤ l.length) : cutV (l.map V.int) (some (b : Int)) (some (e : Int)) = ((l.drop b).take (e - b)).map V.int := by
  unfold cutV
  rw [HT.sIx_nat, HT.sIx_nat, List.length_map, Nat.min_eq_left he, Nat.min_eq_left (show b ≤ l.length by omega), List.map_take, List.map_drop]
theorem cut_mid (A B D : List Int) : ((A ++ (B ++ D)).drop A.length).take B.length = B := by
  rw [List.drop_left, List.take_left]
noncomputable def tabTold : List (Key × V) := [(Sum.inl 2, .int 4), (Sum.inl 3, .int 1), (Sum.inl 4, .int 0), (Sum.inl 5, .int 2), (Sum.inl 6, .int 1), (Sum.inl 7, .int 1), (Sum.inl 8, .int 0), (Sum.inl 9, .int 3), (Sum.inl 10, .int 2), (Sum.inl 11, .int 0), (Sum.inl 14, .int 2), (Sum.inl 15, .int 3), (Sum.inl 16, .int 1), (Sum.inl 17, .int 1), (Sum.inl 18, .int 1), (Sum.inl 19, .int 0)]
theorem meas0 {A n e L : Nat} (he : e = A + n) (hn : n ≠ 0) (hle : A + n ≤ L) (hl : L ≤ 12400) : 12401 - e < 12401 - A := by omega
theorem add2 (A r : Nat) : A + 2 + r = A + (r + 1 + 1) := by omega
theorem add1 (A r : Nat) : A + 1 + r = A + (r + 1) := by omega
theorem meas_of {A z r : Nat} (h : A + z + r ≤ 12400) (hz : 0 < z) : 12401 - ((A : Int) + (z : Int) + (r : Int)).toNat < 12401 - ((A : Nat) : Int).toNat := by
  rw [← Int.natCast_add, ← Int.natCast_add, Int.toNat_natCast, Int.toNat_natCast]
  omega
theorem out_of {L A n B : Nat} (e : L = A + (n + B)) (hn : n ≠ 0) : (A : Int) < (L : Int) := by omega
theorem in_row {p : Int} (hp : RowP p) : inV (V.int p) [.int 0, .int 1, .int 12, .int 13] = true := by cases hp <;> rfl
theorem in_plain {p : Int} {n : Nat} (hp : Plain p n) : inV (V.int p) [.int 0, .int 1, .int 12, .int 13] = false := by cases hp <;> rfl
theorem tab_plain {p : Int} {n : Nat} (hp : Plain p n) : valV tabTold (Sum.inl p) = some (V.int (n : Int)) := by cases hp <;> rfl
theorem ecut_of {l A B m : List Int} {D : List Int} {z : Nat} (hz : D.length = z) (hsp : l = (A ++ D) ++ (m ++ B)) : cutV (l.map V.int) (some ((A.length : Int) + (z : Int))) (some ((A.length : Int) + (z : Int) + (m.length : Int))) = m.map V.int := by
  subst hz hsp
  have hl : ((A ++ D) ++ (m ++ B)).length = A.length + D.length + (m.length + B.length) := by simp only [List.length_append]
  have h1 := cut_nat ((A ++ D) ++ (m ++ B)) (A.length + D.length) (A.length + D.length + m.length) (Nat.le_add_right _ _) (by rw [hl]; omega)
  rw [Nat.add_sub_cancel_left, ← List.length_append, cut_mid] at h1
  rw [← h1, List.length_append, Int.natCast_add, Int.natCast_add]
  rfl
inductive SplInv (H : Hp) (a pp : Addr) (cs : List (List (List Int))) (σ : L2.St) (H' : Hp) : Prop
  | mk (i : Nat) (ts : List Addr) (v3 v4 v5 : Option V) (e : σ = [some (.ref a), some (.ref pp), some (.int ((PyFlat.put (cs.take i)).length : Nat)), v3, v4, v5]) (hi : i ≤ cs.length) (s : Same H H') (hp : H' pp = some (.lst (ts.map V.ref))) (hP : PairsAt H H' ts (cs.take i)) : SplInv H a pp cs σ H'
section
variable {P : Program} {w : World} {K : PySem.W.Frag} {mg : Str → Option Value} {base : Heap} {C : Addr}
theorem sc_split : FnScope ["calls", "pairs", "at", "number", "begin", "end"] ["calls"] (defScope s_split_calls) := ⟨rfl, rfl, rfl, by decide +kernel, rfl, by decide +kernel, by decide +kernel⟩
theorem ok_split {f : Addr} {fd : FuncData} (T : Txt K mg C) (F : Fun K "split_calls" "split_calls" s_split_calls f fd) : FnOk P w K mg base CX0 1 f fd ["calls"] (spSplit K) := by
  obtain ⟨dR, mR, tR⟩ := T.t_WITH_A_ROW
  obtain ⟨dN, mN, tN⟩ := T.t_NUMBERS_TOLD
  refine F.ok sc_split (fun vs H Q E h => ?_) (fun cdv A outer s H vs Q E hr h => ?_)
  · obtain ⟨_, _, rfl, _⟩ := h
    rfl
  · obtain ⟨a, cs, rfl, hS, hok, h200, hlen, k⟩ := h
    have nd := sc_split.nd
    refine ⟨_, pss_cons (ps_set (i := 1) nd rfl (Or.inl rfl) (pe_lst pa_nil)) (pss_cons (ps_set (i := 2) nd rfl (Or.inl rfl) pe_int)
      (pss_cons (ps_while PassesOwn.never (pt_cmpR op_lt (pv 2) (pe_callB call_len_seq (by rfl) T.b_len PySem.boot_len (pa_cons (pv 0) pa_nil)) (nomark _))
        (pss_cons (ps_set (i := 3) nd rfl (Or.inl rfl) (pe_ix ix_list (pv 0) (pv 2) (fun _ _ => rfl)))
        (pss_cons (ps_if (pt_cmpR op_in_seq (pv 3) (pe_glob (v := .ref dR) rfl mR rfl) (by with_unfolding_all rfl))
            (pss_cons (ps_set (i := 4) nd rfl (Or.inl rfl) (pe_op op_add (pv 2) pe_int))
            (pss_one (ps_set (i := 5) nd rfl (Or.inl rfl) (pe_op op_add (pv 4) (pe_ix ix_list (pv 0) (pe_op op_add (pv 2) pe_int) (fun _ _ => rfl))))))
            (pss_cons (ps_set (i := 4) nd rfl (Or.inl rfl) (pe_op op_add (pv 2) pe_int))
            (pss_one (ps_set (i := 5) nd rfl (Or.inl rfl) (pe_op op_add (pv 4) (pe_kget tN (pe_glob (v := .ref dN) rfl mN rfl) (pv 3) (fun _ _ => rfl)))))))
        (pss_cons (ps_expr (pe_bm PySem.F.plainAttrs_list PySem.F.slot_list_append PySem.F.type_list_append mt_append (pv 1) (pa_cons (pe_tup (pa_cons (pv 3) (pa_cons (pe_slice sl_list (pv 0) (po_some (pv 4)) (po_some (pv 5))) pa_nil))) pa_nil)))
        (pss_one (ps_set (i := 2) nd rfl (Or.inl rfl) (pv 5)))))))
      (pss_one (ps_ret (pv 1))))), ?_⟩
    refine ⟨Nat.zero_le _, fun pp hpp => ?_⟩
    refine while_by (SplInv H a pp cs)
      (fun σ _ => match σ with
        | [_, _, some (.int z), _, _, _] => 12401 - z.toNat
        | _ => 0) ⟨0, [], none, none, none, rfl, Nat.zero_le _, Same.new hpp, upd_same, by simp [PairsAt]⟩ ?_ ?_
    · rintro σ H1 ⟨i, ts, v3, v4, v5, rfl, hi, s1, hp1, hP⟩
      have hS1 := s1.seq hS
      refine ⟨_, rfl, _, rfl, a, _, rfl, .inl hS1, _, _, rfl, rfl, _, rfl, ite2 (fun hc => ?_) (fun hc => ?_)⟩
      · have hlt : ((PyFlat.put (cs.take i)).length : Int) < (((PyFlat.put cs).map V.int).length : Int) := of_decide_eq_true hc
        rw [List.length_map] at hlt
        have hics : i < cs.length := by
          rcases Nat.lt_or_ge i cs.length with z | z
          · exact z
          · rw [List.take_of_length_le z] at hlt
            exact absurd hlt (Int.lt_irrefl _)
        obtain ⟨c, hci⟩ : ∃ c, cs[i]? = some c := ⟨_, List.getElem?_eq_getElem hics⟩
        have hsp := put_split hci
        have hnx := put_next hci
        have hle : (PyFlat.put (cs.take i)).length + (PyFlat.put1 c).length ≤ (PyFlat.put cs).length := by
          rw [hsp, List.length_append, List.length_append]
          exact Nat.add_le_add_left (Nat.le_add_right _ _) _
        have step : ∀ (num : Int) (told : List Int) (b e : Nat), num = numOf c → told = toldOf c → cutV ((PyFlat.put cs).map V.int) (some (b : Int)) (some (e : Int)) = told.map V.int → e = (PyFlat.put (cs.take i)).length + (PyFlat.put1 c).length → (PyFlat.put1 c).length ≠ 0 →
            ∀ (q pt : Addr), H1 q = none → (upd H1 q (.lst (told.map V.int))) pt = none →
            SplInv H a pp cs [some (V.ref a), some (V.ref pp), some (V.int (e : Int)), some (V.int num), some (V.int (b : Int)), some (V.int (e : Int))] (upd (upd (upd H1 q (.lst (told.map V.int))) pt (.tup [.int num, .ref q])) pp (.lst (ts.map V.ref ++ [.ref pt]))) ∧ 12401 - e < 12401 - (PyFlat.put (cs.take i)).length := by
          rintro num told b e rfl rfl hcut he hne q pt hq hpt
          have s2 : Same H1 (upd (upd H1 q (.lst ((toldOf c).map V.int))) pt (.tup [.int (numOf c), .ref q])) := (Same.new hq).trans (Same.new hpt)
          have npp : ∀ b o, H b = some o → b ≠ pp := fun b o e => ne_of_none e hpp
          have nq : q ≠ pp := fun z => by rw [z, hp1] at hq; cases hq
          have npt : pt ≠ pp := fun z => by rw [z, upd_ne (Ne.symm nq), hp1] at hpt; cases hpt
          have nqt : q ≠ pt := fun z => by rw [← z, upd_same] at hpt; cases hpt
          refine ⟨⟨i + 1, ts ++ [pt], some (.int (numOf c)), some (.int (b : Int)), some (.int (e : Int)), ?_, hics, fun b o e => ?_, ?_, ?_⟩, meas0 he hne hle hlen⟩
          · rw [hnx, he]
          · rw [upd_ne (npp b o e)]
            exact s2 _ _ (s1 _ _ e)
          · rw [upd_same, List.map_append]
            rfl
          · rw [take_snocV hci]
            have hP2 : PairsAt H (upd (upd (upd H1 q (.lst ((toldOf c).map V.int))) pt (.tup [.int (numOf c), .ref q])) pp (.lst (ts.map V.ref ++ [.ref pt]))) ts (cs.take i) := by
              refine ⟨hP.1, fun j d hd => ?_⟩
              obtain ⟨t, u, h1, h2, h3, h5⟩ := hP.2 j d hd
              have nt : t ≠ pp := ne_of h2 hp1 (by intro z; cases z)
              have nu : u ≠ pp := by
                intro z
                have h3' : H1 u = some (.lst ((toldOf d).map V.int)) := h3
                rw [z, hp1] at h3'
                have e1 := HO.lst.inj (Option.some.inj h3')
                cases ts with
                | nil => simp at h1
                | cons t0 ts0 =>
                  cases hd2 : toldOf d with
                  | nil => rw [hd2] at e1; simp at e1
                  | cons z0 zs => rw [hd2] at e1; simp at e1
              refine ⟨t, u, h1, by rw [upd_ne nt]; exact s2 _ _ h2, ?_, h5⟩
              show _ = some _
              rw [upd_ne nu]
              exact s2 _ _ h3
            refine hP2.snoc ?_ ?_ (s1.free hq) (u := q)
            · rw [upd_ne npt, upd_same]
            · show _ = some _
              rw [upd_ne nq, upd_ne nqt, upd_same]
        rcases call_forms (hok c (List.mem_of_getElem? hci)) with ⟨p, r, e1, en, et, hp⟩ | ⟨p, args, n0, e1, en, et, hp, hl0⟩
        · rw [e1] at hsp hnx hle
          have g0 : (PyFlat.put cs)[(PyFlat.put (cs.take i)).length]? = some p := by
            rw [hsp]
            exact get_at _ _ 0
          have g1 : (PyFlat.put cs)[(PyFlat.put (cs.take i)).length + 1]? = some (r.length : Int) := by
            rw [hsp]
            exact get_at _ _ 1
          refine ⟨_, rfl, _, rfl, a, _, _, _, rfl, rfl, hS1, atI_nat (by rw [List.getElem?_map, g0]; rfl), ?_⟩
          refine ⟨_, rfl, dR, _, rfl, .inr (tR _), rfl, rfl, _, rfl, ?_⟩
          have hin := in_row hp
          show (if (if false = true then !inV (V.int p) [.int 0, .int 1, .int 12, .int 13] else inV (V.int p) [.int 0, .int 1, .int 12, .int 13]) = true then _ else _)
          rw [if_neg Bool.false_ne_true, hin]
          refine iteT ?_
          simp only [List.length_cons] at hle
          refine ⟨_, rfl, _, _, rfl, rfl, _, rfl, _, rfl, _, rfl, _, _, rfl, rfl, a, _, _, _, rfl, rfl, hS1, (by rw [← Int.natCast_succ]; exact atI_nat (by rw [List.getElem?_map, g1]; rfl)), _, _, rfl, rfl, ?_⟩
          have ecut : cutV ((PyFlat.put cs).map V.int) (some (((PyFlat.put (cs.take i)).length : Int) + 2)) (some (((PyFlat.put (cs.take i)).length : Int) + 2 + (r.length : Int))) = r.map V.int :=
            ecut_of (A := PyFlat.put (cs.take i)) (D := [p, (r.length : Int)]) (B := PyFlat.put (cs.drop (i + 1))) (z := 2) rfl (by rw [hsp, List.append_assoc]; rfl)
          refine ⟨_, rfl, .inl ⟨rfl, _, SqL.of hp1⟩, _, rfl, _, rfl, _, rfl, _, rfl, _, rfl, _, rfl, a, _, rfl, hS1, fun q hq => ?_⟩
          rw [ecut]
          refine ⟨by show 2 ≤ sizeLine; decide, fun pt hpt => ?_⟩
          refine ⟨pp, _, _, rfl, rfl, ((Same.new hq).trans (Same.new hpt)) _ _ hp1, ?_, _, rfl, ?_⟩
          · rw [List.length_map, hP.1, List.length_take]
            exact small1000 (Nat.le_trans (Nat.min_le_right _ _) (Nat.le_trans h200 (by decide)))
          · have fin := step p r ((PyFlat.put (cs.take i)).length + 2) ((PyFlat.put (cs.take i)).length + 2 + r.length) en.symm et.symm (by rw [← ecut, Int.natCast_add, Int.natCast_add]; rfl) (by rw [e1, List.length_cons, List.length_cons]; exact add2 _ _) (by rw [e1]; simp) q pt hq hpt
            obtain ⟨⟨i', ts', w3, w4, w5, f1, f2, f3, f4, f5⟩, f6⟩ := fin
            refine ⟨⟨i', ts', w3, w4, w5, ?_, f2, f3, f4, f5⟩, ?_⟩
            · rw [← f1, Int.natCast_add, Int.natCast_add]
              rfl
            · exact meas_of (z := 2) (Nat.le_trans (Nat.le_of_eq (add2 _ _)) (Nat.le_trans hle hlen)) (by decide)
        · rw [e1] at hsp hnx hle
          have g0 : (PyFlat.put cs)[(PyFlat.put (cs.take i)).length]? = some p := by
            rw [hsp]
            exact get_at _ _ 0
          refine ⟨_, rfl, _, rfl, a, _, _, _, rfl, rfl, hS1, atI_nat (by rw [List.getElem?_map, g0]; rfl), ?_⟩
          refine ⟨_, rfl, dR, _, rfl, .inr (tR _), rfl, rfl, _, rfl, ?_⟩
          have hin := in_plain hp
          have htab := tab_plain hp
          rw [← hl0] at htab
          show (if (if false = true then !inV (V.int p) [.int 0, .int 1, .int 12, .int 13] else inV (V.int p) [.int 0, .int 1, .int 12, .int 13]) = true then _ else _)
          rw [if_neg Bool.false_ne_true, hin]
          refine iteF ?_
          simp only [List.length_cons] at hle
          refine ⟨_, rfl, _, _, rfl, rfl, _, rfl, _, rfl, p, _, rfl, rfl, htab, _, _, rfl, rfl, ?_⟩
          have ecut : cutV ((PyFlat.put cs).map V.int) (some (((PyFlat.put (cs.take i)).length : Int) + 1)) (some (((PyFlat.put (cs.take i)).length : Int) + 1 + (args.length : Int))) = args.map V.int :=
            ecut_of (A := PyFlat.put (cs.take i)) (D := [p]) (B := PyFlat.put (cs.drop (i + 1))) (z := 1) rfl (by rw [hsp, List.append_assoc]; rfl)
          refine ⟨_, rfl, .inl ⟨rfl, _, SqL.of hp1⟩, _, rfl, _, rfl, _, rfl, _, rfl, _, rfl, _, rfl, a, _, rfl, hS1, fun q hq => ?_⟩
          rw [ecut]
          refine ⟨by show 2 ≤ sizeLine; decide, fun pt hpt => ?_⟩
          refine ⟨pp, _, _, rfl, rfl, ((Same.new hq).trans (Same.new hpt)) _ _ hp1, ?_, _, rfl, ?_⟩
          · rw [List.length_map, hP.1, List.length_take]
            exact small1000 (Nat.le_trans (Nat.min_le_right _ _) (Nat.le_trans h200 (by decide)))
          · have fin := step p args ((PyFlat.put (cs.take i)).length + 1) ((PyFlat.put (cs.take i)).length + 1 + args.length) en.symm et.symm (by rw [← ecut, Int.natCast_add, Int.natCast_add]; rfl) (by rw [e1, List.length_cons]; exact add1 _ _) (by rw [e1]; simp) q pt hq hpt
            obtain ⟨⟨i', ts', w3, w4, w5, f1, f2, f3, f4, f5⟩, f6⟩ := fin
            refine ⟨⟨i', ts', w3, w4, w5, ?_, f2, f3, f4, f5⟩, ?_⟩
            · rw [← f1, Int.natCast_add, Int.natCast_add]
              rfl
            · exact meas_of (z := 1) (Nat.le_trans (Nat.le_of_eq (add1 _ _)) (Nat.le_trans hle hlen)) (by decide)
      · have hge : ¬ ((PyFlat.put (cs.take i)).length : Int) < (((PyFlat.put cs).map V.int).length : Int) := fun z => hc (decide_eq_true z)
        rw [List.length_map] at hge
        have hics : i = cs.length := by
          rcases Nat.lt_or_ge i cs.length with z | z
          · obtain ⟨c, hci⟩ : ∃ c, cs[i]? = some c := ⟨_, List.getElem?_eq_getElem z⟩
            have hsp := put_split hci
            have e0 := congrArg List.length hsp
            rw [List.length_append, List.length_append] at e0
            have hz0 : (PyFlat.put1 c).length ≠ 0 := by
              obtain ⟨p, a', xs, rfl, _⟩ := hok c (List.mem_of_getElem? hci)
              exact Nat.succ_ne_zero _
            exact absurd (out_of e0 hz0) hge
          · exact Nat.le_antisymm hi z
        subst hics
        rw [List.take_length] at hP
        exact ⟨_, rfl, k H1 pp ts s1 hp1 hP hpp⟩
    · rintro σ H' Q Q' hq ⟨v, e1, v2, e2, p, ys, e3, e4, i, j, e5, e6, b, e7, q⟩
      exact ⟨v, e1, v2, e2, p, ys, e3, e4, i, j, e5, e6, b, e7, hq _ _ q⟩
end
end Fs

end

section
set_option Elab.async false
set_option linter.all false
set_option maxRecDepth 100000
set_option maxHeartbeats 2000000
namespace Fs
open PySem PySem.Spec PyProof.Rows L2
noncomputable def InB (c : List (List Int)) : Prop := (∀ z ∈ toldOf c, 0 ≤ z ∧ z ≤ 4294967295) ∧ (toldOf c).length ≤ 60
theorem within_iff {z : Int} : PyInside.within 0 4294967295 z = true ↔ 0 ≤ z ∧ z ≤ 4294967295 := by
  unfold PyInside.within
  rw [Bool.and_eq_true, decide_eq_true_iff, decide_eq_true_iff]
theorem inb_row {p : Int} {r : List Int} (h : PyInside.lists [((0 : Int), (4294967295 : Int), 0, 60)] [r] = true) : InB [[p], r] := by
  have e : toldOf [[p], r] = r := by unfold toldOf; simp
  have h' : (((decide (0 ≤ r.length) && decide (r.length ≤ 60)) && r.all (PyInside.within 0 4294967295)) && PyInside.lists [] []) = true := h
  rw [Bool.and_eq_true, Bool.and_eq_true, Bool.and_eq_true, List.all_eq_true] at h'
  unfold InB
  rw [e]
  exact ⟨fun z hz => within_iff.mp (h'.1.2 z hz), of_decide_eq_true h'.1.1.2⟩
theorem each_all : ∀ (b : List (Int × Int)) (a : List Int), (∀ q ∈ b, q = (0, 4294967295)) → b.length = a.length → PyInside.each b a = true → ∀ z ∈ a, 0 ≤ z ∧ z ≤ 4294967295
  | [], [], _, _, _ => fun z hz => nomatch hz
  | [], _ :: _, _, h, _ => by simp at h
  | _ :: _, [], _, h, _ => by simp at h
  | q :: b, x :: a, hq, hl, h => by
    have e : q = (0, 4294967295) := hq q List.mem_cons_self
    subst e
    have h' : (PyInside.within 0 4294967295 x && PyInside.each b a) = true := h
    rw [Bool.and_eq_true] at h'
    intro z hz
    rcases List.mem_cons.mp hz with e | hz
    · rw [e]; exact within_iff.mp h'.1
    · exact each_all b a (fun q hq' => hq q (List.mem_cons_of_mem _ hq')) (by simpa using hl) h'.2 z hz
theorem inb_plain {p : Int} {a : List Int} {n : Nat} (hl : a.length = n) (hn : n ≤ 60) (hb : (PyKqp4.bound p).1 = List.replicate n (0, 4294967295)) (h : PyInside.call PyKqp4.bound [p :: a] = true) : InB [p :: a] := by
  have e : toldOf [p :: a] = a := by unfold toldOf; simp
  have h' : (PyInside.each (PyKqp4.bound p).1 a && PyInside.lists (PyKqp4.bound p).2 []) = true := h
  rw [Bool.and_eq_true, hb] at h'
  unfold InB
  rw [e]
  exact ⟨each_all _ a (fun q hq => (List.mem_replicate.mp hq).2) (by rw [List.length_replicate, hl]) h'.1, by omega⟩
theorem inb_of {c : List (List Int)} (h : PyFlat.okCall PyKqp4.shape c) (hb : PyInside.call PyKqp4.bound c = true) : InB c := by
  rcases call_raw h with ⟨p, r, rfl, hp⟩ | ⟨p, a, n, rfl, hp, hl⟩
  · have h2 : PyInside.lists (PyKqp4.bound p).2 [r] = true := by
      have h' : (PyInside.each (PyKqp4.bound p).1 [] && PyInside.lists (PyKqp4.bound p).2 [r]) = true := hb
      rw [Bool.and_eq_true] at h'
      exact h'.2
    clear h hb
    cases hp <;> exact inb_row h2
  · clear h
    have hn : n ≤ 60 := by cases hp <;> decide
    have he : (PyKqp4.bound p).1 = List.replicate n (0, 4294967295) := by cases hp <;> rfl
    exact inb_plain hl hn he hb
noncomputable def stp (s : Kqp4Neutral.S) (c : List (List Int)) : Kqp4Neutral.S × List Int := Kqp4Neutral.step s (PyKqp4.whole c)
noncomputable def stAt : Kqp4Neutral.S → List (List (List Int)) → Kqp4Neutral.S
  | s, [] => s
  | s, c :: r => stAt (stp s c).1 r
noncomputable def outOf (s : Kqp4Neutral.S) (cs : List (List (List Int))) : List Int := PyFlat.told (PyFlat.played Kqp4Neutral.step s (cs.map PyKqp4.whole))
theorem stAt_snoc (c : List (List Int)) : ∀ (cs : List (List (List Int))) (s : Kqp4Neutral.S), stAt s (cs ++ [c]) = (stp (stAt s cs) c).1
  | [], _ => rfl
  | d :: cs, s => stAt_snoc c cs (stp s d).1
theorem out_cons (s : Kqp4Neutral.S) (c : List (List Int)) (cs : List (List (List Int))) : outOf s (c :: cs) = ((stp s c).2.length : Int) :: ((stp s c).2 ++ outOf (stp s c).1 cs) := by
  unfold outOf
  rw [List.map_cons]
  show PyFlat.told ((Kqp4Neutral.step s (PyKqp4.whole c)).2 :: PyFlat.played Kqp4Neutral.step (Kqp4Neutral.step s (PyKqp4.whole c)).1 (cs.map PyKqp4.whole)) = _
  unfold PyFlat.told
  rw [List.flatMap_cons]
  rfl
theorem out_snoc (c : List (List Int)) : ∀ (cs : List (List (List Int))) (s : Kqp4Neutral.S), outOf s (cs ++ [c]) = outOf s cs ++ (((stp (stAt s cs) c).2.length : Int) :: (stp (stAt s cs) c).2)
  | [], s => by
    rw [List.nil_append, out_cons]
    show _ = [] ++ _
    rw [List.nil_append]
    show _ :: (_ ++ []) = _
    rw [List.append_nil]
    rfl
  | d :: cs, s => by
    rw [List.cons_append, out_cons, out_cons, out_snoc c cs (stp s d).1]
    show _ = (_ :: (_ ++ _)) ++ _
    rw [List.cons_append, List.append_assoc]
    rfl
theorem out_take (s : Kqp4Neutral.S) : ∀ (cs : List (List (List Int))) (i : Nat), (outOf s (cs.take i)).length ≤ (outOf s cs).length
  | cs, i => by
    have key : ∀ (a b : List (List (List Int))) (s : Kqp4Neutral.S), (outOf s a).length ≤ (outOf s (a ++ b)).length := by
      intro a
      induction a with
      | nil => intro b s; exact Nat.zero_le _
      | cons c a ih =>
        intro b s
        rw [List.cons_append, out_cons, out_cons, List.length_cons, List.length_cons, List.length_append, List.length_append]
        have := ih b (stp s c).1
        omega
    have := key (cs.take i) (cs.drop i) s
    rw [List.take_append_drop] at this
    exact this
inductive spCall (C : Addr) (vs : List V) (H : Hp) (Q : VK) (E : XK) : Prop
  | mk (fa t : Addr) (c : List (List Int)) (rs : List Addr) (s : Option Kqp4.Land) (k : Nat) (a0 : vs = [.ref fa, .int (numOf c), .ref t]) (a1 : IntsAt H t (toldOf c)) (a2 : PyFlat.okCall PyKqp4.shape c) (a3 : InB c) (a4 : t ∉ rs) (a5 : ObjAt C fa H rs s k) (a6 : k ≤ 300) (a7 : ∀ (H' : Hp) (p : Addr) (rs' : List Addr) (k' : Nat), ObjAt C fa H' rs' (stp s c).1 k' → k' ≤ k + 1 → IntsAt H' p (stp s c).2 → H p = none → Frame fa rs H H' → (∀ r ∈ rs', r ∈ rs ∨ H r = none) → (∀ g, H g ≠ none → t ≠ g → Away C g fa H → Away C g fa H') → Q (.ref p) H') : spCall C vs H Q E
inductive spAll (K : PySem.W.Frag) (vs : List V) (H : Hp) (Q : VK) (E : XK) : Prop
  | mk (a : Addr) (ns : List Int) (a0 : vs = [.ref a]) (a1 : SqL K H a (ns.map V.int)) (a2 : ns.length ≤ 12400) (a3 : PyKqp4.answers_asked ns = true) (a4 : ∀ (H' : Hp) (p : Addr), H' p = some (.lst ((PyKqp4.answers ns).map V.int)) → Q (.ref p) H') : spAll K vs H Q E
theorem asked_parts {ns : List Int} (h : PyKqp4.answers_asked ns = true) : ∃ cs, ns = PyFlat.put cs ∧ (∀ c ∈ cs, PyFlat.okCall PyKqp4.shape c) ∧ cs.length ≤ 200 ∧ (∀ c ∈ cs, InB c) ∧ PyKqp4.answers ns = outOf none cs ∧ (outOf none cs).length ≤ 10000000 := by
  unfold PyKqp4.answers_asked at h
  cases e : PyFlat.calls PyKqp4.shape ns.length ns with
  | none => rw [e] at h; cases h
  | some raw =>
    rw [e] at h
    have h' : (!raw.isEmpty && PyFlat.atMost 200 raw && PyInside.calls PyKqp4.bound raw && Kqp4Neutral.asked (raw.map PyKqp4.whole) && PyFlat.short 10000000 (PyKqp4.answers ns)) = true := h
    rw [Bool.and_eq_true, Bool.and_eq_true, Bool.and_eq_true, Bool.and_eq_true] at h'
    obtain ⟨⟨⟨⟨_, h2⟩, h3⟩, _⟩, h5⟩ := h'
    obtain ⟨e1, e2⟩ := calls_of e
    have ea : PyKqp4.answers ns = outOf none raw := by
      unfold PyKqp4.answers PyKqp4.calls
      rw [e]
      rfl
    refine ⟨raw, e1, e2, of_decide_eq_true h2, fun c hc => inb_of (e2 c hc) (List.all_eq_true.mp h3 c hc), ea, ?_⟩
    rw [← ea]
    exact of_decide_eq_true h5
inductive AllInv (C a fa g : Addr) (H3 : Hp) (cs : List (List (List Int))) (i : Nat) (σ : L2.St) (H' : Hp) : Prop
  | mk (v3 v4 v5 : Option V) (kk : Nat) (rs : List Addr) (e : σ = [some (.ref a), some (.ref fa), some (.ref g), v3, v4, v5]) (hO : ObjAt C fa H' rs (stAt none (cs.take i)) kk) (hk : kk ≤ i)
    (hg : H' g = some (.lst ((outOf none (cs.take i)).map V.int))) (hr : ∀ r ∈ rs, H3 r = none) (fr : ∀ b o, H3 b = some o → b ≠ fa → b ≠ g → H' b = some o) (hA : Away C g fa H') : AllInv C a fa g H3 cs i σ H'
section
variable {P : Program} {w : World} {K : PySem.W.Frag} {mg : Str → Option Value} {base : Heap} {C : Addr}
theorem sc_all : FnScope ["calls", "fields", "given", "number", "told", "answer"] ["calls"] (defScope s_answers) := ⟨rfl, rfl, rfl, by decide +kernel, rfl, by decide +kernel, by decide +kernel⟩
theorem ok_all {f fc : Addr} {fd fdc : FuncData} (T : Txt K mg C) (F : Fun K "answers" "answers" s_answers f fd) {kc : Nat} (hkc : 2 ≤ kc) (FC : Fun K "answer_call" "answer_call" s_answer_call fc fdc) (bc : Binds K fdc ["fields", "number", "told"] []) (mc : mg "answer_call" = some (.ref fc))
    (GC : FnOk P w K mg base CX0 kc fc fdc ["fields", "number", "told"] (spCall C)) : FnOk P w K mg base CX0 (kc + 1) f fd ["calls"] (spAll K) := by
  obtain ⟨fI, fdI, FI, bI, MI⟩ := T.mkI
  have GI : FnOk P w K mg base CX0 1 fI fdI ["self"] (spFInit C) := ok_finit T FI
  obtain ⟨f1, fd1, F1, b1, m1⟩ := T.d_split_calls
  have G1 : FnOk P w K mg base CX0 1 f1 fd1 ["calls"] (spSplit K) := ok_split T F1
  refine F.ok sc_all (fun vs H Q E h => ?_) (fun cdv A outer s H vs Q E hr h => ?_)
  · obtain ⟨_, _, rfl, _⟩ := h
    rfl
  · obtain ⟨a, ns, rfl, hS, hlen, hask, k⟩ := h
    obtain ⟨cs, rfl, hok, h200, hinb, hans, hout⟩ := asked_parts hask
    rw [hans] at k
    have nd := sc_all.nd
    have hr1 : Room 1 _ := hr.mono (by omega)
    have hr2 : Room 2 _ := hr.mono hkc
    refine ⟨_, pss_cons (ps_set (i := 1) nd rfl (Or.inl rfl) (pe_make0 MI GI hr2 rfl T.mC bI .nil pass0)) (pss_cons (ps_set (i := 2) nd rfl (Or.inl rfl) (pe_lst pa_nil))
      (pss_cons (ps_for (g := gTup K 2 (gCons (gName 3) (gCons (gName 4) gNil))) PassesOwn.never rfl (pi_list (pe_call G1 hr1 rfl m1 F1.kp b1 .nil pass0 (pa_cons (pv 0) pa_nil))) (pg_tup rfl (pgs_cons (pg_name (i := 3) nd rfl (Or.inl rfl)) (pgs_cons (pg_name (i := 4) nd rfl (Or.inl rfl)) pgs_nil)))
        (pss_cons (ps_set (i := 5) nd rfl (Or.inl rfl) (pe_call GC hr rfl mc FC.kp bc .nil pass0 (pa_cons (pv 1) (pa_cons (pv 3) (pa_cons (pv 4) pa_nil)))))
        (pss_cons (ps_expr (pe_bm PySem.F.plainAttrs_list PySem.F.slot_list_append PySem.F.type_list_append mt_append (pv 2) (pa_cons (pe_callB call_len_seq (by rfl) T.b_len PySem.boot_len (pa_cons (pv 5) pa_nil)) pa_nil)))
        (pss_one (ps_expr (pe_bm PySem.F.plainAttrs_list PySem.F.slot_list_extend PySem.F.type_list_extend mt_extend (pv 2) (pa_cons (pv 5) pa_nil)))))))
      (pss_one (ps_ret (pv 2))))), ?_⟩
    intro fa dx nfa ndx nex
    refine ⟨fa, dx, rfl, upd_same, fun H1 ua hF1 x1 hAw => ⟨rfl, ?_⟩⟩
    have s1 : Same H H1 := Same.made nfa ndx x1
    refine ⟨Nat.zero_le _, fun g hg => ?_⟩
    have s2 : Same H1 (upd H1 g (.lst [])) := Same.new hg
    obtain ⟨dx1, ra1, hf1, hR1⟩ := hF1.obj
    have ngf : g ≠ fa := fun e => by rw [e, hf1] at hg; cases hg
    have ngN : (upd (upd H dx (.own fa)) fa (.ins C dx [])) g = none := by
      cases q : (upd (upd H dx (.own fa)) fa (.ins C dx [])) g with
      | none => rfl
      | some o =>
        rw [x1 _ _ q ngf] at hg
        cases hg
    refine ⟨_, rfl, a, cs, rfl, (s1.trans s2).seq hS, hok, h200, hlen, fun H3 pp ts s3 hpp hPs hnpp => ?_⟩
    have npg : pp ≠ g := fun e => by rw [e, upd_same] at hnpp; cases hnpp
    have hg3 : H3 g = some (.lst []) := s3 _ _ upd_same
    have hf3 := s3 _ _ (s2 _ _ hf1)
    refine ⟨pp, rfl, ⟨_, SqL.of hpp⟩, for_list (K := K) (a := pp) (xs := ts.map V.ref) (AllInv C a fa g H3 cs) ?_ ?_ ?_ ?_⟩
    · exact ⟨none, none, none, 0, [], rfl, ⟨ua, [], [], hF1.same (s2.trans s3), .none⟩, Nat.le_refl _, hg3, (fun r hr => nomatch hr), fun b o e _ _ => e, (hAw g ngN hg).same (s2.trans s3)⟩
    · rintro i σ H' _ ⟨_, _, _, _, _, _, _, _, _, _, fr, _⟩
      exact SqL.of (fr _ _ hpp (ne_of hpp hf3 (by intro z; cases z)) npg)
    · rintro i y σ H' hi ⟨v3, v4, v5, kk, rs, rfl, hO, hkk, hg', hrs, fr, hA'⟩
      obtain ⟨t, ht, rfl⟩ := map_get hi
      have hit : i < ts.length := (List.getElem?_eq_some_iff.mp ht).1
      obtain ⟨c, hci⟩ : ∃ c, cs[i]? = some c := ⟨_, List.getElem?_eq_getElem (by rw [← hPs.1]; exact hit)⟩
      obtain ⟨t', u, ht', h1, h2, h3⟩ := hPs.2 i c hci
      rw [ht] at ht'
      cases ht'
      have hcm : c ∈ cs := List.mem_of_getElem? hci
      have nuf : u ≠ fa := ints_ne_ins h2 hf3
      have nug : u ≠ g := fun e => by rw [e, upd_same] at h3; cases h3
      have h1' := fr _ _ h1 (ne_of h1 hf3 (by intro z; cases z)) (ne_of h1 hg3 (by intro z; cases z))
      have h2' := fr _ _ h2 nuf nug
      have hur : u ∉ rs := fun hm => by
        have z := hrs u hm
        have h2z : H3 u = _ := h2
        rw [z] at h2z
        cases h2z
      have hgr : g ∉ rs := fun hm => by
        rw [hrs g hm] at hg3
        cases hg3
      have hil : i < cs.length := (List.getElem?_eq_some_iff.mp hci).1
      refine ⟨t, _, rfl, SqT.of h1', rfl, _, _, rfl, _, _, rfl, rfl, _, rfl, _, rfl, _, rfl, fa, u, c, rs, stAt none (cs.take i), kk, rfl, h2', hok c hcm, hinb c hcm, hur, hO, (by omega), fun H5 p rs' k' hO5 hk5 hp5 hpn fr5 hrs5 hA5 => ?_⟩
      have hg5 := fr5 _ _ hg' ngf hgr
      have npp5 : p ≠ g := fun e => by rw [e, hg'] at hpn; cases hpn
      have e1 : outOf none (cs.take (i + 1)) = outOf none (cs.take i) ++ (((stp (stAt none (cs.take i)) c).2.length : Int) :: (stp (stAt none (cs.take i)) c).2) := by
        rw [take_snocV hci, out_snoc]
      have hbnd : (outOf none (cs.take (i + 1))).length ≤ 10000000 := Nat.le_trans (out_take none cs (i + 1)) hout
      have elen := congrArg List.length e1
      rw [List.length_append, List.length_cons] at elen
      have sl : sizeLine = 16777216 := rfl
      refine ⟨_, rfl, .inl ⟨rfl, _, SqL.of hg5⟩, _, rfl, p, _, rfl, .inl (SqL.of hp5), g, _, _, rfl, rfl, hg5, (by rw [List.length_map]; omega), ?_⟩
      refine ⟨_, rfl, .inl ⟨rfl, _, SqL.of upd_same⟩, _, rfl, g, p, _, (stp (stAt none (cs.take i)) c).2.map V.int, rfl, rfl, upd_same, ?_, ?_, ?_⟩
      · rw [upd_ne npp5]
        exact hp5
      · rw [List.length_append, List.length_map, List.length_map, List.length_cons, List.length_nil]
        omega
      · have xg : But g H5 (upd (upd H5 g (.lst ((outOf none (cs.take i)).map V.int ++ [.int (((stp (stAt none (cs.take i)) c).2.map V.int).length : Nat)]))) g (.lst (((outOf none (cs.take i)).map V.int ++ [.int (((stp (stAt none (cs.take i)) c).2.map V.int).length : Nat)]) ++ (stp (stAt none (cs.take i)) c).2.map V.int))) := But.trans But.upd But.upd
        have hA2 : Away C g fa H5 := hA5 g (by rw [hg']; exact fun z => nomatch z) nug hA'
        have hgr' : g ∉ rs' := fun hm => by
          rcases hrs5 g hm with z | z
          · exact hgr z
          · rw [hg'] at z
            cases z
        refine ⟨_, _, _, k', rs', rfl, ?_, (by omega), ?_, fun r hr => ?_, fun b o e nf ng => ?_, hA2.but xg (Ne.symm ngf)⟩
        · rw [take_snocV hci, stAt_snoc]
          obtain ⟨ua5, rows5, us5, hF5, hS5⟩ := hO5.ex
          obtain ⟨dx5, ra5, hf5, hR5⟩ := hF5.obj
          obtain ⟨n1, n2⟩ := hA2.get hf5
          exact ⟨ua5, rows5, us5, ⟨⟨dx5, ra5, xg _ _ hf5 (Ne.symm ngf), xg _ _ hR5.lst n1, hR5.len, fun j b hb => let ⟨r, q1, q2⟩ := hR5.at_ j b hb; ⟨r, q1, xg _ _ q2 (fun z => hgr' (z ▸ List.mem_of_getElem? hb))⟩⟩, xg _ _ hF5.ups n2, hF5.nd, hF5.ap⟩, hS5⟩
        · rw [upd_same, e1, List.map_append, List.map_cons, List.length_map, List.append_assoc]
          rfl
        · rcases hrs5 r hr with z | z
          · exact hrs r z
          · cases q : H3 r with
            | none => rfl
            | some o =>
              have nrf : r ≠ fa := fun z2 => by
                obtain ⟨ua5, rows5, us5, hF5, hS5⟩ := hO.ex
                obtain ⟨dx5, ra5, hf5, hR5⟩ := hF5.obj
                rw [z2, hf5] at z
                cases z
              have nrg : r ≠ g := fun z2 => by
                rw [z2, hg'] at z
                cases z
              rw [fr _ _ q nrf nrg] at z
              cases z
        · have hbr : b ∉ rs := fun hm => by
            rw [hrs b hm] at e
            cases e
          exact xg _ _ (fr5 _ _ (fr _ _ e nf ng) nf hbr) ng
    · rintro σ H' ⟨v3, v4, v5, kk, rs, rfl, hO, hkk, hg', hrs, fr, hA'⟩
      rw [List.length_map, hPs.1, List.take_length] at hg'
      exact ⟨_, rfl, k H' g hg'⟩
end
end Fs
namespace Fs
open PySem PySem.Spec PyProof.Rows L2
theorem binds_any {K : PySem.W.Frag} {f : Addr} {fd : FuncData} (F : Fun K "answers" "answers" s_answers f fd) (us : List Value) (hu : us.length = (["calls"] : List Str).length) (s : Shared) : BindsTo s fd ⟨us, []⟩ ((["calls"] : List Str).zip us) := by
  obtain ⟨oc, od, kV, doc, pm, an, cdv, ct, osl, rfl, lk, hcd⟩ := F.ex
  exact lall_s (p := fun us => BindsTo s _ ⟨us, []⟩ ((["calls"] : List Str).zip us)) (fun _ => lall_0 (.of_eq rfl)) us hu
end Fs

end

section
set_option Elab.async false
set_option linter.all false
set_option maxRecDepth 100000
set_option maxHeartbeats 2000000
namespace Fs
open PySem PySem.Spec PyProof.Rows L2
theorem ans_same {C fa t : Addr} {rs : List Addr} {k : Nat} {H : Hp} {Q : VK} {s st : Option Kqp4.Land} {A A' : Kqp4.Ans}
    (fin : ∀ (H' : Hp) (p : Addr) (rs' : List Addr) (k' : Nat), ObjAt C fa H' rs' st k' → k' ≤ k + 1 → IntsAt H' p (Kqp4Neutral.tell A) → H p = none → Frame fa rs H H' → (∀ r ∈ rs', r ∈ rs ∨ H r = none) → (∀ g, H g ≠ none → t ≠ g → Away C g fa H → Away C g fa H') → Q (.ref p) H')
    (hO : ObjAt C fa H rs s k) (e1 : st = s) (e2 : A = A') {H1 : Hp} {p : Addr} (s1 : Same H H1) (hp : H p = none) (hL : IntsAt H1 p (Kqp4Neutral.tell A')) : Q (.ref p) H1 := by
  subst e1 e2
  exact fin H1 p rs k (hO.same s1) (by omega) hL hp (Same.frame s1) (fun r hr => .inl hr) (fun g _ _ hA => hA.same s1)
theorem len2 {l : List Nat} (h : l.length = 2) : ∃ a b, l = [a, b] := by
  match l, h with
  | [a, b], _ => exact ⟨a, b, rfl⟩
theorem len3 {l : List Nat} (h : l.length = 3) : ∃ a b c, l = [a, b, c] := by
  match l, h with
  | [a, b, c], _ => exact ⟨a, b, c, rfl⟩
theorem len4 {l : List Nat} (h : l.length = 4) : ∃ a b c d, l = [a, b, c, d] := by
  match l, h with
  | [a, b, c, d], _ => exact ⟨a, b, c, d, rfl⟩
theorem all_two (z y n : Nat) : ((toInts [z, y]).all fun v => decide (v < (n : Int))) = (decide (z < n) && decide (y < n)) := by
  show (decide ((z : Int) < (n : Int)) && (decide ((y : Int) < (n : Int)) && true)) = _
  rw [Bool.and_true, dec_lt_cast, dec_lt_cast]
theorem gens_ne {x : Kqp4.Land} {us : List Int} {k : Nat} (h : Ok x us k) (n : Nat) : gens (cRows x) n us ≠ [] := fun e => by
  have h1 := h.glen n
  rw [e] at h1
  have := h.two
  simp at h1
  omega
theorem mem_rows {x : Kqp4.Land} {f : Int} (h : ∃ r ∈ cRows x, f ∈ r) : ∃ i j, i < x.fields ∧ j < x.fields ∧ (Kqp4.comes x i j : Int) = f := by
  obtain ⟨r, hr, hf⟩ := h
  unfold cRows at hr
  obtain ⟨i, hi, e⟩ := List.mem_map.mp hr
  rw [← e] at hf
  unfold cRow at hf
  obtain ⟨j, hj, e2⟩ := List.mem_map.mp hf
  exact ⟨i, j, List.mem_range.mp hi, List.mem_range.mp hj, e2⟩
theorem in_rows {x : Kqp4.Land} {i j : Nat} (hi : i < x.fields) (hj : j < x.fields) : ∃ r ∈ cRows x, (Kqp4.comes x i j : Int) ∈ r :=
  ⟨cRow x i, List.mem_of_getElem? (cRows_get hi), List.mem_of_getElem? (cRow_get hj)⟩
theorem few_of {x : Kqp4.Land} {us : List Int} {k : Nat} (ok : Ok x us k) {f : Int} (h1 : ∃ r ∈ cRows x, f ∈ r) (h2 : ∀ r ∈ cRows x, ∀ y ∈ r, f ≤ y) : (Kqp4.fewest x : Int) = f := by
  obtain ⟨i, j, hi, hj, e⟩ := mem_rows h1
  have := ok.fewest (m := Kqp4.comes x i j) ⟨i, j, hi, hj, rfl⟩ (fun i' j' hi' hj' => by
    obtain ⟨r, hr, hy⟩ := in_rows (x := x) hi' hj'
    have := h2 r hr _ hy
    omega)
  rw [this, e]
section
variable {P : Program} {w : World} {K : PySem.W.Frag} {mg : Str → Option Value} {base : Heap} {C : Addr}
theorem sc_aafter : FnScope ["fields", "told", "n"] ["fields", "told"] (defScope s_answer_after) := ⟨rfl, rfl, rfl, by decide +kernel, rfl, by decide +kernel, by decide +kernel⟩
theorem ok_aafter {f : Addr} {fd : FuncData} (T : Txt K mg C) (F : Fun K "answer_after" "answer_after" s_answer_after f fd) : FnOk P w K mg base CX0 4 f fd ["fields", "told"] (spAnsL C (fun n => n = 2) fun l => .after (l.getD 0 0) (l.getD 1 0)) := by
  obtain ⟨f1, fd1, F1, b1, m1⟩ := T.d_are_fields
  obtain ⟨f2, fd2, F2, b2, m2⟩ := T.m_share_after
  obtain ⟨f3, fd3, F3, b3, m3⟩ := T.d_are_generations
  have G1 : FnOk P w K mg base CX0 2 f1 fd1 ["fields", "told"] (spAreF C) := ok_areF T F1
  have G2 : FnOk P w K mg base CX0 3 f2 fd2 ["self", "n", "i"] (spShareA C) := ok_shareA T F2
  have G3 : FnOk P w K mg base CX0 1 f3 fd3 ["n"] spAreG := ok_areG T F3
  obtain ⟨t1, c1⟩ := T.c_NOT_AS_TOLD
  obtain ⟨t2, c2⟩ := T.c_DONE
  refine F.ok sc_aafter (fun vs H Q E h => ?_) (fun cdv A outer s H vs Q E hr h => ?_)
  · obtain ⟨_, _, _, _, _, _, _, _, rfl, _⟩ := h
    rfl
  · obtain ⟨fa, t, l, rs, x, k, ua, us, rfl, hT, hl, h60, hts, hO, hF, ok, hk, fin⟩ := h
    have hr2 : Room 2 _ := hr.mono (by decide)
    have hr1 : Room 1 _ := hr.mono (by decide)
    obtain ⟨n, z, rfl⟩ := len2 hl
    · obtain ⟨dx, ra, h1, h2⟩ := hF.obj
      have e1 : (Kqp4.step (some x) (Kqp4.Call.after ([n, z].getD 0 0) ([n, z].getD 1 0))).1 = some x := rfl
      refine ⟨_, pss_cons (ps_set (i := 2) sc_aafter.nd rfl (Or.inl rfl) (pe_ix ix_list (pv 1) pe_int (fun _ _ => rfl)))
        (pss_cons (ps_if (PW.pt (pw_or (pt_not (pt_val (pe_call G3 hr1 rfl m3 F3.kp b3 .nil pass0 (pa_cons (pv 2) pa_nil)))) (pw_or1 (pt_not (pt_val (pe_call G1 hr2 rfl m1 F1.kp b1 .nil pass0 (pa_cons (pv 0) (pa_cons (pe_slice sl_list (pv 1) (po_some pe_int) po_none) pa_nil))))))))
          (pss_one (ps_ret (pe_lst (pa_cons (pe_glob (v := .int (-22)) rfl c1 ⟨_, rfl⟩) pa_nil)))) pss_nil)
        (pss_one (ps_ret (pe_op op_cat (pe_lst (pa_cons (pe_glob (v := .int 0) rfl c2 ⟨_, rfl⟩) pa_nil)) (pe_meth (pv 0) T.cl m2 G2 hr b2 .nil pass0 (pa_cons (pv 2) (pa_cons (pe_ix ix_list (pv 1) pe_int (fun _ _ => rfl)) pa_nil))))))), ?_⟩
      have refuse : (x.fields ≤ z ∨ 4 < n) → ∀ H1, Same H H1 → ∀ p, H1 p = none → Q (.ref p) (upd H1 p (.lst [.int (-22)])) := fun hc H1 s1 p hp =>
        ans_same fin hO e1 (show (if x.fields ≤ z ∨ 4 < n then Kqp4.Ans.num (-22) else _) = _ from if_pos hc) (s1.trans (Same.new hp)) (s1.free hp) upd_same
      refine ⟨_, rfl, t, _, 0, _, rfl, rfl, SqL.of hT, rfl, _, rfl, (n : Int), rfl, _, rfl, ?_⟩
      refine ite2 (fun hc => iteT ⟨by decide, refuse (.inr ?_) H (Same.refl H)⟩) (fun hc => ?_)
      · exact gen_no hc
      · have hn : n ≤ 4 := gen_yes hc
        refine ⟨_, rfl, _, rfl, _, rfl, t, _, rfl, SqL.of hT, fun q hq => ?_⟩
        have s1 : Same H (upd H q (.lst (cutV ((toInts [n, z]).map V.int) (some 1) none))) := Same.new hq
        refine ⟨fa, q, rs, ua, _, us, _, toInts [z], rfl, hF.same s1, upd_same, (by simp [toInts]), fun H1 s2 => ⟨_, rfl, ?_⟩⟩
        have s12 := s1.trans s2
        rw [all_one, cRows_length]
        refine ite2 (fun hc => ⟨by decide, refuse (.inl ?_) H1 s12⟩) (fun hc => ?_)
        · exact fld_no hc
        · have hz : z < x.fields := fld_yes hc
          obtain ⟨u, hu⟩ : ∃ u, (gens (cRows x) n us)[z]? = some u := ⟨_, List.getElem?_eq_getElem (by rw [ok.glen]; exact hz)⟩
          refine ⟨by decide, fun q2 hq2 => ?_⟩
          have s3 : Same H (upd H1 q2 (.lst [.int 0])) := s12.trans (Same.new hq2)
          refine ⟨_, rfl, fa, dx, _, rfl, s3 _ _ h1, fF_no _ _ _ (by decide +kernel) (by decide +kernel) (by decide +kernel), _, rfl, _, rfl, t, _, 1, _, rfl, rfl, SqL.of (s3 _ _ hT), rfl, fa, n, z, rs, ua, cRows x, us, 100 ^ k, u, rfl, hF.same s3, ok.sq, hn, hun_pos k, ?_, hu, fun H3 p s4 hp hp3 => ?_⟩
          · rw [← Nat.pow_add]
            exact hun_log (kn_le hk hn)
          · refine ⟨q2, p, _, _, rfl, rfl, s4 _ _ upd_same, hp3, (by show 3 ≤ sizeLine; decide), fun v hv => ?_⟩
            refine ans_same fin hO e1 (A' := Kqp4.tell (Kqp4.frac u (100 ^ (k + n)))) ?_ ((s3.trans s4).trans (Same.new hv)) ((s3.trans s4).free hv) ?_
            · show (if x.fields ≤ z ∨ 4 < n then _ else Kqp4.tell (Kqp4.at_ (Kqp4.after x n x.shares) z)) = _
              rw [if_neg (by omega), ok.afterAt n hu]
            · rw [← Nat.pow_add]
              exact upd_same
theorem sc_aapart : FnScope ["fields", "told"] ["fields", "told"] (defScope s_answer_apart) := ⟨rfl, rfl, rfl, by decide +kernel, rfl, by decide +kernel, by decide +kernel⟩
theorem ok_aapart {f : Addr} {fd : FuncData} (T : Txt K mg C) (F : Fun K "answer_apart" "answer_apart" s_answer_apart f fd) : FnOk P w K mg base CX0 4 f fd ["fields", "told"] (spAnsL C (fun n => n = 1) fun l => .apart (l.getD 0 0)) := by
  obtain ⟨f2, fd2, F2, b2, m2⟩ := T.m_apart_after
  obtain ⟨f3, fd3, F3, b3, m3⟩ := T.d_are_generations
  have G2 : FnOk P w K mg base CX0 3 f2 fd2 ["self", "n"] (spApartA C) := ok_apartA T F2
  have G3 : FnOk P w K mg base CX0 1 f3 fd3 ["n"] spAreG := ok_areG T F3
  obtain ⟨t1, c1⟩ := T.c_NOT_AS_TOLD
  obtain ⟨t2, c2⟩ := T.c_DONE
  refine F.ok sc_aapart (fun vs H Q E h => ?_) (fun cdv A outer s H vs Q E hr h => ?_)
  · obtain ⟨_, _, _, _, _, _, _, _, rfl, _⟩ := h
    rfl
  · obtain ⟨fa, t, l, rs, x, k, ua, us, rfl, hT, hl, h60, hts, hO, hF, ok, hk, fin⟩ := h
    have hr1 : Room 1 _ := hr.mono (by decide)
    obtain ⟨n, rfl⟩ : ∃ z, l = [z] := List.length_eq_one_iff.mp hl
    · obtain ⟨dx, ra, h1, h2⟩ := hF.obj
      have e1 : (Kqp4.step (some x) (Kqp4.Call.apart ([n].getD 0 0))).1 = some x := rfl
      refine ⟨_, pss_cons (ps_if (pt_not (pt_val (pe_call G3 hr1 rfl m3 F3.kp b3 .nil pass0 (pa_cons (pe_ix ix_list (pv 1) pe_int (fun _ _ => rfl)) pa_nil)))) (pss_one (ps_ret (pe_lst (pa_cons (pe_glob (v := .int (-22)) rfl c1 ⟨_, rfl⟩) pa_nil)))) pss_nil)
        (pss_one (ps_ret (pe_op op_cat (pe_lst (pa_cons (pe_glob (v := .int 0) rfl c2 ⟨_, rfl⟩) pa_nil)) (pe_meth (pv 0) T.cl m2 G2 hr b2 .nil pass0 (pa_cons (pe_ix ix_list (pv 1) pe_int (fun _ _ => rfl)) pa_nil))))), ?_⟩
      refine ⟨_, rfl, t, _, 0, _, rfl, rfl, SqL.of hT, rfl, (n : Int), rfl, _, rfl, ?_⟩
      refine ite2 (fun hc => ⟨by decide, fun p hp => ans_same fin hO e1 (A' := .num (-22)) ?_ (Same.new hp) hp upd_same⟩) (fun hc => ?_)
      · exact if_pos (gen_no hc)
      · have hn : n ≤ 4 := gen_yes hc
        refine ⟨by decide, fun q2 hq2 => ?_⟩
        have s3 : Same H (upd H q2 (.lst [.int 0])) := Same.new hq2
        refine ⟨_, rfl, fa, dx, _, rfl, s3 _ _ h1, fF_no _ _ _ (by decide +kernel) (by decide +kernel) (by decide +kernel), _, rfl, t, _, 0, _, rfl, rfl, SqL.of (s3 _ _ hT), rfl, fa, n, rs, ua, cRows x, us, 100 ^ k, rfl, hF.same s3, ok.sq, hn, hun_pos k, ?_, gens_ne ok n, fun H3 p M m hM hm s4 hp hp3 => ?_⟩
        · rw [← Nat.pow_add]
          exact hun_log (kn_le hk hn)
        · refine ⟨q2, p, _, _, rfl, rfl, s4 _ _ upd_same, hp3, (by show 3 ≤ sizeLine; decide), fun v hv => ?_⟩
          refine ans_same fin hO e1 (A' := Kqp4.tell (Kqp4.frac (M - m) (100 ^ (k + n)))) ?_ ((s3.trans s4).trans (Same.new hv)) ((s3.trans s4).free hv) ?_
          · show (if 4 < n then _ else Kqp4.tell (Kqp4.apart (Kqp4.after x n x.shares))) = _
            rw [if_neg (by omega), ok.apart n hM hm]
          · rw [← Nat.pow_add]
            exact upd_same
theorem sc_abound : FnScope ["fields", "told"] ["fields", "told"] (defScope s_answer_bound) := ⟨rfl, rfl, rfl, by decide +kernel, rfl, by decide +kernel, by decide +kernel⟩
theorem ok_abound {f : Addr} {fd : FuncData} (T : Txt K mg C) (F : Fun K "answer_bound" "answer_bound" s_answer_bound f fd) : FnOk P w K mg base CX0 4 f fd ["fields", "told"] (spAnsL C (fun n => n = 1) fun l => .bound (l.getD 0 0)) := by
  obtain ⟨f2, fd2, F2, b2, m2⟩ := T.m_bound_after
  obtain ⟨f3, fd3, F3, b3, m3⟩ := T.d_are_generations
  have G2 : FnOk P w K mg base CX0 3 f2 fd2 ["self", "n"] (spBoundA C) := ok_boundA T F2
  have G3 : FnOk P w K mg base CX0 1 f3 fd3 ["n"] spAreG := ok_areG T F3
  obtain ⟨t1, c1⟩ := T.c_NOT_AS_TOLD
  obtain ⟨t2, c2⟩ := T.c_DONE
  refine F.ok sc_abound (fun vs H Q E h => ?_) (fun cdv A outer s H vs Q E hr h => ?_)
  · obtain ⟨_, _, _, _, _, _, _, _, rfl, _⟩ := h
    rfl
  · obtain ⟨fa, t, l, rs, x, k, ua, us, rfl, hT, hl, h60, hts, hO, hF, ok, hk, fin⟩ := h
    have hr1 : Room 1 _ := hr.mono (by decide)
    obtain ⟨n, rfl⟩ : ∃ z, l = [z] := List.length_eq_one_iff.mp hl
    · obtain ⟨dx, ra, h1, h2⟩ := hF.obj
      have h2x := ok.two
      have e1 : (Kqp4.step (some x) (Kqp4.Call.bound ([n].getD 0 0))).1 = some x := rfl
      refine ⟨_, pss_cons (ps_if (pt_not (pt_val (pe_call G3 hr1 rfl m3 F3.kp b3 .nil pass0 (pa_cons (pe_ix ix_list (pv 1) pe_int (fun _ _ => rfl)) pa_nil)))) (pss_one (ps_ret (pe_lst (pa_cons (pe_glob (v := .int (-22)) rfl c1 ⟨_, rfl⟩) pa_nil)))) pss_nil)
        (pss_one (ps_ret (pe_op op_cat (pe_lst (pa_cons (pe_glob (v := .int 0) rfl c2 ⟨_, rfl⟩) pa_nil)) (pe_meth (pv 0) T.cl m2 G2 hr b2 .nil pass0 (pa_cons (pe_ix ix_list (pv 1) pe_int (fun _ _ => rfl)) pa_nil))))), ?_⟩
      refine ⟨_, rfl, t, _, 0, _, rfl, rfl, SqL.of hT, rfl, (n : Int), rfl, _, rfl, ?_⟩
      refine ite2 (fun hc => ⟨by decide, fun p hp => ans_same fin hO e1 (A' := .num (-22)) ?_ (Same.new hp) hp upd_same⟩) (fun hc => ?_)
      · exact if_pos (gen_no hc)
      · have hn : n ≤ 4 := gen_yes hc
        refine ⟨by decide, fun q2 hq2 => ?_⟩
        have s3 : Same H (upd H q2 (.lst [.int 0])) := Same.new hq2
        have hne1 : cRows x ≠ [] := fun e => by
          have := cRows_length x
          rw [e] at this
          simp at this
          omega
        have hne2 : us ≠ [] := fun e => by
          have := ok.ulen
          rw [e] at this
          simp at this
          omega
        refine ⟨_, rfl, fa, dx, _, rfl, s3 _ _ h1, fF_no _ _ _ (by decide +kernel) (by decide +kernel) (by decide +kernel), _, rfl, t, _, 0, _, rfl, rfl, SqL.of (s3 _ _ hT), rfl, fa, n, rs, ua, cRows x, us, 100 ^ k, rfl, hF.same s3, ok.sq, hn, hun_pos k, ?_, hne1, hne2, fun H3 p q M m hq1 hq2 hM hm s4 hp hp3 => ?_⟩
        · rw [← Nat.pow_add]
          exact hun_log (kn_le hk hn)
        · refine ⟨q2, p, _, _, rfl, rfl, s4 _ _ upd_same, hp3, (by show 3 ≤ sizeLine; decide), fun v hv => ?_⟩
          refine ans_same fin hO e1 (A' := Kqp4.tell (Kqp4.frac ((M - m) * (100 - (x.fields : Int) * (Kqp4.fewest x : Int)) ^ n) (100 ^ (k + n)))) ?_ ((s3.trans s4).trans (Same.new hv)) ((s3.trans s4).free hv) ?_
          · show (if 4 < n then _ else Kqp4.tell (Kqp4.mul (Kqp4.bound x n) (Kqp4.apart x.shares))) = _
            rw [if_neg (by omega), ok.bound hM hm n]
          · rw [← Nat.pow_add, cRows_length, ← few_of ok hq1 hq2, Int.mul_comm (Kqp4.fewest x : Int)]
            exact upd_same
theorem sc_afewest : FnScope ["fields", "told"] ["fields", "told"] (defScope s_answer_fewest) := ⟨rfl, rfl, rfl, by decide +kernel, rfl, by decide +kernel, by decide +kernel⟩
theorem ok_afewest {f : Addr} {fd : FuncData} (T : Txt K mg C) (F : Fun K "answer_fewest" "answer_fewest" s_answer_fewest f fd) : FnOk P w K mg base CX0 4 f fd ["fields", "told"] (spAnsL C (fun n => n = 0) fun _ => .fewest) := by
  obtain ⟨f2, fd2, F2, b2, m2⟩ := T.m_fewest
  have G2 : FnOk P w K mg base CX0 1 f2 fd2 ["self"] (spFewest C) := ok_fewest T F2
  refine F.ok sc_afewest (fun vs H Q E h => ?_) (fun cdv A outer s H vs Q E hr h => ?_)
  · obtain ⟨_, _, _, _, _, _, _, _, rfl, _⟩ := h
    rfl
  · obtain ⟨fa, t, l, rs, x, k, ua, us, rfl, hT, hl, h60, hts, hO, hF, ok, hk, fin⟩ := h
    have hr1 : Room 1 _ := hr.mono (by decide)
    · obtain ⟨dx, ra, h1, h2⟩ := hF.obj
      have h2x := ok.two
      have hne1 : cRows x ≠ [] := fun e => by
        have := cRows_length x
        rw [e] at this
        simp at this
        omega
      refine ⟨_, pss_one (ps_ret (pe_lst (pa_cons (pe_meth0 (pv 0) T.cl m2 G2 hr1 b2 .nil pass0) pa_nil))), ?_⟩
      refine ⟨_, rfl, fa, dx, _, rfl, h1, fF_no _ _ _ (by decide +kernel) (by decide +kernel) (by decide +kernel), fa, rs, ua, cRows x, us, _, rfl, hF, ok.sq, hne1, fun H1 m s1 hm1 hm2 => ⟨by show 1 ≤ sizeLine; decide, fun p hp => ?_⟩⟩
      refine ans_same fin hO rfl (A' := .num m) ?_ (s1.trans (Same.new hp)) (s1.free hp) upd_same
      show Kqp4.Ans.num (Kqp4.fewest x : Int) = _
      rw [few_of ok hm1 hm2]
theorem sc_afrom : FnScope ["fields", "told", "n"] ["fields", "told"] (defScope s_answer_from) := ⟨rfl, rfl, rfl, by decide +kernel, rfl, by decide +kernel, by decide +kernel⟩
theorem ok_afrom {f : Addr} {fd : FuncData} (T : Txt K mg C) (F : Fun K "answer_from" "answer_from" s_answer_from f fd) : FnOk P w K mg base CX0 5 f fd ["fields", "told"] (spAnsL C (fun n => n = 3) fun l => .from_ (l.getD 0 0) (l.getD 1 0) (l.getD 2 0)) := by
  obtain ⟨f1, fd1, F1, b1, m1⟩ := T.d_are_fields
  obtain ⟨f2, fd2, F2, b2, m2⟩ := T.m_forebears_after
  obtain ⟨f3, fd3, F3, b3, m3⟩ := T.d_are_generations
  have G1 : FnOk P w K mg base CX0 2 f1 fd1 ["fields", "told"] (spAreF C) := ok_areF T F1
  have G2 : FnOk P w K mg base CX0 4 f2 fd2 ["self", "n", "i", "j"] (spForeA C) := ok_foreA T F2
  have G3 : FnOk P w K mg base CX0 1 f3 fd3 ["n"] spAreG := ok_areG T F3
  obtain ⟨t1, c1⟩ := T.c_NOT_AS_TOLD
  obtain ⟨t2, c2⟩ := T.c_DONE
  refine F.ok sc_afrom (fun vs H Q E h => ?_) (fun cdv A outer s H vs Q E hr h => ?_)
  · obtain ⟨_, _, _, _, _, _, _, _, rfl, _⟩ := h
    rfl
  · obtain ⟨fa, t, l, rs, x, k, ua, us, rfl, hT, hl, h60, hts, hO, hF, ok, hk, fin⟩ := h
    have hr2 : Room 2 _ := hr.mono (by decide)
    have hr1 : Room 1 _ := hr.mono (by decide)
    obtain ⟨n, z, y, rfl⟩ := len3 hl
    · obtain ⟨dx, ra, h1, h2⟩ := hF.obj
      have e1 : (Kqp4.step (some x) (Kqp4.Call.from_ ([n, z, y].getD 0 0) ([n, z, y].getD 1 0) ([n, z, y].getD 2 0))).1 = some x := rfl
      refine ⟨_, pss_cons (ps_set (i := 2) sc_afrom.nd rfl (Or.inl rfl) (pe_ix ix_list (pv 1) pe_int (fun _ _ => rfl)))
        (pss_cons (ps_if (PW.pt (pw_or (pt_not (pt_val (pe_call G3 hr1 rfl m3 F3.kp b3 .nil pass0 (pa_cons (pv 2) pa_nil)))) (pw_or1 (pt_not (pt_val (pe_call G1 hr2 rfl m1 F1.kp b1 .nil pass0 (pa_cons (pv 0) (pa_cons (pe_slice sl_list (pv 1) (po_some pe_int) po_none) pa_nil))))))))
          (pss_one (ps_ret (pe_lst (pa_cons (pe_glob (v := .int (-22)) rfl c1 ⟨_, rfl⟩) pa_nil)))) pss_nil)
        (pss_one (ps_ret (pe_op op_cat (pe_lst (pa_cons (pe_glob (v := .int 0) rfl c2 ⟨_, rfl⟩) pa_nil)) (pe_meth (pv 0) T.cl m2 G2 hr b2 .nil pass0 (pa_cons (pv 2) (pa_cons (pe_ix ix_list (pv 1) pe_int (fun _ _ => rfl)) (pa_cons (pe_ix ix_list (pv 1) pe_int (fun _ _ => rfl)) pa_nil)))))))), ?_⟩
      have refuse : (x.fields ≤ z ∨ x.fields ≤ y ∨ 4 < n) → ∀ H1, Same H H1 → ∀ p, H1 p = none → Q (.ref p) (upd H1 p (.lst [.int (-22)])) := fun hc H1 s1 p hp =>
        ans_same fin hO e1 (show (if x.fields ≤ z ∨ x.fields ≤ y ∨ 4 < n then Kqp4.Ans.num (-22) else _) = _ from if_pos hc) (s1.trans (Same.new hp)) (s1.free hp) upd_same
      refine ⟨_, rfl, t, _, 0, _, rfl, rfl, SqL.of hT, rfl, _, rfl, (n : Int), rfl, _, rfl, ?_⟩
      refine ite2 (fun hc => iteT ⟨by decide, refuse (.inr (.inr ?_)) H (Same.refl H)⟩) (fun hc => ?_)
      · exact gen_no hc
      · have hn : n ≤ 4 := gen_yes hc
        refine ⟨_, rfl, _, rfl, _, rfl, t, _, rfl, SqL.of hT, fun q hq => ?_⟩
        have s1 : Same H (upd H q (.lst (cutV ((toInts [n, z, y]).map V.int) (some 1) none))) := Same.new hq
        refine ⟨fa, q, rs, ua, _, us, _, toInts [z, y], rfl, hF.same s1, upd_same, (by simp [toInts]), fun H1 s2 => ⟨_, rfl, ?_⟩⟩
        have s12 := s1.trans s2
        rw [all_two, cRows_length]
        refine ite2 (fun hc => ⟨by decide, refuse ?_ H1 s12⟩) (fun hc => ?_)
        · have : x.fields ≤ z ∨ x.fields ≤ y := by simpa using hc
          omega
        · have hzy : z < x.fields ∧ y < x.fields := by simpa using hc
          obtain ⟨u, hu⟩ : ∃ u, (gens (cRows x) n (unit x.fields y))[z]? = some u := ⟨_, List.getElem?_eq_getElem (by rw [gens_length _ _ (by rw [unit_length, cRows_length]), cRows_length]; exact hzy.1)⟩
          refine ⟨by decide, fun q2 hq2 => ?_⟩
          have s3 : Same H (upd H1 q2 (.lst [.int 0])) := s12.trans (Same.new hq2)
          refine ⟨_, rfl, fa, dx, _, rfl, s3 _ _ h1, fF_no _ _ _ (by decide +kernel) (by decide +kernel) (by decide +kernel), _, rfl, _, rfl, t, _, 1, _, rfl, rfl, SqL.of (s3 _ _ hT), rfl, _, rfl, t, _, 2, _, rfl, rfl, SqL.of (s3 _ _ hT), rfl, fa, n, z, y, rs, ua, cRows x, us, _, u, rfl, hF.same s3, ok.sq, hn, (by rw [cRows_length]; exact hu), fun H3 p s4 hp hp3 => ?_⟩
          refine ⟨q2, p, _, _, rfl, rfl, s4 _ _ upd_same, hp3, (by show 3 ≤ sizeLine; decide), fun v hv => ?_⟩
          refine ans_same fin hO e1 (A' := Kqp4.tell (Kqp4.frac u (100 ^ n))) ?_ ((s3.trans s4).trans (Same.new hv)) ((s3.trans s4).free hv) upd_same
          show (if x.fields ≤ z ∨ x.fields ≤ y ∨ 4 < n then _ else Kqp4.tell (Kqp4.forebears x n z y)) = _
          rw [if_neg (by omega), fore_eq n z hzy.1 u hu]
theorem sc_anext : FnScope ["fields", "told"] ["fields", "told"] (defScope s_answer_next) := ⟨rfl, rfl, rfl, by decide +kernel, rfl, by decide +kernel, by decide +kernel⟩
theorem ok_anext {f : Addr} {fd : FuncData} (T : Txt K mg C) (F : Fun K "answer_next" "answer_next" s_answer_next f fd) : FnOk P w K mg base CX0 4 f fd ["fields", "told"] (spAnsL C (fun n => n = 0) fun _ => .next) := by
  obtain ⟨f1, fd1, F1, b1, m1⟩ := T.m_greatest_lower
  obtain ⟨f2, fd2, F2, b2, m2⟩ := T.m_go_by
  have G1 : FnOk P w K mg base CX0 3 f1 fd1 ["self"] (spGreat C) := ok_great T F1
  have G2 : FnOk P w K mg base CX0 3 f2 fd2 ["self"] (spGo C) := ok_go T F2
  obtain ⟨t1, c1⟩ := T.c_TOO_FINE
  obtain ⟨t2, c2⟩ := T.c_DONE
  obtain ⟨t3, c3⟩ := T.c_FINEST_LOWER
  refine F.ok sc_anext (fun vs H Q E h => ?_) (fun cdv A outer s H vs Q E hr h => ?_)
  · obtain ⟨_, _, _, _, _, _, _, _, rfl, _⟩ := h
    rfl
  · obtain ⟨fa, t, l, rs, x, k, ua, us, rfl, hT, hl, h60, hts, hO, hF, ok, hk, fin⟩ := h
    · obtain ⟨dx, ra, h1, h2⟩ := hF.obj
      have h2x := ok.two
      have h4x := ok.four
      have hne2 : us ≠ [] := fun e => by
        have := ok.ulen
        rw [e] at this
        simp at this
        omega
      refine ⟨_, pss_cons (ps_if (pt_cmpR op_gt (pe_meth0 (pv 0) T.cl m1 G1 hr b1 .nil pass0) (pe_glob (v := .int 1000000) rfl c3 ⟨_, rfl⟩) (nomark _)) (pss_one (ps_ret (pe_lst (pa_cons (pe_glob (v := .int (-28)) rfl c1 ⟨_, rfl⟩) pa_nil)))) pss_nil)
        (pss_cons (ps_expr (pe_meth0 (pv 0) T.cl m2 G2 hr b2 .nil pass0)) (pss_one (ps_ret (pe_lst (pa_cons (pe_glob (v := .int 0) rfl c2 ⟨_, rfl⟩) pa_nil))))), ?_⟩
      refine ⟨_, rfl, fa, dx, _, rfl, h1, fF_no _ _ _ (by decide +kernel) (by decide +kernel) (by decide +kernel), fa, rs, ua, cRows x, us, 100 ^ k, rfl, hF, hun_pos k, hun_log (k_le hk), hne2, (by rw [ok.ulen]; exact h4x), fun H1 M s1 hM => ?_⟩
      have hany : (x.shares.any fun p => decide (1000000 < p.den)) = decide (1000000 < M) := by
        rw [Bool.eq_iff_iff, List.any_eq_true, decide_eq_true_iff]
        constructor
        · rintro ⟨p, hp, hd⟩
          rw [ok.sh] at hp
          obtain ⟨u, hu, e⟩ := List.mem_map.mp hp
          have := hM.2 _ (List.mem_map.mpr ⟨u, hu, rfl⟩)
          have hd' := of_decide_eq_true hd
          rw [← e] at hd'
          omega
        · intro hd
          obtain ⟨u, hu, e⟩ := List.mem_map.mp hM.1
          refine ⟨Kqp4.frac u (100 ^ k), by rw [ok.sh]; exact List.mem_map.mpr ⟨u, hu, rfl⟩, decide_eq_true ?_⟩
          omega
      refine ⟨_, _, rfl, rfl, _, rfl, ite2 (fun hc => ⟨by decide, fun p hp => ?_⟩) (fun hc => ?_)⟩
      · have hst : Kqp4.step (some x) Kqp4.Call.next = (some x, .num (-28)) := by
          show (if (x.shares.any fun p => decide (1000000 < p.den)) = true then (some x, Kqp4.Ans.num (-28)) else _) = _
          rw [if_pos (by rw [hany]; exact hc)]
        exact ans_same fin hO (A' := .num (-28)) (by rw [hst]) (by rw [hst]) (s1.trans (Same.new hp)) (s1.free hp) upd_same
      · have hst : Kqp4.step (some x) Kqp4.Call.next = (some { x with shares := Kqp4.next x x.shares }, .num 0) := by
          show (if (x.shares.any fun p => decide (1000000 < p.den)) = true then _ else (some { x with shares := Kqp4.next x x.shares }, Kqp4.Ans.num 0)) = _
          rw [if_neg (by rw [hany]; exact hc)]
        refine ⟨_, rfl, fa, dx, _, rfl, s1 _ _ h1, fF_no _ _ _ (by decide +kernel) (by decide +kernel) (by decide +kernel), fa, rs, ua, cRows x, us, _, rfl, hF.same s1, ok.sq, fun H2 ua' hF2 x2 hA2 => ?_⟩
        refine ⟨by decide, fun p hp => ?_⟩
        have s3 : Same H2 (upd H2 p (.lst [.int 0])) := Same.new hp
        have hHp : H p = none := by
          cases q : H p with
          | none => rfl
          | some o =>
            by_cases hpf : p = fa
            · obtain ⟨dx2, ra2, hf2, _⟩ := hF2.obj
              rw [hpf, hf2] at hp
              cases hp
            · rw [x2 _ _ (s1 _ _ q) hpf] at hp
              cases hp
        refine fin _ p rs (k + 1) ?_ (Nat.le_refl _) ?_ hHp ?_ (fun r hr => .inl hr) (fun g hg ht hA => (hA2 g ?_ (hA.same s1)).same s3)
        · rw [hst]
          refine ⟨ua', cRows x, gstep (cRows x) us, ?_, .some (ok.next)⟩
          have := hF2.same s3
          rw [Nat.pow_succ, Int.natCast_mul]
          exact this
        · rw [hst]
          exact upd_same
        · exact fun b o e hb hbr => s3 _ _ (x2 _ _ (s1 _ _ e) hb)
        · intro z
          cases q : H g with
          | none => exact hg q
          | some o => rw [s1 _ _ q] at z; cases z
end
end Fs

end

section
set_option Elab.async false
set_option linter.all false
set_option maxRecDepth 100000
set_option maxHeartbeats 2000000
namespace Fs
open PySem PySem.Spec PyProof.Rows L2
theorem toInts_mem {l : List Nat} {z : Int} (h : z ∈ toInts l) : ∃ n ∈ l, (n : Int) = z := by
  unfold toInts at h
  obtain ⟨n, hn, e⟩ := List.mem_map.mp h
  exact ⟨n, hn, e⟩
theorem mem_toInts {l : List Nat} {n : Nat} (h : n ∈ l) : (n : Int) ∈ toInts l := List.mem_map.mpr ⟨n, h, rfl⟩
theorem all_three (z y v n : Nat) : ((toInts [z, y, v]).all fun u => decide (u < (n : Int))) = (decide (z < n) && (decide (y < n) && decide (v < n))) := by
  show (decide ((z : Int) < (n : Int)) && (decide ((y : Int) < (n : Int)) && (decide ((v : Int) < (n : Int)) && true))) = _
  rw [Bool.and_true, dec_lt_cast, dec_lt_cast, dec_lt_cast]
theorem cRows_moved {x : Kqp4.Land} {us : List Int} {k : Nat} (ok : Ok x us k) {i j q n : Nat} (hi : i < x.fields) (hj : j < x.fields) (hq : q < x.fields) (hn : n ≤ Kqp4.comes x i j) :
    cRows (moved x i j q n) = (cRows x).set i (((cRow x i).set j ((Kqp4.comes x i j : Int) - n)).set q ((Kqp4.comes x i q : Int) + n)) := by
  apply List.ext_getElem?
  intro i'
  by_cases h : i' < x.fields
  · rw [cRows_get (x := moved x i j q n) h, cRow_moved ok hi hj hq hn]
    by_cases e : i' = i
    · rw [if_pos e, e, List.getElem?_set_self (by rw [cRows_length]; exact hi)]
    · rw [if_neg e, List.getElem?_set_ne (fun z => e z.symm), cRows_get h]
  · rw [List.getElem?_eq_none_iff.mpr (by rw [cRows_length]; show x.fields ≤ i'; omega), List.getElem?_eq_none_iff.mpr (by rw [List.length_set, cRows_length]; omega)]
theorem one_each (l : List Nat) (n most : Nat) {m : Int} (hm : (most : Int) = m) : (decide ((toInts l).length = n) && (toInts l).all fun y => decide (y ≤ m)) = (decide (l.length = n) && !l.any fun y => decide (most < y)) := by
  subst hm
  rw [toInts_length]
  congr 1
  rw [Bool.eq_iff_iff, List.all_eq_true, Bool.not_eq_true', ← Bool.not_eq_true, List.any_eq_true]
  constructor
  · rintro h ⟨y, hy, hd⟩
    have := of_decide_eq_true (h _ (mem_toInts hy))
    have := of_decide_eq_true hd
    omega
  · intro h y hy
    obtain ⟨n, hn, rfl⟩ := toInts_mem hy
    refine decide_eq_true ?_
    by_cases z : most < n
    · exact absurd ⟨n, hn, decide_eq_true z⟩ h
    · omega
theorem one_not {l : List Nat} {n most : Nat} (h : (!(decide (l.length = n) && !l.any fun y => decide (most < y))) = true) : l.length ≠ n ∨ (l.any fun y => decide (most < y)) = true := by
  by_cases e : l.length = n
  · right
    rw [decide_eq_true e, Bool.true_and, Bool.not_not] at h
    exact h
  · exact .inl e
theorem one_yes {l : List Nat} {n most : Nat} (h : ¬ (!(decide (l.length = n) && !l.any fun y => decide (most < y))) = true) : l.length = n ∧ (l.any fun y => decide (most < y)) = false := by
  rw [Bool.not_eq_true, Bool.not_eq_false', Bool.and_eq_true, decide_eq_true_iff, Bool.not_eq_true'] at h
  exact h
section
variable {P : Program} {w : World} {K : PySem.W.Frag} {mg : Str → Option Value} {base : Heap} {C : Addr}
theorem sc_ashares : FnScope ["fields", "told"] ["fields", "told"] (defScope s_answer_shares) := ⟨rfl, rfl, rfl, by decide +kernel, rfl, by decide +kernel, by decide +kernel⟩
theorem ok_ashares {f : Addr} {fd : FuncData} (T : Txt K mg C) (F : Fun K "answer_shares" "answer_shares" s_answer_shares f fd) : FnOk P w K mg base CX0 4 f fd ["fields", "told"] (spAnsL C (fun _ => True) fun l => .shares l) := by
  obtain ⟨f1, fd1, F1, b1, m1⟩ := T.d_are_one_each
  obtain ⟨f2, fd2, F2, b2, m2⟩ := T.m_tell_shares
  have G1 : FnOk P w K mg base CX0 2 f1 fd1 ["fields", "told", "most"] (spOne C) := ok_one T F1
  have G2 : FnOk P w K mg base CX0 1 f2 fd2 ["self", "hundredths"] (spTell C) := ok_tell T F2
  obtain ⟨t1, c1⟩ := T.c_NOT_AS_TOLD
  obtain ⟨t2, c2⟩ := T.c_DONE
  obtain ⟨t3, c3⟩ := T.c_HUNDRED
  refine F.ok sc_ashares (fun vs H Q E h => ?_) (fun cdv A outer s H vs Q E hr h => ?_)
  · obtain ⟨_, _, _, _, _, _, _, _, rfl, _⟩ := h
    rfl
  · obtain ⟨fa, t, l, rs, x, k, ua, us, rfl, hT, hl, h60, hts, hO, hF, ok, hk, fin⟩ := h
    have hr1 : Room 1 _ := hr.mono (by decide)
    have hr2 : Room 2 _ := hr.mono (by decide)
    · obtain ⟨dx, ra, h1, h2⟩ := hF.obj
      have h2x := ok.two
      refine ⟨_, pss_cons (ps_if (pt_not (pt_val (pe_call G1 hr2 rfl m1 F1.kp b1 .nil pass0 (pa_cons (pv 0) (pa_cons (pv 1) (pa_cons (pe_glob (v := .int 100) rfl c3 ⟨_, rfl⟩) pa_nil))))))
          (pss_one (ps_ret (pe_lst (pa_cons (pe_glob (v := .int (-22)) rfl c1 ⟨_, rfl⟩) pa_nil)))) pss_nil)
        (pss_cons (ps_expr (pe_meth (pv 0) T.cl m2 G2 hr1 b2 .nil pass0 (pa_cons (pv 1) pa_nil))) (pss_one (ps_ret (pe_lst (pa_cons (pe_glob (v := .int 0) rfl c2 ⟨_, rfl⟩) pa_nil))))), ?_⟩
      have refuse : (l.length ≠ x.fields ∨ l.any (fun n => decide (100 < n)) = true) → ∀ p, H p = none → Q (.ref p) (upd H p (.lst [.int (-22)])) := fun hc p hp => by
        have hst : Kqp4.step (some x) (Kqp4.Call.shares l) = (some x, .num (-22)) := if_pos hc
        exact ans_same fin hO (A' := .num (-22)) (by rw [hst]) (by rw [hst]) (Same.new hp) hp upd_same
      refine ⟨_, rfl, _, rfl, fa, t, 100, rs, ua, cRows x, us, _, toInts l, rfl, hF, hT, (by rw [cRows_length]; omega), _, rfl, ?_⟩
      rw [cRows_length, one_each l x.fields 100 (m := (100 : Int)) rfl]
      refine ite2 (fun hc => ⟨by decide, refuse ?_⟩) (fun hc => ?_)
      · exact one_not hc
      · obtain ⟨hlen, hany⟩ := one_yes hc
        have hst : Kqp4.step (some x) (Kqp4.Call.shares l) = (some { x with shares := l.map fun (n : Nat) => Kqp4.frac n 100 }, .num 0) := if_neg (by
          rintro (z | z)
          · exact z hlen
          · rw [hany] at z
            cases z)
        refine ⟨_, rfl, fa, dx, _, rfl, h1, fF_no _ _ _ (by decide +kernel) (by decide +kernel) (by decide +kernel), _, rfl, fa, t, dx, _, _, _, rfl, h1, ?_⟩
        have x2 : But fa H (upd H fa (.ins C dx (fF (.ref ra) (.ref t) (.int 100)))) := But.upd
        refine ⟨by decide, fun p hp => ?_⟩
        have npf : p ≠ fa := fun e => by rw [e, upd_same] at hp; cases hp
        have hHp : H p = none := by
          rw [upd_ne npf] at hp
          exact hp
        have s3 : Same (upd H fa (.ins C dx (fF (.ref ra) (.ref t) (.int 100)))) (upd (upd H fa (.ins C dx (fF (.ref ra) (.ref t) (.int 100)))) p (.lst [.int 0])) := Same.new hp
        refine fin _ p rs 1 ?_ (by omega) ?_ hHp ?_ (fun r hr => .inl hr) (fun g hg ht hA => ⟨dx, ra, t, _, s3 _ _ upd_same, (hA.get h1).1, ht⟩)
        · rw [hst]
          refine ⟨t, cRows x, toInts l, ⟨⟨dx, ra, s3 _ _ upd_same, (h2.but h1 x2).same s3⟩, s3 _ _ (x2 _ _ hT (ints_ne_ins hT h1)), hF.nd, hts⟩, .some (ok.shares hlen)⟩
        · rw [hst]
          exact upd_same
        · exact fun b o e hb hbr => s3 _ _ (x2 _ _ e hb)
theorem sc_acome : FnScope ["fields", "told", "i", "j", "k", "n"] ["fields", "told"] (defScope s_answer_come) := ⟨rfl, rfl, rfl, by decide +kernel, rfl, by decide +kernel, by decide +kernel⟩
theorem ok_acome {f : Addr} {fd : FuncData} (T : Txt K mg C) (F : Fun K "answer_come" "answer_come" s_answer_come f fd) : FnOk P w K mg base CX0 4 f fd ["fields", "told"] (spAnsL C (fun n => n = 4) fun l => .come (l.getD 0 0) (l.getD 1 0) (l.getD 2 0) (l.getD 3 0)) := by
  obtain ⟨f1, fd1, F1, b1, m1⟩ := T.d_are_fields
  obtain ⟨f2, fd2, F2, b2, m2⟩ := T.m_comers
  obtain ⟨f3, fd3, F3, b3, m3⟩ := T.m_move_comers
  have G1 : FnOk P w K mg base CX0 2 f1 fd1 ["fields", "told"] (spAreF C) := ok_areF T F1
  have G2 : FnOk P w K mg base CX0 1 f2 fd2 ["self", "i", "j"] (spComers C) := ok_comers T F2
  have G3 : FnOk P w K mg base CX0 1 f3 fd3 ["self", "i", "j", "k", "n"] (spMove C) := ok_move T F3
  obtain ⟨t1, c1⟩ := T.c_NOT_AS_TOLD
  obtain ⟨t2, c2⟩ := T.c_NOT_TO_BE_MOVED
  refine F.ok sc_acome (fun vs H Q E h => ?_) (fun cdv A outer s H vs Q E hr h => ?_)
  · obtain ⟨_, _, _, _, _, _, _, _, rfl, _⟩ := h
    rfl
  · obtain ⟨fa, t, l, rs, x, k, ua, us, rfl, hT, hl, h60, hts, hO, hF, ok, hk, fin⟩ := h
    have hr2 : Room 2 _ := hr.mono (by decide)
    have hr1 : Room 1 _ := hr.mono (by decide)
    have nd := sc_acome.nd
    obtain ⟨i, j, q, n, rfl⟩ := len4 hl
    · obtain ⟨dx, ra, h1, h2⟩ := hF.obj
      have hw : ∀ m : Str, (¬ m = "rows") → (¬ m = "uppers") → (¬ m = "common_lower") → (fF (V.ref ra) (V.ref ua) (V.int ((100 ^ k : Nat) : Int))).lookup m = none := fun m a b c => fF_no _ _ _ a b c
      refine ⟨_, pss_cons (ps_set (i := 2) nd rfl (Or.inl rfl) (pe_ix ix_list (pv 1) pe_int (fun _ _ => rfl))) (pss_cons (ps_set (i := 3) nd rfl (Or.inl rfl) (pe_ix ix_list (pv 1) pe_int (fun _ _ => rfl)))
        (pss_cons (ps_set (i := 4) nd rfl (Or.inl rfl) (pe_ix ix_list (pv 1) pe_int (fun _ _ => rfl))) (pss_cons (ps_set (i := 5) nd rfl (Or.inl rfl) (pe_ix ix_list (pv 1) pe_int (fun _ _ => rfl)))
        (pss_cons (ps_if (PW.pt (pw_or (pt_not (pt_val (pe_call G1 hr2 rfl m1 F1.kp b1 .nil pass0 (pa_cons (pv 0) (pa_cons (pe_lst (pa_cons (pv 2) (pa_cons (pv 3) (pa_cons (pv 4) pa_nil)))) pa_nil))))) (pw_or1 (pt_cmpR op_eq (pv 5) pe_int (nomark _)))))
          (pss_one (ps_ret (pe_lst (pa_cons (pe_glob (v := .int (-22)) rfl c1 ⟨_, rfl⟩) pa_nil)))) pss_nil)
        (pss_cons (ps_if (PW.pt (pw_or (pt_cmpR op_eq (pv 3) (pv 4) (nomark _)) (pw_or1 (pt_cmpR op_lt (pe_meth (pv 0) T.cl m2 G2 hr1 b2 .nil pass0 (pa_cons (pv 2) (pa_cons (pv 3) pa_nil))) (pv 5) (nomark _)))))
          (pss_one (ps_ret (pe_lst (pa_cons (pe_glob (v := .int (-12)) rfl c2 ⟨_, rfl⟩) pa_nil)))) pss_nil)
        (pss_cons (ps_expr (pe_meth (pv 0) T.cl m3 G3 hr1 b3 .nil pass0 (pa_cons (pv 2) (pa_cons (pv 3) (pa_cons (pv 4) (pa_cons (pv 5) pa_nil))))))
        (pss_one (ps_ret (pe_lst (pa_cons (pe_meth (pv 0) T.cl m2 G2 hr1 b2 .nil pass0 (pa_cons (pv 2) (pa_cons (pv 4) pa_nil))) pa_nil)))))))))), ?_⟩
      have hst0 : Kqp4.step (some x) (Kqp4.Call.come ([i, j, q, n].getD 0 0) ([i, j, q, n].getD 1 0) ([i, j, q, n].getD 2 0) ([i, j, q, n].getD 3 0)) = (if x.fields ≤ i ∨ x.fields ≤ j ∨ x.fields ≤ q ∨ n = 0 then (some x, Kqp4.Ans.num (-22)) else if j = q ∨ Kqp4.comes x i j < n then (some x, .num (-12)) else (some (moved x i j q n), .num (Kqp4.comes x i q + n : Nat))) := rfl
      refine ⟨_, rfl, t, _, 0, _, rfl, rfl, SqL.of hT, rfl, _, rfl, t, _, 1, _, rfl, rfl, SqL.of hT, rfl, _, rfl, t, _, 2, _, rfl, rfl, SqL.of hT, rfl, _, rfl, t, _, 3, _, rfl, rfl, SqL.of hT, rfl, ?_⟩
      refine ⟨_, rfl, _, rfl, _, rfl, _, rfl, (by show 3 ≤ sizeLine; decide), fun g hg => ?_⟩
      have s1 : Same H (upd H g (.lst [.int i, .int j, .int q])) := Same.new hg
      refine ⟨fa, g, rs, ua, _, us, _, toInts [i, j, q], rfl, hF.same s1, upd_same, (by simp [toInts]), fun H1 s2 => ⟨_, rfl, ?_⟩⟩
      have s12 := s1.trans s2
      rw [all_three, cRows_length]
      have refuse : (x.fields ≤ i ∨ x.fields ≤ j ∨ x.fields ≤ q ∨ n = 0) → ∀ p, H1 p = none → Q (.ref p) (upd H1 p (.lst [.int (-22)])) := fun hc p hp => by
        rw [if_pos hc] at hst0
        exact ans_same fin hO (A' := .num (-22)) (by rw [hst0]) (by rw [hst0]) (s12.trans (Same.new hp)) (s12.free hp) upd_same
      refine ite2 (fun hc => iteT ⟨by decide, refuse ?_⟩) (fun hc => ?_)
      · have : x.fields ≤ i ∨ x.fields ≤ j ∨ x.fields ≤ q := by simpa using hc
        omega
      · have hijq : i < x.fields ∧ j < x.fields ∧ q < x.fields := by simpa using hc
        obtain ⟨hi, hj, hq⟩ := hijq
        refine ⟨_, rfl, rfl, _, rfl, ite2 (fun hc => ⟨by decide, refuse ?_⟩) (fun hc => ?_)⟩
        · have e : V.int (n : Int) = V.int 0 := of_decide_eq_true hc
          have := V.int.inj e
          omega
        · have hn0 : n ≠ 0 := fun e => hc (decide_eq_true (by rw [e]; rfl))
          rw [if_neg (by omega)] at hst0
          have refuse2 : (j = q ∨ Kqp4.comes x i j < n) → ∀ p, H1 p = none → Q (.ref p) (upd H1 p (.lst [.int (-12)])) := fun hc p hp => by
            rw [if_pos hc] at hst0
            exact ans_same fin hO (A' := .num (-12)) (by rw [hst0]) (by rw [hst0]) (s12.trans (Same.new hp)) (s12.free hp) upd_same
          have hF1 := hF.same s12
          have h1' := s12 _ _ h1
          refine ⟨_, rfl, _, rfl, rfl, _, rfl, ite2 (fun hc => iteT ⟨by decide, refuse2 (.inl ?_)⟩) (fun hc => ?_)⟩
          · have e : V.int (j : Int) = V.int (q : Int) := of_decide_eq_true hc
            have := V.int.inj e
            omega
          · have hjq : j ≠ q := fun e => hc (decide_eq_true (by rw [e]))
            refine ⟨_, rfl, fa, dx, _, rfl, h1', hw _ (by decide +kernel) (by decide +kernel) (by decide +kernel), _, rfl, _, rfl, fa, i, j, rs, ua, cRows x, us, _, cRow x i, _, rfl, hF1, cRows_get hi, cRow_get hj, _, rfl, _, _, rfl, rfl, _, rfl, ite2 (fun hc => ⟨by decide, refuse2 (.inr ?_)⟩) (fun hc => ?_)⟩
            · have z : (Kqp4.comes x i j : Int) < (n : Int) := of_decide_eq_true hc
              omega
            · have hn : n ≤ Kqp4.comes x i j := by
                have : ¬ (Kqp4.comes x i j : Int) < (n : Int) := fun z => hc (decide_eq_true z)
                omega
              rw [if_neg (by omega)] at hst0
              obtain ⟨ai, hai⟩ := get_some h2.len (cRows_get (x := x) hi)
              refine ⟨_, rfl, fa, dx, _, rfl, h1', hw _ (by decide +kernel) (by decide +kernel) (by decide +kernel), _, rfl, _, rfl, _, rfl, _, rfl, fa, i, j, q, n, rs, ua, cRows x, us, _, cRow x i, _, _, ai, rfl, hF1, hai, cRows_get hi, cRow_get hj, cRow_get hq, hjq, fun H2 hF2 x2 => ?_⟩
              rw [← cRows_moved ok hi hj hq hn] at hF2
              have ok' := ok.moved hi hj hq hjq hn
              obtain ⟨dx2, ra2, h12, h22⟩ := hF2.obj
              have hcq : (cRow (moved x i j q n) i)[q]? = some ((Kqp4.comes x i q : Int) + n) := by
                rw [cRow_moved ok hi hj hq hn, if_pos rfl, List.getElem?_set_self (by rw [List.length_set, cRow_length]; exact hq)]
              refine ⟨_, rfl, fa, dx2, _, rfl, h12, fF_no _ _ _ (by decide +kernel) (by decide +kernel) (by decide +kernel), _, rfl, _, rfl, fa, i, q, rs, ua, cRows (moved x i j q n), us, _, cRow (moved x i j q n) i, _, rfl, hF2, cRows_get (x := moved x i j q n) hi, hcq, (by show 1 ≤ sizeLine; decide), fun p hp => ?_⟩
              have s3 : Same H2 (upd H2 p (.lst [.int ((Kqp4.comes x i q : Int) + n)])) := Same.new hp
              have nfa : fa ≠ ai := fun e => by
                obtain ⟨r', _, q2⟩ := h2.at_ i ai hai
                have q2' : H ai = _ := q2
                rw [← e, h1] at q2'
                cases q2'
              have hHp : H p = none := by
                cases z : H p with
                | none => rfl
                | some o =>
                  by_cases hpa : p = ai
                  · obtain ⟨r', _, q2⟩ := h22.at_ i ai hai
                    have q2' : H2 ai = _ := q2
                    rw [hpa, q2'] at hp
                    cases hp
                  · rw [x2 _ _ (s12 _ _ z) hpa] at hp
                    cases hp
              refine fin _ p rs k ?_ (by omega) ?_ hHp ?_ (fun r hr => .inl hr) (fun g hg ht hA => ((hA.same s12).but x2 nfa).same s3)
              · rw [hst0]
                exact ⟨ua, _, us, hF2.same s3, .some ok'⟩
              · rw [hst0]
                have e : (((Kqp4.comes x i q + n : Nat)) : Int) = (Kqp4.comes x i q : Int) + n := Int.natCast_add _ _
                show _ = some (HO.lst ([(((Kqp4.comes x i q + n : Nat)) : Int)].map V.int))
                rw [e]
                exact upd_same
              · exact fun b o e hb hbr => s3 _ _ (x2 _ _ (s12 _ _ e) (fun z => hbr (z ▸ List.mem_of_getElem? hai)))
end
end Fs

end

section
set_option Elab.async false
set_option linter.all false
set_option maxRecDepth 100000
set_option maxHeartbeats 2000000
namespace L2
open PySem PySem.Spec PyProof.Rows
theorem lc_rangeC {lo c : Int} {n : Nat} {g : TG} {tt : TT} {te : TE} {vs : List Nat} {σ : St} {H1 : Hp} {D : Addr} {Qd : Hp → Prop} (Pv : Nat → Hp → Prop) (h0 : Pv 0 (upd H1 D (.lst [])))
    (hs : ∀ (i : Nat) (H : Hp), i < n → Pv i H → g (.int (lo + (i : Nat) * c)) (wipe σ vs) H fun σ2 H2 => wipe σ2 vs = wipe σ vs ∧ tt σ2 H2 fun b H3 =>
      if b = true then te σ2 H3 fun y H4 => ∃ acc, H4 D = some (.lst acc) ∧ acc.length < sizeLine ∧ Pv (i + 1) (upd H4 D (.lst (acc ++ [y]))) else Pv (i + 1) H3) (hd : ∀ H, Pv n H → Qd H) :
    ∃ W : Nat → Nat → Hp → Prop, (∃ m, W 0 m (upd H1 D (.lst []))) ∧ ∀ i m H, W i m H →
      ((Itc lo c n).stop i H ∧ Qd H) ∨ ((Itc lo c n).go i H ∧ ∃ Nx : Hp → Prop, (∀ H', Nx H' → ∃ m', m' < m ∧ W (i + 1) m' H') ∧ ∀ x H', (Itc lo c n).yld i H x H' → g x (wipe σ vs) H' fun σ2 H2 => wipe σ2 vs = wipe σ vs ∧ tt σ2 H2 fun b H3 =>
        if b = true then te σ2 H3 fun y H4 => ∃ acc, H4 D = some (.lst acc) ∧ acc.length < sizeLine ∧ Nx (upd H4 D (.lst (acc ++ [y]))) else Nx H3) := by
  refine ⟨fun i m H => m = n - i ∧ i ≤ n ∧ Pv i H, ⟨n, by simp, Nat.zero_le _, h0⟩, ?_⟩
  rintro i m H ⟨rfl, hi, p⟩
  by_cases hlt : i < n
  · refine .inr ⟨hlt, Pv (i + 1), fun H' p' => ⟨n - (i + 1), by omega, rfl, hlt, p'⟩, fun x H' y => ?_⟩
    obtain ⟨e, y⟩ := y
    subst e y
    exact hs i _ hlt p
  · have e : i = n := by omega
    subst e
    exact .inl ⟨Nat.le_refl _, hd H p⟩
end L2
namespace Fs
open PySem PySem.Spec PyProof.Rows L2
noncomputable def tabFields : List (Key × V) := [(Sum.inl 4, .int 2), (Sum.inl 9, .int 3), (Sum.inl 16, .int 4)]
theorem key_ne {a b : Int} (h : ¬ a = b) : ¬ (Sum.inl a : Key) = Sum.inl b := fun e => h (Sum.inl.inj e)
theorem tabF_none {n : Nat} (h : n ≠ 4 ∧ n ≠ 9 ∧ n ≠ 16) : valV tabFields (Sum.inl (n : Int)) = none := by
  unfold tabFields
  rw [valV_neg (key_ne (by omega)), valV_neg (key_ne (by omega)), valV_neg (key_ne (by omega))]
  rfl
theorem root_none {l : List Nat} (h : l.length ≠ 4 ∧ l.length ≠ 9 ∧ l.length ≠ 16) : Kqp4.okFrom l = false := by
  cases e : Kqp4.okFrom l with
  | false => rfl
  | true =>
    have := (okFrom_iff l).mp e
    obtain ⟨c, hl⟩ := root_cases this.1
    rcases c with c | c | c <;> rw [c] at hl <;> omega
theorem chunk_eq {l : List Nat} {n i : Nat} (hr : Kqp4.root l = n) (hl : l.length = n * n) (hi : i < n) : ((toInts l).drop (i * n)).take n = cRow (started l) i := by
  have hf : (started l).fields = n := hr
  have hin : i * n + n ≤ n * n := by
    have := Nat.mul_le_mul_right n (show i + 1 ≤ n from hi)
    rw [Nat.add_mul, Nat.one_mul] at this
    exact this
  apply List.ext_getElem?
  intro j
  by_cases hj : j < n
  · rw [cRow_get (x := started l) (by rw [hf]; exact hj), List.getElem?_take_of_lt hj, List.getElem?_drop]
    have hp : i * n + j < l.length := by omega
    rw [toInts_get (n := l[i * n + j]) (List.getElem?_eq_getElem hp)]
    congr 1
    show ((l[i * n + j] : Nat) : Int) = ((l.getD (i * Kqp4.root l + j) 0 : Nat) : Int)
    rw [hr, List.getD_eq_getElem?_getD, List.getElem?_eq_getElem hp]
    rfl
  · rw [List.getElem?_eq_none_iff.mpr (by rw [List.length_take]; omega), List.getElem?_eq_none_iff.mpr (by rw [cRow_length, hf]; omega)]
theorem sizes {l : List Nat} (h : ¬ (l.length ≠ 4 ∧ l.length ≠ 9 ∧ l.length ≠ 16)) : ∃ n, (n = 2 ∨ n = 3 ∨ n = 4) ∧ l.length = n * n ∧ valV tabFields (Sum.inl (l.length : Int)) = some (.int (n : Int)) ∧ n ≤ 4 ∧ 2 ≤ n := by
  by_cases h4 : l.length = 4
  · exact ⟨2, .inl rfl, h4, by rw [h4]; rfl, by decide, by decide⟩
  · by_cases h9 : l.length = 9
    · exact ⟨3, .inr (.inl rfl), h9, by rw [h9]; rfl, by decide, by decide⟩
    · by_cases h16 : l.length = 16
      · exact ⟨4, .inr (.inr rfl), h16, by rw [h16]; rfl, by decide, by decide⟩
      · exact absurd ⟨h4, h9, h16⟩ h
theorem ecut_start {l : List Nat} {n i : Nat} (hroot : Kqp4.root l = n) (hln : l.length = n * n) (hi : i < n) : cutV ((toInts l).map V.int) (some (0 + (i : Int) * (n : Int))) (some (0 + (i : Int) * (n : Int) + (n : Int))) = (cRow (started l) i).map V.int := by
  have hin : i * n + n ≤ n * n := by
    have := Nat.mul_le_mul_right n (show i + 1 ≤ n from hi)
    rw [Nat.add_mul, Nat.one_mul] at this
    exact this
  have h1 := cut_nat (toInts l) (i * n) (i * n + n) (Nat.le_add_right _ _) (by rw [toInts_length, hln]; exact hin)
  rw [Nat.add_sub_cancel_left, chunk_eq hroot hln hi] at h1
  rw [← h1, Int.natCast_add, Int.natCast_mul, Int.zero_add]
theorem snoc_at {α : Type} {l : List α} {q a : α} {j : Nat} (hj : ¬ j < l.length) (h : (l ++ [q])[j]? = some a) : j = l.length ∧ a = q := by
  rw [List.getElem?_append_right (Nat.le_of_not_lt hj)] at h
  have hz : j - l.length = 0 := Nat.lt_one_iff.mp (List.getElem?_eq_some_iff.mp h).1
  rw [hz] at h
  cases h
  exact ⟨Nat.le_antisymm (Nat.le_of_sub_eq_zero hz) (Nat.le_of_not_lt hj), rfl⟩
theorem sums_any {l : List Nat} (h2r : 2 ≤ Kqp4.root l) : (((cRows (started l)).map fun r => !decide (V.int r.sum = V.int 100)).any id) = !Kqp4.okFrom l := by
  rw [List.any_map, Bool.eq_iff_iff, List.any_eq_true, Bool.not_eq_true', ← Bool.not_eq_true, okFrom_iff]
  constructor
  · rintro ⟨r, hr, hne⟩ ⟨_, hall⟩
    unfold cRows at hr
    obtain ⟨i, hi, er⟩ := List.mem_map.mp hr
    have := hall i (List.mem_range.mp hi)
    rw [er] at this
    simp [this] at hne
  · intro hno
    have : ¬ ∀ i, i < Kqp4.root l → (cRow (started l) i).sum = 100 := fun hall => hno ⟨h2r, hall⟩
    obtain ⟨i, hi⟩ := Classical.not_forall.mp this
    obtain ⟨hi1, hi2⟩ := Classical.not_imp.mp hi
    refine ⟨cRow (started l) i, List.mem_of_getElem? (cRows_get (x := started l) hi1), ?_⟩
    simp [hi2]
theorem rgC_ok {n : Nat} (h : n = 2 ∨ n = 3 ∨ n = 4) : RgC 0 ((n * n : Nat) : Int) (n : Int) n := by
  rcases h with e | e | e <;> subst e <;> exact ⟨by decide, by decide, by decide, by decide⟩
section
variable {P : Program} {w : World} {K : PySem.W.Frag} {mg : Str → Option Value} {base : Heap} {C : Addr}
theorem sc_astart : FnScope ["fields", "told", "size", "rows", "at", "row"] ["fields", "told"] (defScope s_answer_start) := ⟨rfl, rfl, rfl, by decide +kernel, rfl, by decide +kernel, by decide +kernel⟩
theorem ok_astart {f : Addr} {fd : FuncData} (T : Txt K mg C) (F : Fun K "answer_start" "answer_start" s_answer_start f fd) : FnOk P w K mg base CX0 4 f fd ["fields", "told"] (spAns C true (fun _ => True) fun l => .start l) := by
  obtain ⟨f1, fd1, F1, b1, m1⟩ := T.m_begin
  have G1 : FnOk P w K mg base CX0 2 f1 fd1 ["self", "rows"] (spBegin C) := ok_begin T F1
  obtain ⟨t1, c1⟩ := T.c_NOT_AS_TOLD
  obtain ⟨t3, c3⟩ := T.c_HUNDRED
  obtain ⟨dF, mF, tF⟩ := T.t_FIELDS_BY_LENGTH
  refine F.ok sc_astart (fun vs H Q E h => ?_) (fun cdv A outer s H vs Q E hr h => ?_)
  · obtain ⟨_, _, _, _, _, _, rfl, _⟩ := h
    rfl
  · obtain ⟨fa, t, l, rs, s', k, rfl, hT, hl, h60, hts, hO, hs, hk, fin⟩ := h
    have hr2 : Room 2 _ := hr.mono (by decide)
    have nd := sc_astart.nd
    have hst0 : Kqp4.step s' (Kqp4.Call.start l) = (if Kqp4.okFrom l = false then (s', Kqp4.Ans.num (-22)) else (some (started l), .num (Kqp4.root l))) := by cases s' <;> rfl
    refine ⟨_, pss_cons (ps_if (pt_cmp (pc_knotin tF (pe_callB call_len_seq (by rfl) T.b_len PySem.boot_len (pa_cons (pv 1) pa_nil)) (pe_glob (v := .ref dF) rfl mF rfl))) (pss_one (ps_ret (pe_lst (pa_cons (pe_glob (v := .int (-22)) rfl c1 ⟨_, rfl⟩) pa_nil)))) pss_nil)
      (pss_cons (ps_set (i := 2) nd rfl (Or.inr rfl) (pe_kget tF (pe_glob (v := .ref dF) rfl mF rfl) (pe_callB call_len_seq (by rfl) T.b_len PySem.boot_len (pa_cons (pv 1) pa_nil)) (fun _ _ => rfl)))
      (pss_cons (ps_setLc (te := tSl (rSlL K) (tVar 1) (tPart (tVar 4)) (tPart (tOp (rI0 fun i j => .int (i + j)) (tVar 4) (tVar 2)))) (i := 3) rfl nd rfl rfl (sw_true rfl rfl rfl rfl)
          (pi_range3 rfl T.b_range (pa_cons pe_int (pa_cons (pe_callB call_len_seq (by rfl) T.b_len PySem.boot_len (pa_cons (pv 1) pa_nil)) (pa_cons (pv 2) pa_nil)))) (blkOk_by (own := [("at", 4)]) (by rfl))
          (fun _ _ _ _ _ => pg_name (i := 4) nd rfl (Or.inl rfl)) (fun _ _ _ _ _ => pts_nil) (fun _ _ _ _ _ => pe_slice sl_list (pv 1) (po_some (pv 4)) (po_some (pe_op op_add (pv 4) (pv 2)))))
      (pss_cons (ps_if (pt_val (pe_callB (call_anyB rfl) (by rfl) T.b_any (by decide +kernel) (pa_cons
          (pe_lc (te := tOp rNe (tCB (rSumI K) (tCons (tVar 5) tNil)) (tC (.int 100))) rfl nd (pi_list (pv 3)) (blkOk_by (own := [("row", 5)]) (by rfl))
            (fun _ _ _ _ _ => pg_name (i := 5) nd rfl (Or.inl rfl)) (fun _ _ _ _ _ => pts_nil) (fun _ _ _ _ _ => pe_cmpR op_ne (pe_callB (call_sumI rfl) (by rfl) T.b_sum (by decide +kernel) (pa_cons (pv 5) pa_nil)) (pe_glob (v := .int 100) rfl c3 ⟨_, rfl⟩) (nomark _))) pa_nil)))
          (pss_one (ps_ret (pe_lst (pa_cons (pe_glob (v := .int (-22)) rfl c1 ⟨_, rfl⟩) pa_nil)))) pss_nil)
      (pss_cons (ps_expr (pe_meth (pv 0) T.cl m1 G1 hr2 b1 .nil pass0 (pa_cons (pv 3) pa_nil)))
      (pss_one (ps_ret (pe_lst (pa_cons (pv 2) pa_nil)))))))), ?_⟩
    have refuse : Kqp4.okFrom l = false → ∀ H1, Same H H1 → ∀ p, H1 p = none → Q (.ref p) (upd H1 p (.lst [.int (-22)])) := fun hc H1 s1 p hp => by
      rw [if_pos hc] at hst0
      exact ans_same fin hO (A' := .num (-22)) (by rw [hst0]) (by rw [hst0]) (s1.trans (Same.new hp)) (s1.free hp) upd_same
    refine ⟨_, rfl, t, _, rfl, .inl (SqL.of hT), _, rfl, rfl, _, rfl, ?_⟩
    rw [List.length_map, toInts_length]
    by_cases hlen : l.length ≠ 4 ∧ l.length ≠ 9 ∧ l.length ≠ 16
    · have e := tabF_none hlen
      refine ite2 (fun hc => ⟨by decide, refuse (root_none hlen) H (Same.refl H)⟩) (fun hc => absurd ?_ hc)
      show (if true = true then !(valV tabFields (Sum.inl (l.length : Int))).isSome else _) = true
      rw [e]
      rfl
    · obtain ⟨n, hn, hln, e, hn4, hn2⟩ := sizes hlen
      have hroot : Kqp4.root l = n := root_of hn hln
      refine ite2 (fun hc => absurd hc ?_) (fun hc => ?_)
      · show ¬ (if true = true then !(valV tabFields (Sum.inl (l.length : Int))).isSome else _) = true
        rw [e]
        exact Bool.false_ne_true
      · refine ⟨_, rfl, t, _, rfl, .inl (SqL.of hT), _, _, rfl, rfl, (by rw [List.length_map, toInts_length]; exact e), ?_⟩
        refine ⟨_, rfl, t, _, rfl, .inl (SqL.of hT), _, rfl, 0, (((toInts l).map V.int).length : Int), (n : Int), n, rfl, ?_, fun D hD => ?_⟩
        · rw [List.length_map, toInts_length, hln]
          exact rgC_ok hn
        · refine lc_rangeC (fun i H' => Same H H' ∧ ∃ as : List Addr, H' D = some (.lst (as.map V.ref)) ∧ as.length = i ∧ as.Nodup ∧ (∀ a ∈ as, H a = none ∧ a ≠ D) ∧ ∀ (j : Nat) (a : Addr), as[j]? = some a → IntsAt H' a (cRow (started l) j))
            ⟨Same.new hD, [], upd_same, rfl, List.nodup_nil, (fun a ha => nomatch ha), fun j a hj => by simp at hj⟩ ?_ ?_
          · rintro i H1 hi ⟨s1, as, hD1, hlas, hnd, hfr, hat⟩
            refine ⟨rfl, ?_⟩
            unfold tYes
            refine iteT ?_
            refine ⟨_, rfl, _, rfl, _, rfl, _, rfl, _, rfl, _, _, rfl, rfl, _, rfl, t, _, rfl, SqL.of (s1 _ _ hT), fun q hq => ?_⟩
            have ecut := ecut_start hroot hln hi
            rw [ecut]
            have nqD : q ≠ D := fun z => by rw [z, hD1] at hq; cases hq
            refine ⟨_, (Same.new hq) _ _ hD1, (by rw [List.length_map, hlas]; exact small1000 (Nat.le_trans (Nat.le_of_lt hi) (Nat.le_trans hn4 (by decide)))), fun b o eb => ?_, as ++ [q], ?_, ?_, ?_, ?_, ?_⟩
            · rw [upd_ne (ne_of_none eb hD)]
              exact (Same.new hq) _ _ (s1 _ _ eb)
            · rw [upd_same, List.map_append]
              rfl
            · rw [List.length_append, hlas]
              rfl
            · exact nd_snoc hnd (fun hm => by
                obtain ⟨j, hj⟩ := List.getElem?_of_mem hm
                have z : H1 q = _ := hat j q hj
                rw [hq] at z
                cases z)
            · intro a ha
              rcases List.mem_append.mp ha with z | z
              · exact hfr a z
              · rw [List.mem_singleton.mp z]
                exact ⟨s1.free hq, nqD⟩
            · intro j a hj
              by_cases hjl : j < as.length
              · rw [List.getElem?_append_left hjl] at hj
                show _ = some _
                rw [upd_ne (hfr a (List.mem_of_getElem? hj)).2]
                exact (Same.new hq) _ _ (hat j a hj)
              · obtain ⟨ej, ea⟩ := snoc_at hjl hj
                rw [ej, ea, hlas]
                show _ = some _
                rw [upd_ne nqD, upd_same]
          · rintro H2 ⟨s2, as, hD2, hlas, hnd, hfr, hat⟩
            have hR : RowsAt H2 D as (cRows (started l)) := ⟨hD2, by rw [hlas, cRows_length]; exact hroot.symm, fun j a hj => ⟨_, cRows_get (by
              rw [show (started l).fields = n from hroot, ← hlas]
              exact (List.getElem?_eq_some_iff.mp hj).1), hat j a hj⟩⟩
            have hlr : (cRows (started l)).length = n := by rw [cRows_length]; exact hroot
            refine ⟨_, rfl, D, rfl, ⟨_, SqL.of hD2⟩, fun D2 hDD => lc_mapL (ys := ((cRows (started l)).map fun r => !decide (V.int r.sum = V.int 100)).map V.bl) hDD (SqL.of hD2) ?_ ?_ (fun j x y H3 R hx hy s3 hRR => ?_) (fun H3 s3 hD3 => ?_)⟩
            · rw [List.length_map, List.length_map, List.length_map, hlr, hlas]
            · rw [List.length_map, hlas]
              exact small_line (Nat.le_trans hn4 (by decide))
            · obtain ⟨a, ha, rfl⟩ := map_get hx
              obtain ⟨y1, hy1, rfl⟩ := map_get hy
              obtain ⟨r, hr1, hr2'⟩ := hR.at_ j a ha
              rw [List.getElem?_map, hr1] at hy1
              cases hy1
              exact ⟨rfl, _, rfl, a, r, rfl, SqL.of (s3 _ _ hr2'), rfl, hRR H3 (Same.refl H3)⟩
            · refine ⟨D2, _, rfl, SqL.of hD3, _, rfl, ?_⟩
              have s23 := s2.trans s3
              have hok := sums_any (by rw [hroot]; exact hn2)
              rw [hok]
              refine ite2 (fun hc => ⟨by decide, refuse (by simpa using hc) H3 s23⟩) (fun hc => ?_)
              have hokT : Kqp4.okFrom l = true := by simpa using hc
              rw [if_neg (by rw [hokT]; decide)] at hst0
              obtain ⟨ua, rows, us, hF, hSt⟩ := hO.ex
              obtain ⟨dx, ra, h1, h2⟩ := hF.obj
              refine ⟨_, rfl, fa, dx, _, rfl, s23 _ _ h1, fF_no _ _ _ (by decide +kernel) (by decide +kernel) (by decide +kernel), _, rfl, fa, D, dx, _, _, _, as, cRows (started l), rfl, s23 _ _ h1, hR.same s3, hnd, (by omega), fun H4 ua4 hF4 x4 hua4 hA4 => ?_⟩
              refine ⟨_, rfl, (by show 1 ≤ sizeLine; decide), fun p hp => ?_⟩
              have s5 : Same H4 (upd H4 p (.lst [.int (n : Int)])) := Same.new hp
              have hHp : H p = none := by
                cases z : H p with
                | none => rfl
                | some o =>
                  by_cases hpf : p = fa
                  · obtain ⟨dx4, ra4, hf4, _⟩ := hF4.obj
                    rw [hpf, hf4] at hp
                    cases hp
                  · rw [x4 _ _ (s23 _ _ z) hpf] at hp
                    cases hp
              refine fin _ p as 1 ?_ (by omega) ?_ hHp ?_ (fun r hr => .inr (hfr r hr).1) (fun g hg ht hA => (hA4 g ?_ ?_).same s5)
              · rw [hst0]
                refine ⟨ua4, _, _, hF4.same s5, ?_⟩
                have := StRel.some (Ok.started hokT)
                rw [hroot] at this
                rw [hlr]
                exact this
              · rw [hst0, hroot]
                exact upd_same
              · exact fun b o eb hb hbr => s5 _ _ (x4 _ _ (s23 _ _ eb) hb)
              · intro z
                cases zz : H g with
                | none => exact hg zz
                | some o => rw [s23 _ _ zz] at z; cases z
              · intro z
                rw [← z] at hg
                exact hg hD
end
end Fs

end

section
set_option Elab.async false
set_option linter.all false
set_option maxRecDepth 100000
set_option maxHeartbeats 2000000
namespace Fs
open PySem PySem.Spec PyProof.Rows L2
theorem mixed_swap (x : Kqp4.Land) (n : Nat) : ((List.range (cRows x).length).all fun j => (gens (cRows x) n (unit (cRows x).length j)).all fun y => decide (0 < y)) = ((List.range x.fields).all fun i => (List.range x.fields).all fun j => decide (0 < foreN x n i j)) := by
  have hlen : ∀ j, (gens (cRows x) n (unit x.fields j)).length = x.fields := fun j => by
    rw [gens_length _ _ (by rw [unit_length, cRows_length]), cRows_length]
  rw [cRows_length, Bool.eq_iff_iff, List.all_eq_true, List.all_eq_true]
  constructor
  · intro h i hi
    rw [List.all_eq_true]
    intro j hj
    have := List.all_eq_true.mp (h j hj)
    exact this _ (List.mem_of_getElem? (foreN_get x n i j (List.mem_range.mp hi)))
  · intro h j hj
    rw [List.all_eq_true]
    intro y hy
    obtain ⟨i, hi⟩ := List.getElem?_of_mem hy
    have hif : i < x.fields := by
      have := (List.getElem?_eq_some_iff.mp hi).1
      rw [hlen] at this
      exact this
    have e := foreN_get x n i j hif
    rw [hi] at e
    rw [Option.some.inj e]
    exact List.all_eq_true.mp (h i (List.mem_range.mpr hif)) j hj
theorem keeps_dot {x : Kqp4.Land} {v : List Nat} (hv : v.length = x.fields) (j : Nat) (hj : j < x.fields) : dot (toInts v) ((cRows x).map fun r => r.getD j 0) = ((List.range x.fields).map fun i => ((v.getD i 0 : Nat) : Int) * (Kqp4.comes x i j : Int)).sum := by
  unfold dot
  rw [zip_range (fun a b => a * b) (l := toInts v) (m := (cRows x).map fun r => r.getD j 0) (n := x.fields) (by rw [toInts_length]; exact hv) (by rw [List.length_map, cRows_length]) _ fun i a b ha hb => ?_]
  obtain ⟨r, hr, rfl⟩ := map_get hb
  have hi : i < x.fields := by
    have := (List.getElem?_eq_some_iff.mp hr).1
    rw [cRows_length] at this
    exact this
  rw [cRows_get hi] at hr
  cases hr
  unfold toInts at ha
  obtain ⟨z, hz, rfl⟩ := map_get ha
  rw [List.getD_eq_getElem?_getD, List.getD_eq_getElem?_getD, hz, cRow_get hj]
  rfl
theorem keeps_all {x : Kqp4.Land} {v : List Nat} (hv : v.length = x.fields) : ((List.range (cRows x).length).all fun j => decide (dot (toInts v) ((cRows x).map fun r => r.getD j 0) = 100 * (toInts v).getD j 0)) = Kqp4.keeps x v := by
  rw [keeps_eq, cRows_length]
  refine all_congr fun j hj => ?_
  rw [keeps_dot hv j (List.mem_range.mp hj)]
  have e : (toInts v).getD j 0 = ((v.getD j 0 : Nat) : Int) := by
    rw [List.getD_eq_getElem?_getD, List.getD_eq_getElem?_getD]
    unfold toInts
    rw [List.getElem?_map]
    cases v[j]? <;> rfl
  rw [e]
theorem weights_small {l : List Nat} (h : (l.any fun n => decide (1000 < n)) = false) : ∀ x ∈ toInts l, -(2 ^ 64) < x ∧ x < (2 : Int) ^ 64 := fun y hy => by
  obtain ⟨n, hn, rfl⟩ := toInts_mem hy
  have : ¬ 1000 < n := fun z => by
    have this : (l.any fun n => decide (1000 < n)) = true := List.any_eq_true.mpr ⟨n, hn, decide_eq_true z⟩
    rw [h] at this
    cases this
  omega
section
variable {P : Program} {w : World} {K : PySem.W.Frag} {mg : Str → Option Value} {base : Heap} {C : Addr}
theorem sc_areach : FnScope ["fields", "told", "n"] ["fields", "told"] (defScope s_answer_reach) := ⟨rfl, rfl, rfl, by decide +kernel, rfl, by decide +kernel, by decide +kernel⟩
theorem ok_areach {f : Addr} {fd : FuncData} (T : Txt K mg C) (F : Fun K "answer_reach" "answer_reach" s_answer_reach f fd) : FnOk P w K mg base CX0 5 f fd ["fields", "told"] (spAnsL C (fun n => n = 2) fun l => .reach (l.getD 0 0) (l.getD 1 0)) := by
  obtain ⟨f1, fd1, F1, b1, m1⟩ := T.d_are_fields
  obtain ⟨f2, fd2, F2, b2, m2⟩ := T.m_has_some_after
  obtain ⟨f3, fd3, F3, b3, m3⟩ := T.d_first_time
  have G1 : FnOk P w K mg base CX0 2 f1 fd1 ["fields", "told"] (spAreF C) := ok_areF T F1
  have G2 : FnOk P w K mg base CX0 4 f2 fd2 ["self", "n", "i", "j"] (spSome C) := ok_some T F2
  have G3 : FnOk P w K mg base CX0 1 f3 fd3 ["by_generation"] spFirstT := ok_firstT T F3
  obtain ⟨t1, c1⟩ := T.c_NOT_AS_TOLD
  obtain ⟨t2, c2⟩ := T.c_MOST_GENERATIONS
  refine F.ok sc_areach (fun vs H Q E h => ?_) (fun cdv A outer s H vs Q E hr h => ?_)
  · obtain ⟨_, _, _, _, _, _, _, _, rfl, _⟩ := h
    rfl
  · obtain ⟨fa, t, l, rs, x, k, ua, us, rfl, hT, hl, h60, hts, hO, hF, ok, hk, fin⟩ := h
    have hr2 : Room 2 _ := hr.mono (by decide)
    have hr1 : Room 1 _ := hr.mono (by decide)
    have nd := sc_areach.nd
    obtain ⟨i, j, rfl⟩ := len2 hl
    · obtain ⟨dx, ra, h1, h2⟩ := hF.obj
      have e1 : (Kqp4.step (some x) (Kqp4.Call.reach ([i, j].getD 0 0) ([i, j].getD 1 0))).1 = some x := rfl
      refine ⟨_, pss_cons (ps_if (pt_not (pt_val (pe_call G1 hr2 rfl m1 F1.kp b1 .nil pass0 (pa_cons (pv 0) (pa_cons (pv 1) pa_nil))))) (pss_one (ps_ret (pe_lst (pa_cons (pe_glob (v := .int (-22)) rfl c1 ⟨_, rfl⟩) pa_nil)))) pss_nil)
        (pss_one (ps_ret (pe_call G3 hr1 rfl m3 F3.kp b3 .nil pass0 (pa_cons
          (pe_lc (te := tMeth C "has_some_after" (spSome C) [] E0 (tVar 0) (tCons (tVar 2) (tCons (tOp (rIxL K) (tVar 1) (tC (.int 0))) (tCons (tOp (rIxL K) (tVar 1) (tC (.int 1))) tNil)))) rfl nd (pi_range1 rfl T.b_range (pa_cons (pe_op op_add (pe_glob (v := .int 4) rfl c2 ⟨_, rfl⟩) pe_int) pa_nil)) (blkOk_by (own := [("n", 2)]) (by rfl))
            (fun _ _ _ _ _ => pg_name (i := 2) nd rfl (Or.inl rfl)) (fun _ _ _ _ _ => pts_nil)
            (fun _ _ _ _ _ => pe_meth (pv 0) T.cl m2 G2 hr b2 .nil pass0 (pa_cons (pv 2) (pa_cons (pe_ix ix_list (pv 1) pe_int (fun _ _ => rfl)) (pa_cons (pe_ix ix_list (pv 1) pe_int (fun _ _ => rfl)) pa_nil))))) pa_nil)))), ?_⟩
      refine ⟨_, rfl, _, rfl, fa, t, rs, ua, _, us, _, _, rfl, hF, hT, (by simp [toInts]), fun H1 s1 => ⟨_, rfl, ?_⟩⟩
      rw [all_two, cRows_length]
      refine ite2 (fun hc => ⟨by decide, fun p hp => ans_same fin hO e1 (A' := .num (-22)) ?_ (s1.trans (Same.new hp)) (s1.free hp) upd_same⟩) (fun hc => ?_)
      · have : x.fields ≤ i ∨ x.fields ≤ j := by simpa using hc
        exact if_pos this
      · have hij : i < x.fields ∧ j < x.fields := by simpa using hc
        refine ⟨_, _, rfl, rfl, (5 : Int), rfl, (by decide), (by decide), fun D hD => lc_mapR (n := 5) (ys := ((List.range 5).map fun n => decide (0 < foreN x n i j)).map V.bl) hD rfl (small_line (by decide)) (fun n y H2 R hn hy s2 hRR => ?_) (fun H2 s2 hD2 => ?_)⟩
        · obtain ⟨y1, hy1, rfl⟩ := map_get hy
          obtain ⟨rfl, _⟩ := range_map_get hy1
          have s12 := s1.trans s2
          refine ⟨rfl, _, rfl, fa, dx, _, rfl, s12 _ _ h1, fF_no _ _ _ (by decide +kernel) (by decide +kernel) (by decide +kernel), _, rfl, _, rfl, t, _, 0, _, rfl, rfl, SqL.of (s12 _ _ hT), rfl, _, rfl, t, _, 1, _, rfl, rfl, SqL.of (s12 _ _ hT), rfl, fa, n, i, j, rs, ua, cRows x, us, _, foreN x n i j, ?_, hF.same s12, ok.sq, (by omega), ?_, fun H3 s3 => hRR H3 s3⟩
          · show [V.ref fa, V.int (0 + (n : Int)), V.int (i : Int), V.int (j : Int)] = _
            rw [Int.zero_add]
          · rw [cRows_length]
            exact foreN_get x n i j hij.1
        · refine ⟨D, _, rfl, hD2, fun H3 p s3 hp hL => ?_⟩
          refine ans_same fin hO e1 (A' := .num (firstT ((List.range 5).map fun n => decide (0 < foreN x n i j)))) ?_ (s1.trans (s2.trans s3)) ((s1.trans s2).free hp) hL
          rw [firstT_range, ← reach_eq x i j hij.1]
          exact if_neg (show ¬ (x.fields ≤ i ∨ x.fields ≤ j) by omega)
theorem sc_amixed : FnScope ["fields", "told", "n"] ["fields", "told"] (defScope s_answer_mixed) := ⟨rfl, rfl, rfl, by decide +kernel, rfl, by decide +kernel, by decide +kernel⟩
theorem ok_amixed {f : Addr} {fd : FuncData} (T : Txt K mg C) (F : Fun K "answer_mixed" "answer_mixed" s_answer_mixed f fd) : FnOk P w K mg base CX0 5 f fd ["fields", "told"] (spAnsL C (fun n => n = 0) fun _ => .mixed) := by
  obtain ⟨f2, fd2, F2, b2, m2⟩ := T.m_is_mixed_after
  obtain ⟨f3, fd3, F3, b3, m3⟩ := T.d_first_time
  have G2 : FnOk P w K mg base CX0 4 f2 fd2 ["self", "n"] (spMixed C) := ok_mixed T F2
  have G3 : FnOk P w K mg base CX0 1 f3 fd3 ["by_generation"] spFirstT := ok_firstT T F3
  obtain ⟨t2, c2⟩ := T.c_MOST_GENERATIONS
  refine F.ok sc_amixed (fun vs H Q E h => ?_) (fun cdv A outer s H vs Q E hr h => ?_)
  · obtain ⟨_, _, _, _, _, _, _, _, rfl, _⟩ := h
    rfl
  · obtain ⟨fa, t, l, rs, x, k, ua, us, rfl, hT, hl, h60, hts, hO, hF, ok, hk, fin⟩ := h
    have hr1 : Room 1 _ := hr.mono (by decide)
    have nd := sc_amixed.nd
    · obtain ⟨dx, ra, h1, h2⟩ := hF.obj
      refine ⟨_, pss_one (ps_ret (pe_call G3 hr1 rfl m3 F3.kp b3 .nil pass0 (pa_cons
          (pe_lc rfl nd (pi_range1 rfl T.b_range (pa_cons (pe_op op_add (pe_glob (v := .int 4) rfl c2 ⟨_, rfl⟩) pe_int) pa_nil)) (blkOk_by (own := [("n", 2)]) (by rfl))
            (fun _ _ _ _ _ => pg_name (i := 2) nd rfl (Or.inl rfl)) (fun _ _ _ _ _ => pts_nil)
            (fun _ _ _ _ _ => pe_meth (pv 0) T.cl m2 G2 hr b2 .nil pass0 (pa_cons (pv 2) pa_nil))) pa_nil))), ?_⟩
      refine ⟨_, _, rfl, rfl, (5 : Int), rfl, (by decide), (by decide), fun D hD => lc_mapR (n := 5) (ys := ((List.range 5).map fun n => (List.range x.fields).all fun i => (List.range x.fields).all fun j => decide (0 < foreN x n i j)).map V.bl) hD rfl (small_line (by decide)) (fun n y H2 R hn hy s2 hRR => ?_) (fun H2 s2 hD2 => ?_)⟩
      · obtain ⟨y1, hy1, rfl⟩ := map_get hy
        obtain ⟨rfl, _⟩ := range_map_get hy1
        refine ⟨rfl, _, rfl, fa, dx, _, rfl, s2 _ _ h1, fF_no _ _ _ (by decide +kernel) (by decide +kernel) (by decide +kernel), _, rfl, fa, n, rs, ua, cRows x, us, _, ?_, hF.same s2, ok.sq, (by omega), fun H3 s3 => ?_⟩
        · show [V.ref fa, V.int (0 + (n : Int))] = _
          rw [Int.zero_add]
        · rw [mixed_swap]
          exact hRR H3 s3
      · refine ⟨D, _, rfl, hD2, fun H3 p s3 hp hL => ?_⟩
        refine ans_same fin hO rfl (A' := .num (firstT ((List.range 5).map fun n => (List.range x.fields).all fun i => (List.range x.fields).all fun j => decide (0 < foreN x n i j)))) ?_ (s2.trans s3) (s2.free hp) hL
        rw [firstT_range, ← mixed_eq x]
        rfl
theorem sc_akeeps : FnScope ["fields", "told"] ["fields", "told"] (defScope s_answer_keeps) := ⟨rfl, rfl, rfl, by decide +kernel, rfl, by decide +kernel, by decide +kernel⟩
theorem ok_akeeps {f : Addr} {fd : FuncData} (T : Txt K mg C) (F : Fun K "answer_keeps" "answer_keeps" s_answer_keeps f fd) : FnOk P w K mg base CX0 5 f fd ["fields", "told"] (spAnsL C (fun _ => True) fun l => .keeps l) := by
  obtain ⟨f1, fd1, F1, b1, m1⟩ := T.d_are_one_each
  obtain ⟨f2, fd2, F2, b2, m2⟩ := T.m_are_keeping
  have G1 : FnOk P w K mg base CX0 2 f1 fd1 ["fields", "told", "most"] (spOne C) := ok_one T F1
  have G2 : FnOk P w K mg base CX0 2 f2 fd2 ["self", "weights"] (spKeeps C) := ok_keeps T F2
  obtain ⟨t1, c1⟩ := T.c_NOT_AS_TOLD
  obtain ⟨t3, c3⟩ := T.c_MOST_WEIGHT
  refine F.ok sc_akeeps (fun vs H Q E h => ?_) (fun cdv A outer s H vs Q E hr h => ?_)
  · obtain ⟨_, _, _, _, _, _, _, _, rfl, _⟩ := h
    rfl
  · obtain ⟨fa, t, l, rs, x, k, ua, us, rfl, hT, hl, h60, hts, hO, hF, ok, hk, fin⟩ := h
    have hr2 : Room 2 _ := hr.mono (by decide)
    · obtain ⟨dx, ra, h1, h2⟩ := hF.obj
      have h2x := ok.two
      have e1 : (Kqp4.step (some x) (Kqp4.Call.keeps l)).1 = some x := rfl
      refine ⟨_, pss_cons (ps_if (pt_not (pt_val (pe_call G1 hr2 rfl m1 F1.kp b1 .nil pass0 (pa_cons (pv 0) (pa_cons (pv 1) (pa_cons (pe_glob (v := .int 1000) rfl c3 ⟨_, rfl⟩) pa_nil)))))) (pss_one (ps_ret (pe_lst (pa_cons (pe_glob (v := .int (-22)) rfl c1 ⟨_, rfl⟩) pa_nil)))) pss_nil)
        (pss_one (ps_ret (pe_lst (pa_cons (pe_ifExp (pt_val (pe_meth (pv 0) T.cl m2 G2 hr2 b2 .nil pass0 (pa_cons (pv 1) pa_nil))) pe_int pe_int) pa_nil)))), ?_⟩
      refine ⟨_, rfl, _, rfl, fa, t, 1000, rs, ua, cRows x, us, _, toInts l, rfl, hF, hT, (by rw [cRows_length]; omega), _, rfl, ?_⟩
      rw [cRows_length, one_each l x.fields 1000 (m := (1000 : Int)) rfl]
      refine ite2 (fun hc => ⟨by decide, fun p hp => ans_same fin hO e1 (A' := .num (-22)) (if_pos (one_not hc)) (Same.new hp) hp upd_same⟩) (fun hc => ?_)
      obtain ⟨hlen, hany⟩ := one_yes hc
      have e2 : (Kqp4.step (some x) (Kqp4.Call.keeps l)).2 = .num (if Kqp4.keeps x l then 1 else 0) := if_neg (by
        rintro (z | z)
        · exact z hlen
        · rw [hany] at z
          cases z)
      refine ⟨_, rfl, fa, dx, _, rfl, h1, fF_no _ _ _ (by decide +kernel) (by decide +kernel) (by decide +kernel), _, rfl, fa, t, rs, ua, cRows x, us, _, toInts l, rfl, hF, ok.sq, hT, (by rw [toInts_length, cRows_length]; exact hlen), weights_small hany, fun H1 s1 => ⟨_, rfl, ?_⟩⟩
      rw [keeps_all hlen]
      refine ite2 (fun hc => ?_) (fun hc => ?_)
      · refine ⟨(by show 1 ≤ sizeLine; decide), fun p hp => ans_same fin hO e1 (A' := .num 1) ?_ (s1.trans (Same.new hp)) (s1.free hp) upd_same⟩
        rw [e2, if_pos hc]
      · refine ⟨(by show 1 ≤ sizeLine; decide), fun p hp => ans_same fin hO e1 (A' := .num 0) ?_ (s1.trans (Same.new hp)) (s1.free hp) upd_same⟩
        rw [e2, if_neg hc]
theorem sc_aweighed : FnScope ["fields", "told"] ["fields", "told"] (defScope s_answer_weighed) := ⟨rfl, rfl, rfl, by decide +kernel, rfl, by decide +kernel, by decide +kernel⟩
theorem ok_aweighed {f : Addr} {fd : FuncData} (T : Txt K mg C) (F : Fun K "answer_weighed" "answer_weighed" s_answer_weighed f fd) : FnOk P w K mg base CX0 5 f fd ["fields", "told"] (spAnsL C (fun _ => True) fun l => .weighed l) := by
  obtain ⟨f1, fd1, F1, b1, m1⟩ := T.d_are_one_each
  obtain ⟨f2, fd2, F2, b2, m2⟩ := T.m_weighed
  have G1 : FnOk P w K mg base CX0 2 f1 fd1 ["fields", "told", "most"] (spOne C) := ok_one T F1
  have G2 : FnOk P w K mg base CX0 3 f2 fd2 ["self", "weights"] (spWeighed C) := ok_weighed T F2
  obtain ⟨t1, c1⟩ := T.c_NOT_AS_TOLD
  obtain ⟨t2, c2⟩ := T.c_DONE
  obtain ⟨t3, c3⟩ := T.c_MOST_WEIGHT
  refine F.ok sc_aweighed (fun vs H Q E h => ?_) (fun cdv A outer s H vs Q E hr h => ?_)
  · obtain ⟨_, _, _, _, _, _, _, _, rfl, _⟩ := h
    rfl
  · obtain ⟨fa, t, l, rs, x, k, ua, us, rfl, hT, hl, h60, hts, hO, hF, ok, hk, fin⟩ := h
    have hr2 : Room 2 _ := hr.mono (by decide)
    have hr3 : Room 3 _ := hr.mono (by decide)
    · obtain ⟨dx, ra, h1, h2⟩ := hF.obj
      have h2x := ok.two
      have h4x := ok.four
      have e1 : (Kqp4.step (some x) (Kqp4.Call.weighed l)).1 = some x := rfl
      refine ⟨_, pss_cons (ps_if (pt_not (pt_val (pe_call G1 hr2 rfl m1 F1.kp b1 .nil pass0 (pa_cons (pv 0) (pa_cons (pv 1) (pa_cons (pe_glob (v := .int 1000) rfl c3 ⟨_, rfl⟩) pa_nil)))))) (pss_one (ps_ret (pe_lst (pa_cons (pe_glob (v := .int (-22)) rfl c1 ⟨_, rfl⟩) pa_nil)))) pss_nil)
        (pss_one (ps_ret (pe_op op_cat (pe_lst (pa_cons (pe_glob (v := .int 0) rfl c2 ⟨_, rfl⟩) pa_nil)) (pe_meth (pv 0) T.cl m2 G2 hr3 b2 .nil pass0 (pa_cons (pv 1) pa_nil))))), ?_⟩
      refine ⟨_, rfl, _, rfl, fa, t, 1000, rs, ua, cRows x, us, _, toInts l, rfl, hF, hT, (by rw [cRows_length]; omega), _, rfl, ?_⟩
      rw [cRows_length, one_each l x.fields 1000 (m := (1000 : Int)) rfl]
      refine ite2 (fun hc => ⟨by decide, fun p hp => ans_same fin hO e1 (A' := .num (-22)) (if_pos (one_not hc)) (Same.new hp) hp upd_same⟩) (fun hc => ?_)
      obtain ⟨hlen, hany⟩ := one_yes hc
      have e2 : (Kqp4.step (some x) (Kqp4.Call.weighed l)).2 = Kqp4.tell (Kqp4.weighed l x.shares) := if_neg (by
        rintro (z | z)
        · exact z hlen
        · rw [hany] at z
          cases z)
      rw [weighed_eq ok hlen] at e2
      refine ⟨by decide, fun q hq => ?_⟩
      have s2 : Same H (upd H q (.lst [.int 0])) := Same.new hq
      refine ⟨_, rfl, fa, dx, _, rfl, s2 _ _ h1, fF_no _ _ _ (by decide +kernel) (by decide +kernel) (by decide +kernel), _, rfl, fa, t, rs, ua, cRows x, us, 100 ^ k, toInts l, rfl, hF.same s2, s2 _ _ hT, (by rw [toInts_length]; omega), weights_small hany, hun_pos k, hun_log (k_le hk), fun H3 p s3 hp hp3 => ?_⟩
      refine ⟨q, p, _, _, rfl, rfl, s3 _ _ upd_same, hp3, (by show 3 ≤ sizeLine; decide), fun v hv => ?_⟩
      exact ans_same fin hO e1 e2 ((s2.trans s3).trans (Same.new hv)) ((s2.trans s3).free hv) upd_same
theorem sc_aalone : FnScope ["fields", "told"] ["fields", "told"] (defScope s_answer_alone) := ⟨rfl, rfl, rfl, by decide +kernel, rfl, by decide +kernel, by decide +kernel⟩
theorem ok_aalone {f : Addr} {fd : FuncData} (T : Txt K mg C) (F : Fun K "answer_alone" "answer_alone" s_answer_alone f fd) : FnOk P w K mg base CX0 5 f fd ["fields", "told"] (spAnsL C (fun n => n = 1) fun l => .alone (l.getD 0 0)) := by
  obtain ⟨f1, fd1, F1, b1, m1⟩ := T.d_are_fields
  obtain ⟨f2, fd2, F2, b2, m2⟩ := T.m_own_comers
  have G1 : FnOk P w K mg base CX0 2 f1 fd1 ["fields", "told"] (spAreF C) := ok_areF T F1
  have G2 : FnOk P w K mg base CX0 2 f2 fd2 ["self", "i"] (spOwn C) := ok_own T F2
  obtain ⟨t1, c1⟩ := T.c_NOT_AS_TOLD
  obtain ⟨t3, c3⟩ := T.c_HUNDRED
  refine F.ok sc_aalone (fun vs H Q E h => ?_) (fun cdv A outer s H vs Q E hr h => ?_)
  · obtain ⟨_, _, _, _, _, _, _, _, rfl, _⟩ := h
    rfl
  · obtain ⟨fa, t, l, rs, x, k, ua, us, rfl, hT, hl, h60, hts, hO, hF, ok, hk, fin⟩ := h
    have hr2 : Room 2 _ := hr.mono (by decide)
    obtain ⟨z, rfl⟩ : ∃ z, l = [z] := List.length_eq_one_iff.mp hl
    · obtain ⟨dx, ra, h1, h2⟩ := hF.obj
      have e1 : (Kqp4.step (some x) (Kqp4.Call.alone ([z].getD 0 0))).1 = some x := rfl
      refine ⟨_, pss_cons (ps_if (pt_not (pt_val (pe_call G1 hr2 rfl m1 F1.kp b1 .nil pass0 (pa_cons (pv 0) (pa_cons (pv 1) pa_nil))))) (pss_one (ps_ret (pe_lst (pa_cons (pe_glob (v := .int (-22)) rfl c1 ⟨_, rfl⟩) pa_nil)))) pss_nil)
        (pss_one (ps_ret (pe_lst (pa_cons (pe_ifExp (pt_cmpR op_eq (pe_meth (pv 0) T.cl m2 G2 hr2 b2 .nil pass0 (pa_cons (pe_ix ix_list (pv 1) pe_int (fun _ _ => rfl)) pa_nil)) (pe_glob (v := .int 100) rfl c3 ⟨_, rfl⟩) (nomark _)) pe_int pe_int) pa_nil)))), ?_⟩
      refine ⟨_, rfl, _, rfl, fa, t, rs, ua, _, us, _, _, rfl, hF, hT, (by simp [toInts]), fun H1 s1 => ⟨_, rfl, ?_⟩⟩
      rw [all_one, cRows_length]
      refine ite2 (fun hc => ⟨by decide, fun p hp => ans_same fin hO e1 (A' := .num (-22)) ?_ (s1.trans (Same.new hp)) (s1.free hp) upd_same⟩) (fun hc => ?_)
      · exact if_pos (fld_no hc)
      · have hz : z < x.fields := fld_yes hc
        have e2 : (Kqp4.step (some x) (Kqp4.Call.alone ([z].getD 0 0))).2 = .num (if Kqp4.comes x z z = 100 then 1 else 0) := if_neg (show ¬ x.fields ≤ z by omega)
        refine ⟨_, rfl, fa, dx, _, rfl, s1 _ _ h1, fF_no _ _ _ (by decide +kernel) (by decide +kernel) (by decide +kernel), _, rfl, t, _, 0, _, rfl, rfl, SqL.of (s1 _ _ hT), rfl, fa, z, rs, ua, cRows x, us, _, cRow x z, _, rfl, hF.same s1, cRows_get hz, cRow_get hz, rfl, _, rfl, ite2 (fun hc => ?_) (fun hc => ?_)⟩
        · have e : V.int (Kqp4.comes x z z : Int) = V.int 100 := of_decide_eq_true hc
          have e' := V.int.inj e
          refine ⟨(by show 1 ≤ sizeLine; decide), fun p hp => ans_same fin hO e1 (A' := .num 1) ?_ (s1.trans (Same.new hp)) (s1.free hp) upd_same⟩
          rw [e2, if_pos (by omega)]
        · have e : ¬ Kqp4.comes x z z = 100 := fun q => hc (decide_eq_true (by rw [q]; rfl))
          refine ⟨(by show 1 ≤ sizeLine; decide), fun p hp => ans_same fin hO e1 (A' := .num 0) ?_ (s1.trans (Same.new hp)) (s1.free hp) upd_same⟩
          rw [e2, if_neg e]
theorem sc_astate : FnScope ["fields", "told", "i"] ["fields", "told"] (defScope s_answer_state) := ⟨rfl, rfl, rfl, by decide +kernel, rfl, by decide +kernel, by decide +kernel⟩
theorem ok_astate {f : Addr} {fd : FuncData} (T : Txt K mg C) (F : Fun K "answer_state" "answer_state" s_answer_state f fd) : FnOk P w K mg base CX0 5 f fd ["fields", "told"] (spAnsL C (fun n => n = 0) fun _ => .state) := by
  obtain ⟨f1, fd1, F1, b1, m1⟩ := T.m_how_many
  obtain ⟨f2, fd2, F2, b2, m2⟩ := T.m_own_comers
  have G1 : FnOk P w K mg base CX0 1 f1 fd1 ["self"] (spHow C) := ok_how T F1
  have G2 : FnOk P w K mg base CX0 2 f2 fd2 ["self", "i"] (spOwn C) := ok_own T F2
  refine F.ok sc_astate (fun vs H Q E h => ?_) (fun cdv A outer s H vs Q E hr h => ?_)
  · obtain ⟨_, _, _, _, _, _, _, _, rfl, _⟩ := h
    rfl
  · obtain ⟨fa, t, l, rs, x, k, ua, us, rfl, hT, hl, h60, hts, hO, hF, ok, hk, fin⟩ := h
    have hr2 : Room 2 _ := hr.mono (by decide)
    have hr1 : Room 1 _ := hr.mono (by decide)
    have nd := sc_astate.nd
    · obtain ⟨dx, ra, h1, h2⟩ := hF.obj
      have h4x := ok.four
      refine ⟨_, pss_one (ps_ret (pe_op op_cat (pe_lst (pa_cons (pe_meth0 (pv 0) T.cl m1 G1 hr1 b1 .nil pass0) pa_nil))
        (pe_lc rfl nd (pi_range1 rfl T.b_range (pa_cons (pe_meth0 (pv 0) T.cl m1 G1 hr1 b1 .nil pass0) pa_nil)) (blkOk_by (own := [("i", 2)]) (by rfl))
          (fun _ _ _ _ _ => pg_name (i := 2) nd rfl (Or.inl rfl)) (fun _ _ _ _ _ => pts_nil) (fun _ _ _ _ _ => pe_meth (pv 0) T.cl m2 G2 hr2 b2 .nil pass0 (pa_cons (pv 2) pa_nil))))), ?_⟩
      refine ⟨_, rfl, fa, dx, _, rfl, h1, fF_no _ _ _ (by decide +kernel) (by decide +kernel) (by decide +kernel), fa, rs, ua, cRows x, us, _, rfl, hF, (by show 1 ≤ sizeLine; decide), fun q hq => ?_⟩
      have s1 : Same H (upd H q (.lst [.int ((cRows x).length : Nat)])) := Same.new hq
      refine ⟨_, rfl, fa, dx, _, rfl, s1 _ _ h1, fF_no _ _ _ (by decide +kernel) (by decide +kernel) (by decide +kernel), fa, rs, ua, cRows x, us, _, rfl, hF.same s1, ((cRows x).length : Int), rfl, (by omega), (by rw [cRows_length]; omega), ?_⟩
      rw [Int.toNat_natCast]
      refine fun D hD => lc_mapR (ys := ((List.range x.fields).map fun i => ((Kqp4.comes x i i : Nat) : Int)).map V.int) hD (by simp [cRows_length]) (small_line (by rw [cRows_length]; omega)) (fun i y H2 R hi hy s2 hRR => ?_) (fun H2 s2 hD2 => ?_)
      · obtain ⟨y1, hy1, rfl⟩ := map_get hy
        obtain ⟨rfl, hif⟩ := range_map_get hy1
        refine ⟨rfl, _, rfl, fa, dx, _, rfl, s2 _ _ (s1 _ _ h1), fF_no _ _ _ (by decide +kernel) (by decide +kernel) (by decide +kernel), _, rfl, fa, i, rs, ua, cRows x, us, _, cRow x i, _, ?_, (hF.same s1).same s2, cRows_get hif, cRow_get hif, hRR H2 (Same.refl H2)⟩
        show [V.ref fa, V.int (0 + (i : Int))] = _
        rw [Int.zero_add]
      · refine ⟨q, D, _, _, rfl, rfl, s2 _ _ upd_same, hD2, ?_, fun v hv => ?_⟩
        · rw [List.length_map, List.length_map, List.length_range]
          exact small_line (by show 1 + x.fields ≤ 1000; omega)
        · refine ans_same fin hO rfl (A' := .some_ x.fields ((List.range x.fields).map fun i => ((Kqp4.comes x i i : Nat) : Int))) rfl ((s1.trans s2).trans (Same.new hv)) ((s1.trans s2).free hv) ?_
          have : IntsAt (upd H2 v (.lst ([V.int ((cRows x).length : Nat)] ++ ((List.range x.fields).map fun i => ((Kqp4.comes x i i : Nat) : Int)).map V.int))) v (((cRows x).length : Int) :: ((List.range x.fields).map fun i => ((Kqp4.comes x i i : Nat) : Int))) := upd_same
          rw [cRows_length] at this
          rw [cRows_length]
          exact this
end
end Fs

end

section
set_option Elab.async false
set_option linter.all false
set_option maxRecDepth 100000
set_option maxHeartbeats 2000000
namespace Fs
open PySem PySem.Spec PyProof.Rows L2
theorem log_mono {a b : Nat} (ha : 0 < a) (h : a ≤ b) : a.log2 ≤ b.log2 := (Nat.le_log2 (by omega)).mpr (Nat.le_trans (Nat.log2_self_le (by omega)) h)
theorem rest_log {k c : Nat} (hk : k ≤ 300) (hc : 0 < c) (h2 : c ≤ 200) : (100 ^ k * c).log2 < 9000 := by
  have h1 : 100 ^ k * c ≤ 100 ^ (k + 2) := by
    rw [Nat.pow_add]
    exact Nat.mul_le_mul_left _ (Nat.le_trans h2 (by decide))
  exact Nat.lt_of_le_of_lt (log_mono (Nat.mul_pos (hun_pos k) hc) h1) (hun_log (by omega))
theorem frac_one {m : Nat} (h : 0 < m) : Kqp4.frac 1 m = ⟨1, m⟩ := frac_self (p := ⟨1, m⟩) ⟨h, by show Nat.gcd 1 m = 1; exact Nat.gcd_one_left m⟩
theorem near_le {p : Kqp4.Frac} {m : Nat} (h : 0 < m) : Kqp4.le p (Kqp4.frac 1 m) = decide (p.num * (m : Int) ≤ (p.den : Int)) := by
  rw [frac_one h]
  show decide (p.num * (m : Int) ≤ 1 * (p.den : Int)) = _
  rw [Int.one_mul]
theorem max_two {a b : Nat} {M : Int} (h1 : M ∈ toInts [a, b]) (h2 : ∀ y, y ∈ toInts [a, b] → y ≤ M) : 100 < M ↔ 100 < a ∨ 100 < b := by
  have ha := h2 a (mem_toInts (by simp))
  have hb := h2 b (mem_toInts (by simp))
  obtain ⟨n, hn, e⟩ := toInts_mem h1
  have : n = a ∨ n = b := by simpa using hn
  omega
section
variable {P : Program} {w : World} {K : PySem.W.Frag} {mg : Str → Option Value} {base : Heap} {C : Addr}
theorem sc_arest : FnScope ["fields", "told"] ["fields", "told"] (defScope s_answer_rest) := ⟨rfl, rfl, rfl, by decide +kernel, rfl, by decide +kernel, by decide +kernel⟩
theorem ok_arest {f : Addr} {fd : FuncData} (T : Txt K mg C) (F : Fun K "answer_rest" "answer_rest" s_answer_rest f fd) : FnOk P w K mg base CX0 5 f fd ["fields", "told"] (spAnsL C (fun n => n = 2) fun l => .rest (l.getD 0 0) (l.getD 1 0)) := by
  obtain ⟨f2, fd2, F2, b2, m2⟩ := T.m_rest_of_two
  have G2 : FnOk P w K mg base CX0 4 f2 fd2 ["self", "a", "b"] (spRest C) := ok_rest T F2
  obtain ⟨t1, c1⟩ := T.c_NOT_AS_TOLD
  obtain ⟨t2, c2⟩ := T.c_DONE
  obtain ⟨t3, c3⟩ := T.c_HUNDRED
  refine F.ok sc_arest (fun vs H Q E h => ?_) (fun cdv A outer s H vs Q E hr h => ?_)
  · obtain ⟨_, _, _, _, _, _, _, _, rfl, _⟩ := h
    rfl
  · obtain ⟨fa, t, l, rs, x, k, ua, us, rfl, hT, hl, h60, hts, hO, hF, ok, hk, fin⟩ := h
    obtain ⟨a, b, rfl⟩ := len2 hl
    · obtain ⟨dx, ra, h1, h2⟩ := hF.obj
      have h2x := ok.two
      have hul := ok.ulen
      obtain ⟨u0, e0⟩ : ∃ u, us[0]? = some u := ⟨_, List.getElem?_eq_getElem (by omega)⟩
      obtain ⟨u1, eu1⟩ : ∃ u, us[1]? = some u := ⟨_, List.getElem?_eq_getElem (by omega)⟩
      have e1 : (Kqp4.step (some x) (Kqp4.Call.rest ([a, b].getD 0 0) ([a, b].getD 1 0))).1 = some x := rfl
      refine ⟨_, pss_cons (ps_if (pt_cmpR op_gt (pe_callB (call_maxI rfl) (by rfl) T.b_max (by decide +kernel) (pa_cons (pv 1) pa_nil)) (pe_glob (v := .int 100) rfl c3 ⟨_, rfl⟩) (nomark _)) (pss_one (ps_ret (pe_lst (pa_cons (pe_glob (v := .int (-22)) rfl c1 ⟨_, rfl⟩) pa_nil)))) pss_nil)
        (pss_one (ps_ret (pe_op op_cat (pe_lst (pa_cons (pe_glob (v := .int 0) rfl c2 ⟨_, rfl⟩) pa_nil)) (pe_meth (pv 0) T.cl m2 G2 hr b2 .nil pass0 (pa_cons (pe_ix ix_list (pv 1) pe_int (fun _ _ => rfl)) (pa_cons (pe_ix ix_list (pv 1) pe_int (fun _ _ => rfl)) pa_nil)))))), ?_⟩
      refine ⟨_, rfl, t, _, rfl, SqL.of hT, (by simp [toInts]), fun M hM1 hM2 => ⟨_, _, rfl, rfl, _, rfl, ite2 (fun hc => ?_) (fun hc => ?_)⟩⟩
      · have hM : 100 < a ∨ 100 < b := (max_two hM1 hM2).mp (of_decide_eq_true hc)
        exact ⟨by decide, fun p hp => ans_same fin hO e1 (A' := .num (-22)) (if_pos hM) (Same.new hp) hp upd_same⟩
      · have hM : ¬ (100 < a ∨ 100 < b) := fun z => hc (decide_eq_true ((max_two hM1 hM2).mpr z))
        have e2 : (Kqp4.step (some x) (Kqp4.Call.rest ([a, b].getD 0 0) ([a, b].getD 1 0))).2 = Kqp4.tell (Kqp4.rest a b (Kqp4.at_ x.shares 0) (Kqp4.at_ x.shares 1)) := if_neg hM
        rw [rest_eq ok e0 eu1] at e2
        refine ⟨by decide, fun q hq => ?_⟩
        have s2 : Same H (upd H q (.lst [.int 0])) := Same.new hq
        refine ⟨_, rfl, fa, dx, _, rfl, s2 _ _ h1, fF_no _ _ _ (by decide +kernel) (by decide +kernel) (by decide +kernel), _, rfl, t, _, 0, _, rfl, rfl, SqL.of (s2 _ _ hT), rfl, _, rfl, t, _, 1, _, rfl, rfl, SqL.of (s2 _ _ hT), rfl, fa, a, b, rs, ua, cRows x, us, 100 ^ k, u0, u1, rfl, hF.same s2, ok.sq, (by omega), (by omega), e0, eu1, hun_pos k, hun_log (k_le hk), ?_, fun H3 p s3 hp hp3 => ?_⟩
        · by_cases z : a + b = 0
          · rw [z, Nat.mul_zero]
            decide
          · exact rest_log hk (by omega) (by omega)
        · have e3 : (if a + b = 0 then Kqp4.frac u0 (100 ^ k) else Kqp4.frac (u0 * (b : Int) + u1 * (a : Int)) (100 ^ k * (a + b))) = (if a + b = 0 then Kqp4.frac u0 (100 ^ k) else Kqp4.frac ((b : Int) * u0 + (a : Int) * u1) ((a + b) * 100 ^ k)) := by
            rw [Int.mul_comm u0, Int.mul_comm u1, Nat.mul_comm (100 ^ k)]
          rw [e3] at hp3
          refine ⟨q, p, _, _, rfl, rfl, s3 _ _ upd_same, hp3, (by show 3 ≤ sizeLine; decide), fun v hv => ?_⟩
          exact ans_same fin hO e1 e2 ((s2.trans s3).trans (Same.new hv)) ((s2.trans s3).free hv) upd_same
theorem sc_apair : FnScope ["fields", "told", "n"] ["fields", "told"] (defScope s_answer_pair) := ⟨rfl, rfl, rfl, by decide +kernel, rfl, by decide +kernel, by decide +kernel⟩
theorem ok_apair {f : Addr} {fd : FuncData} (T : Txt K mg C) (F : Fun K "answer_pair" "answer_pair" s_answer_pair f fd) : FnOk P w K mg base CX0 5 f fd ["fields", "told"] (spAnsL C (fun n => n = 3) fun l => .pair (l.getD 0 0) (l.getD 1 0) (l.getD 2 0)) := by
  obtain ⟨f2, fd2, F2, b2, m2⟩ := T.m_two_after
  obtain ⟨f3, fd3, F3, b3, m3⟩ := T.d_are_generations
  have G2 : FnOk P w K mg base CX0 3 f2 fd2 ["self", "a", "b", "n"] (spTwo C) := ok_two T F2
  have G3 : FnOk P w K mg base CX0 1 f3 fd3 ["n"] spAreG := ok_areG T F3
  obtain ⟨t1, c1⟩ := T.c_NOT_AS_TOLD
  obtain ⟨t2, c2⟩ := T.c_DONE
  obtain ⟨t3, c3⟩ := T.c_HUNDRED
  refine F.ok sc_apair (fun vs H Q E h => ?_) (fun cdv A outer s H vs Q E hr h => ?_)
  · obtain ⟨_, _, _, _, _, _, _, _, rfl, _⟩ := h
    rfl
  · obtain ⟨fa, t, l, rs, x, k, ua, us, rfl, hT, hl, h60, hts, hO, hF, ok, hk, fin⟩ := h
    have hr1 : Room 1 _ := hr.mono (by decide)
    have hr3 : Room 3 _ := hr.mono (by decide)
    obtain ⟨a, b, n, rfl⟩ := len3 hl
    · obtain ⟨dx, ra, h1, h2⟩ := hF.obj
      have h2x := ok.two
      have hul := ok.ulen
      obtain ⟨u0, e0⟩ : ∃ u, us[0]? = some u := ⟨_, List.getElem?_eq_getElem (by omega)⟩
      obtain ⟨u1, eu1⟩ : ∃ u, us[1]? = some u := ⟨_, List.getElem?_eq_getElem (by omega)⟩
      have e1 : (Kqp4.step (some x) (Kqp4.Call.pair ([a, b, n].getD 0 0) ([a, b, n].getD 1 0) ([a, b, n].getD 2 0))).1 = some x := rfl
      refine ⟨_, pss_cons (ps_set (i := 2) sc_apair.nd rfl (Or.inl rfl) (pe_ix ix_list (pv 1) pe_int (fun _ _ => rfl)))
        (pss_cons (ps_if (PW.pt (pw_or (pt_cmpR op_gt (pe_callB (call_maxI rfl) (by rfl) T.b_max (by decide +kernel) (pa_cons (pe_slice sl_list (pv 1) po_none (po_some pe_int)) pa_nil)) (pe_glob (v := .int 100) rfl c3 ⟨_, rfl⟩) (nomark _)) (pw_or1 (pt_not (pt_val (pe_call G3 hr1 rfl m3 F3.kp b3 .nil pass0 (pa_cons (pv 2) pa_nil)))))))
          (pss_one (ps_ret (pe_lst (pa_cons (pe_glob (v := .int (-22)) rfl c1 ⟨_, rfl⟩) pa_nil)))) pss_nil)
        (pss_one (ps_ret (pe_op op_cat (pe_lst (pa_cons (pe_glob (v := .int 0) rfl c2 ⟨_, rfl⟩) pa_nil)) (pe_meth (pv 0) T.cl m2 G2 hr3 b2 .nil pass0 (pa_cons (pe_ix ix_list (pv 1) pe_int (fun _ _ => rfl)) (pa_cons (pe_ix ix_list (pv 1) pe_int (fun _ _ => rfl)) (pa_cons (pv 2) pa_nil)))))))), ?_⟩
      have refuse : (100 < a ∨ 100 < b ∨ 4 < n) → ∀ H1, Same H H1 → ∀ p, H1 p = none → Q (.ref p) (upd H1 p (.lst [.int (-22)])) := fun hc H1 s1 p hp =>
        ans_same fin hO e1 (show (if 100 < a ∨ 100 < b ∨ 4 < n then Kqp4.Ans.num (-22) else _) = _ from if_pos hc) (s1.trans (Same.new hp)) (s1.free hp) upd_same
      refine ⟨_, rfl, t, _, 2, _, rfl, rfl, SqL.of hT, rfl, _, rfl, _, rfl, t, _, rfl, SqL.of hT, fun q hq => ?_⟩
      have s1 : Same H (upd H q (.lst (cutV ((toInts [a, b, n]).map V.int) none (some 2)))) := Same.new hq
      have hq1 : SqL K (upd H q (.lst (cutV ((toInts [a, b, n]).map V.int) none (some 2)))) q ((toInts [a, b]).map V.int) := SqL.of upd_same
      refine ⟨q, toInts [a, b], rfl, hq1, (by simp [toInts]), fun M hM1 hM2 => ⟨_, _, rfl, rfl, _, rfl, ?_⟩⟩
      refine ite2 (fun hc => iteT ⟨by decide, refuse ?_ _ s1⟩) (fun hc => ?_)
      · have := (max_two hM1 hM2).mp (of_decide_eq_true hc)
        omega
      · have hM : ¬ (100 < a ∨ 100 < b) := fun z => hc (decide_eq_true ((max_two hM1 hM2).mpr z))
        refine ⟨_, rfl, (n : Int), rfl, _, rfl, ite2 (fun hc => ⟨by decide, refuse ?_ _ s1⟩) (fun hc => ?_)⟩
        · have : ¬ (n : Int) ≤ 4 := by simpa using hc
          omega
        · have hn : n ≤ 4 := gen_yes hc
          have e2 : (Kqp4.step (some x) (Kqp4.Call.pair ([a, b, n].getD 0 0) ([a, b, n].getD 1 0) ([a, b, n].getD 2 0))).2 = (let q := Kqp4.after (Kqp4.pair a b) n [Kqp4.at_ x.shares 0, Kqp4.at_ x.shares 1]
            Kqp4.Ans.some_ 0 [(Kqp4.at_ q 0).num, (Kqp4.at_ q 0).den, (Kqp4.at_ q 1).num, (Kqp4.at_ q 1).den]) := if_neg (show ¬ (100 < a ∨ 100 < b ∨ 4 < n) by omega)
          rw [pair_after ok e0 eu1] at e2
          have hpr := pair_rows a b (by omega) (by omega)
          obtain ⟨v0, v1, hg⟩ : ∃ v0 v1, gens (cRows (Kqp4.pair a b)) n [u0, u1] = [v0, v1] := by
            have hl := gens_length (cRows (Kqp4.pair a b)) [u0, u1] (by rw [hpr]; rfl) n
            rw [hpr] at hl
            rw [hpr]
            match gens [[100 - (a : Int), (a : Int)], [(b : Int), 100 - (b : Int)]] n [u0, u1], hl with
            | [v0, v1], _ => exact ⟨v0, v1, rfl⟩
          rw [hg] at e2
          rw [hpr] at hg
          have e3 : (Kqp4.step (some x) (Kqp4.Call.pair ([a, b, n].getD 0 0) ([a, b, n].getD 1 0) ([a, b, n].getD 2 0))).2 = Kqp4.Ans.some_ 0 [(Kqp4.frac v0 (100 ^ (k + n))).num, (Kqp4.frac v0 (100 ^ (k + n))).den, (Kqp4.frac v1 (100 ^ (k + n))).num, (Kqp4.frac v1 (100 ^ (k + n))).den] := e2
          refine ⟨by decide, fun q2 hq2 => ?_⟩
          have s3 : Same H (upd (upd H q (.lst (cutV ((toInts [a, b, n]).map V.int) none (some 2)))) q2 (.lst [.int 0])) := s1.trans (Same.new hq2)
          refine ⟨_, rfl, fa, dx, _, rfl, s3 _ _ h1, fF_no _ _ _ (by decide +kernel) (by decide +kernel) (by decide +kernel), _, rfl, t, _, 0, _, rfl, rfl, SqL.of (s3 _ _ hT), rfl, _, rfl, t, _, 1, _, rfl, rfl, SqL.of (s3 _ _ hT), rfl, _, rfl, fa, a, b, n, rs, ua, cRows x, us, 100 ^ k, u0, u1, v0, v1, rfl, hF.same s3, (by omega), (by omega), hn, e0, eu1, hun_pos k, ?_, hg, fun H3 p s4 hp hp3 => ?_⟩
          · rw [← Nat.pow_add]
            exact hun_log (kn_le hk hn)
          · rw [← Nat.pow_add] at hp3
            refine ⟨q2, p, _, _, rfl, rfl, s4 _ _ upd_same, hp3, (by show 5 ≤ sizeLine; decide), fun v hv => ?_⟩
            exact ans_same fin hO e1 e3 ((s3.trans s4).trans (Same.new hv)) ((s3.trans s4).free hv) upd_same
theorem sc_afirst : FnScope ["fields", "told"] ["fields", "told"] (defScope s_answer_first) := ⟨rfl, rfl, rfl, by decide +kernel, rfl, by decide +kernel, by decide +kernel⟩
theorem ok_afirst {f : Addr} {fd : FuncData} (T : Txt K mg C) (F : Fun K "answer_first" "answer_first" s_answer_first f fd) : FnOk P w K mg base CX0 5 f fd ["fields", "told"] (spAnsL C (fun n => n = 1) fun l => .first (l.getD 0 0)) := by
  obtain ⟨f2, fd2, F2, b2, m2⟩ := T.m_first_greatest_after
  obtain ⟨f3, fd3, F3, b3, m3⟩ := T.d_are_generations
  have G2 : FnOk P w K mg base CX0 3 f2 fd2 ["self", "n"] (spFirst C) := ok_first T F2
  have G3 : FnOk P w K mg base CX0 1 f3 fd3 ["n"] spAreG := ok_areG T F3
  obtain ⟨t1, c1⟩ := T.c_NOT_AS_TOLD
  refine F.ok sc_afirst (fun vs H Q E h => ?_) (fun cdv A outer s H vs Q E hr h => ?_)
  · obtain ⟨_, _, _, _, _, _, _, _, rfl, _⟩ := h
    rfl
  · obtain ⟨fa, t, l, rs, x, k, ua, us, rfl, hT, hl, h60, hts, hO, hF, ok, hk, fin⟩ := h
    have hr1 : Room 1 _ := hr.mono (by decide)
    have hr3 : Room 3 _ := hr.mono (by decide)
    obtain ⟨n, rfl⟩ : ∃ z, l = [z] := List.length_eq_one_iff.mp hl
    · obtain ⟨dx, ra, h1, h2⟩ := hF.obj
      have e1 : (Kqp4.step (some x) (Kqp4.Call.first ([n].getD 0 0))).1 = some x := rfl
      refine ⟨_, pss_cons (ps_if (pt_not (pt_val (pe_call G3 hr1 rfl m3 F3.kp b3 .nil pass0 (pa_cons (pe_ix ix_list (pv 1) pe_int (fun _ _ => rfl)) pa_nil)))) (pss_one (ps_ret (pe_lst (pa_cons (pe_glob (v := .int (-22)) rfl c1 ⟨_, rfl⟩) pa_nil)))) pss_nil)
        (pss_one (ps_ret (pe_lst (pa_cons (pe_meth (pv 0) T.cl m2 G2 hr3 b2 .nil pass0 (pa_cons (pe_ix ix_list (pv 1) pe_int (fun _ _ => rfl)) pa_nil)) pa_nil)))), ?_⟩
      refine ⟨_, rfl, t, _, 0, _, rfl, rfl, SqL.of hT, rfl, (n : Int), rfl, _, rfl, ?_⟩
      refine ite2 (fun hc => ⟨by decide, fun p hp => ans_same fin hO e1 (A' := .num (-22)) ?_ (Same.new hp) hp upd_same⟩) (fun hc => ?_)
      · exact if_pos (gen_no hc)
      · have hn : n ≤ 4 := gen_yes hc
        refine ⟨_, rfl, fa, dx, _, rfl, h1, fF_no _ _ _ (by decide +kernel) (by decide +kernel) (by decide +kernel), _, rfl, t, _, 0, _, rfl, rfl, SqL.of hT, rfl, fa, n, rs, ua, cRows x, us, _, rfl, hF, ok.sq, hn, gens_ne ok n, fun H1 i M s1 hM hi hlt => ?_⟩
        refine ⟨(by show 1 ≤ sizeLine; decide), fun p hp => ans_same fin hO e1 (A' := .num (i : Nat)) ?_ (s1.trans (Same.new hp)) (s1.free hp) upd_same⟩
        have e2 : (Kqp4.step (some x) (Kqp4.Call.first ([n].getD 0 0))).2 = .num (((List.range x.fields).find? fun i => (List.range x.fields).all fun j => Kqp4.le (Kqp4.at_ (Kqp4.after x n x.shares) j) (Kqp4.at_ (Kqp4.after x n x.shares) i)).getD 0 : Nat) := if_neg (show ¬ 4 < n by omega)
        rw [e2, first_eq ok n hM hi hlt]
theorem sc_asoon : FnScope ["fields", "told", "m", "n"] ["fields", "told"] (defScope s_answer_soon) := ⟨rfl, rfl, rfl, by decide +kernel, rfl, by decide +kernel, by decide +kernel⟩
theorem ok_asoon {f : Addr} {fd : FuncData} (T : Txt K mg C) (F : Fun K "answer_soon" "answer_soon" s_answer_soon f fd) : FnOk P w K mg base CX0 5 f fd ["fields", "told"] (spAnsL C (fun n => n = 1) fun l => .soon (l.getD 0 0)) := by
  obtain ⟨f2, fd2, F2, b2, m2⟩ := T.m_is_near_after
  obtain ⟨f3, fd3, F3, b3, m3⟩ := T.d_first_time
  have G2 : FnOk P w K mg base CX0 4 f2 fd2 ["self", "n", "m"] (spNear C) := ok_near T F2
  have G3 : FnOk P w K mg base CX0 1 f3 fd3 ["by_generation"] spFirstT := ok_firstT T F3
  obtain ⟨t1, c1⟩ := T.c_NOT_AS_TOLD
  obtain ⟨t2, c2⟩ := T.c_MOST_GENERATIONS
  obtain ⟨t4, c4⟩ := T.c_MOST_PARTS
  refine F.ok sc_asoon (fun vs H Q E h => ?_) (fun cdv A outer s H vs Q E hr h => ?_)
  · obtain ⟨_, _, _, _, _, _, _, _, rfl, _⟩ := h
    rfl
  · obtain ⟨fa, t, l, rs, x, k, ua, us, rfl, hT, hl, h60, hts, hO, hF, ok, hk, fin⟩ := h
    have hr1 : Room 1 _ := hr.mono (by decide)
    have nd := sc_asoon.nd
    obtain ⟨m, rfl⟩ : ∃ z, l = [z] := List.length_eq_one_iff.mp hl
    · obtain ⟨dx, ra, h1, h2⟩ := hF.obj
      have e1 : (Kqp4.step (some x) (Kqp4.Call.soon ([m].getD 0 0))).1 = some x := rfl
      refine ⟨_, pss_cons (ps_set (i := 2) nd rfl (Or.inr rfl) (pe_ix ix_list (pv 1) pe_int (fun _ _ => rfl)))
        (pss_cons (ps_if (PW.pt (pw_or (pt_cmpR op_lt (pv 2) pe_int (nomark _)) (pw_or1 (pt_cmpR op_gt (pv 2) (pe_glob (v := .int 1000) rfl c4 ⟨_, rfl⟩) (nomark _)))))
          (pss_one (ps_ret (pe_lst (pa_cons (pe_glob (v := .int (-22)) rfl c1 ⟨_, rfl⟩) pa_nil)))) pss_nil)
        (pss_one (ps_ret (pe_call G3 hr1 rfl m3 F3.kp b3 .nil pass0 (pa_cons
          (pe_lc rfl nd (pi_range1 rfl T.b_range (pa_cons (pe_op op_add (pe_glob (v := .int 4) rfl c2 ⟨_, rfl⟩) pe_int) pa_nil)) (blkOk_by (own := [("n", 3)]) (by rfl))
            (fun _ _ _ _ _ => pg_name (i := 3) nd rfl (Or.inl rfl)) (fun _ _ _ _ _ => pts_nil)
            (fun _ _ _ _ _ => pe_meth (pv 0) T.cl m2 G2 hr b2 .nil pass0 (pa_cons (pv 3) (pa_cons (pv 2) pa_nil)))) pa_nil))))), ?_⟩
      have refuse : (m = 0 ∨ 1000 < m) → ∀ p, H p = none → Q (.ref p) (upd H p (.lst [.int (-22)])) := fun hc p hp =>
        ans_same fin hO e1 (show (if m = 0 ∨ 1000 < m then Kqp4.Ans.num (-22) else _) = _ from if_pos hc) (Same.new hp) hp upd_same
      refine ⟨_, rfl, t, _, 0, _, rfl, rfl, SqL.of hT, rfl, _, rfl, _, _, rfl, rfl, _, rfl, ite2 (fun hc => iteT ⟨by decide, refuse (.inl ?_)⟩) (fun hc => ?_)⟩
      · have : (m : Int) < 1 := of_decide_eq_true hc
        omega
      · have hm1 : ¬ (m : Int) < 1 := fun z => hc (decide_eq_true z)
        refine ⟨_, rfl, _, _, rfl, rfl, _, rfl, ite2 (fun hc => ⟨by decide, refuse (.inr ?_)⟩) (fun hc => ?_)⟩
        · have : (1000 : Int) < (m : Int) := of_decide_eq_true hc
          omega
        · have hm2 : ¬ (1000 : Int) < (m : Int) := fun z => hc (decide_eq_true z)
          refine ⟨_, _, rfl, rfl, (5 : Int), rfl, (by decide), (by decide), fun D hD => lc_mapR (n := 5) (ys := ((List.range 5).map fun n => Kqp4.le (Kqp4.apart (Kqp4.after x n x.shares)) (Kqp4.frac 1 m)).map V.bl) hD rfl (small_line (by decide)) (fun n y H2 R hn hy s2 hRR => ?_) (fun H2 s2 hD2 => ?_)⟩
          · obtain ⟨y1, hy1, rfl⟩ := map_get hy
            obtain ⟨rfl, _⟩ := range_map_get hy1
            refine ⟨rfl, _, rfl, fa, dx, _, rfl, s2 _ _ h1, fF_no _ _ _ (by decide +kernel) (by decide +kernel) (by decide +kernel), _, rfl, _, rfl, fa, n, m, rs, ua, cRows x, us, 100 ^ k, ?_, hF.same s2, ok.sq, (by omega), (by omega), hun_pos k, ?_, gens_ne ok n, fun H3 M l' hM hL s3 => ?_⟩
            · show [V.ref fa, V.int (0 + (n : Int)), V.int (m : Int)] = _
              rw [Int.zero_add]
            · rw [← Nat.pow_add]
              exact hun_log (kn_le hk (Nat.le_of_lt_succ hn))
            · rw [← Nat.pow_add, ← near_le (show 0 < m by omega), ← ok.apart n hM hL]
              exact hRR H3 s3
          · refine ⟨D, _, rfl, hD2, fun H3 p s3 hp hL => ?_⟩
            refine ans_same fin hO e1 (A' := .num (firstT ((List.range 5).map fun n => Kqp4.le (Kqp4.apart (Kqp4.after x n x.shares)) (Kqp4.frac 1 m)))) ?_ (s2.trans s3) (s2.free hp) hL
            rw [firstT_range]
            exact if_neg (show ¬ (m = 0 ∨ 1000 < m) by omega)
end
end Fs

end

section
set_option Elab.async false
set_option linter.all false
set_option maxRecDepth 100000
set_option maxHeartbeats 4000000
namespace Fs
open PySem PySem.Spec PyProof.Rows L2
theorem toInts_nat {z : List Int} (h : ∀ y ∈ z, 0 ≤ y ∧ y ≤ 4294967295) : toInts (z.map Int.toNat) = z := by
  unfold toInts
  rw [List.map_map]
  conv => rhs; rw [← List.map_id z]
  refine List.map_congr_left fun y hy => ?_
  have := h y hy
  show ((y.toNat : Nat) : Int) = y
  omega
theorem ans_of {C fa t : Addr} {c : List (List Int)} {rs : List Addr} {s : Option Kqp4.Land} {k : Nat} {H : Hp} {Q : VK} {E : XK} {st : Bool} {okL : Nat → Prop} {cc : List Nat → Kqp4.Call} (hT : IntsAt H t (toldOf c)) (hb : InB c) (hts : t ∉ rs) (hO : ObjAt C fa H rs s k) (hk : k ≤ 300) (hst : s = none → st = true)
    (hokL : okL (toldOf c).length) (e : stp s c = ((Kqp4.step s (cc ((toldOf c).map Int.toNat))).1, Kqp4Neutral.tell (Kqp4.step s (cc ((toldOf c).map Int.toNat))).2))
    (fin : ∀ (H' : Hp) (p : Addr) (rs' : List Addr) (k' : Nat), ObjAt C fa H' rs' (stp s c).1 k' → k' ≤ k + 1 → IntsAt H' p (stp s c).2 → H p = none → Frame fa rs H H' → (∀ r ∈ rs', r ∈ rs ∨ H r = none) → (∀ g, H g ≠ none → t ≠ g → Away C g fa H → Away C g fa H') → Q (.ref p) H') :
    spAns C st okL cc [.ref fa, .ref t] H Q E :=
  ⟨fa, t, (toldOf c).map Int.toNat, rs, s, k, rfl, by rw [toInts_nat hb.1]; exact hT, by rw [List.length_map]; exact hokL, by rw [List.length_map]; exact hb.2, hts, hO, hst, hk,
    fun H' p rs' k' h1 h2 h3 h4 h5 h6 h7 => fin H' p rs' k' (by rw [e]; exact h1) h2 (by rw [e]; exact h3) h4 h5 h6 h7⟩
theorem ans_ofL {C fa t : Addr} {c : List (List Int)} {rs : List Addr} {s : Option Kqp4.Land} {k : Nat} {H : Hp} {Q : VK} {E : XK} {okL : Nat → Prop} {cc : List Nat → Kqp4.Call} (hT : IntsAt H t (toldOf c)) (hb : InB c) (hts : t ∉ rs) (hO : ObjAt C fa H rs s k) (hk : k ≤ 300) (hst : s = none → False)
    (hokL : okL (toldOf c).length) (e : stp s c = ((Kqp4.step s (cc ((toldOf c).map Int.toNat))).1, Kqp4Neutral.tell (Kqp4.step s (cc ((toldOf c).map Int.toNat))).2))
    (fin : ∀ (H' : Hp) (p : Addr) (rs' : List Addr) (k' : Nat), ObjAt C fa H' rs' (stp s c).1 k' → k' ≤ k + 1 → IntsAt H' p (stp s c).2 → H p = none → Frame fa rs H H' → (∀ r ∈ rs', r ∈ rs ∨ H r = none) → (∀ g, H g ≠ none → t ≠ g → Away C g fa H → Away C g fa H') → Q (.ref p) H') :
    spAnsL C okL cc [.ref fa, .ref t] H Q E := by
  cases s with
  | none => exact absurd rfl hst
  | some x =>
    obtain ⟨ua, us, hF, ok⟩ := hO.land
    exact ⟨fa, t, (toldOf c).map Int.toNat, rs, x, k, ua, us, rfl, by rw [toInts_nat hb.1]; exact hT, by rw [List.length_map]; exact hokL, by rw [List.length_map]; exact hb.2, hts, hO, hF, ok, hk,
      fun H' p rs' k' h1 h2 h3 h4 h5 h6 h7 => fin H' p rs' k' (by rw [e]; exact h1) h2 (by rw [e]; exact h3) h4 h5 h6 h7⟩
noncomputable def Like (c : List (List Int)) (cc : List Nat → Kqp4.Call) : Prop := ∀ s, stp s c = ((Kqp4.step s (cc ((toldOf c).map Int.toNat))).1, Kqp4Neutral.tell (Kqp4.step s (cc ((toldOf c).map Int.toNat))).2)
inductive Kind (c : List (List Int)) : Prop
  | k0 (hn : numOf c = 0) (he : Like c (fun l => .start l)) : Kind c
  | k1 (hn : numOf c = 1) (he : Like c (fun l => .shares l)) : Kind c
  | k2 (hn : numOf c = 2) (hl : (toldOf c).length = 4) (he : Like c (fun l => .come (l.getD 0 0) (l.getD 1 0) (l.getD 2 0) (l.getD 3 0))) : Kind c
  | k3 (hn : numOf c = 3) (hl : (toldOf c).length = 1) (he : Like c (fun l => .share (l.getD 0 0))) : Kind c
  | k4 (hn : numOf c = 4) (hl : (toldOf c).length = 0) (he : Like c (fun _ => .next)) : Kind c
  | k5 (hn : numOf c = 5) (hl : (toldOf c).length = 2) (he : Like c (fun l => .after (l.getD 0 0) (l.getD 1 0))) : Kind c
  | k6 (hn : numOf c = 6) (hl : (toldOf c).length = 1) (he : Like c (fun l => .apart (l.getD 0 0))) : Kind c
  | k7 (hn : numOf c = 7) (hl : (toldOf c).length = 1) (he : Like c (fun l => .bound (l.getD 0 0))) : Kind c
  | k8 (hn : numOf c = 8) (hl : (toldOf c).length = 0) (he : Like c (fun _ => .fewest)) : Kind c
  | k9 (hn : numOf c = 9) (hl : (toldOf c).length = 3) (he : Like c (fun l => .from_ (l.getD 0 0) (l.getD 1 0) (l.getD 2 0))) : Kind c
  | k10 (hn : numOf c = 10) (hl : (toldOf c).length = 2) (he : Like c (fun l => .reach (l.getD 0 0) (l.getD 1 0))) : Kind c
  | k11 (hn : numOf c = 11) (hl : (toldOf c).length = 0) (he : Like c (fun _ => .mixed)) : Kind c
  | k12 (hn : numOf c = 12) (he : Like c (fun l => .keeps l)) : Kind c
  | k13 (hn : numOf c = 13) (he : Like c (fun l => .weighed l)) : Kind c
  | k14 (hn : numOf c = 14) (hl : (toldOf c).length = 2) (he : Like c (fun l => .rest (l.getD 0 0) (l.getD 1 0))) : Kind c
  | k15 (hn : numOf c = 15) (hl : (toldOf c).length = 3) (he : Like c (fun l => .pair (l.getD 0 0) (l.getD 1 0) (l.getD 2 0))) : Kind c
  | k16 (hn : numOf c = 16) (hl : (toldOf c).length = 1) (he : Like c (fun l => .first (l.getD 0 0))) : Kind c
  | k17 (hn : numOf c = 17) (hl : (toldOf c).length = 1) (he : Like c (fun l => .soon (l.getD 0 0))) : Kind c
  | k18 (hn : numOf c = 18) (hl : (toldOf c).length = 1) (he : Like c (fun l => .alone (l.getD 0 0))) : Kind c
  | k19 (hn : numOf c = 19) (hl : (toldOf c).length = 0) (he : Like c (fun _ => .state)) : Kind c
theorem like_start (r : List Int) : Like [[0], r] (fun l => .start l) := fun s => by
  rw [told_row]
  rfl
theorem like_shares (r : List Int) : Like [[1], r] (fun l => .shares l) := fun s => by
  rw [told_row]
  rfl
theorem like_come : ∀ a : List Int, a.length = 4 → Like [2 :: a] (fun l => .come (l.getD 0 0) (l.getD 1 0) (l.getD 2 0) (l.getD 3 0)) := lall_s fun _ => lall_s fun _ => lall_s fun _ => lall_s fun _ => lall_0 fun _ => rfl
theorem like_share : ∀ a : List Int, a.length = 1 → Like [3 :: a] (fun l => .share (l.getD 0 0)) := lall_s fun _ => lall_0 fun _ => rfl
theorem like_next : ∀ a : List Int, a.length = 0 → Like [4 :: a] (fun _ => .next) := lall_0 fun _ => rfl
theorem like_after : ∀ a : List Int, a.length = 2 → Like [5 :: a] (fun l => .after (l.getD 0 0) (l.getD 1 0)) := lall_s fun _ => lall_s fun _ => lall_0 fun _ => rfl
theorem like_apart : ∀ a : List Int, a.length = 1 → Like [6 :: a] (fun l => .apart (l.getD 0 0)) := lall_s fun _ => lall_0 fun _ => rfl
theorem like_bound : ∀ a : List Int, a.length = 1 → Like [7 :: a] (fun l => .bound (l.getD 0 0)) := lall_s fun _ => lall_0 fun _ => rfl
theorem like_fewest : ∀ a : List Int, a.length = 0 → Like [8 :: a] (fun _ => .fewest) := lall_0 fun _ => rfl
theorem like_from : ∀ a : List Int, a.length = 3 → Like [9 :: a] (fun l => .from_ (l.getD 0 0) (l.getD 1 0) (l.getD 2 0)) := lall_s fun _ => lall_s fun _ => lall_s fun _ => lall_0 fun _ => rfl
theorem like_reach : ∀ a : List Int, a.length = 2 → Like [10 :: a] (fun l => .reach (l.getD 0 0) (l.getD 1 0)) := lall_s fun _ => lall_s fun _ => lall_0 fun _ => rfl
theorem like_mixed : ∀ a : List Int, a.length = 0 → Like [11 :: a] (fun _ => .mixed) := lall_0 fun _ => rfl
theorem like_keeps (r : List Int) : Like [[12], r] (fun l => .keeps l) := fun s => by
  rw [told_row]
  rfl
theorem like_weighed (r : List Int) : Like [[13], r] (fun l => .weighed l) := fun s => by
  rw [told_row]
  rfl
theorem like_rest : ∀ a : List Int, a.length = 2 → Like [14 :: a] (fun l => .rest (l.getD 0 0) (l.getD 1 0)) := lall_s fun _ => lall_s fun _ => lall_0 fun _ => rfl
theorem like_pair : ∀ a : List Int, a.length = 3 → Like [15 :: a] (fun l => .pair (l.getD 0 0) (l.getD 1 0) (l.getD 2 0)) := lall_s fun _ => lall_s fun _ => lall_s fun _ => lall_0 fun _ => rfl
theorem like_first : ∀ a : List Int, a.length = 1 → Like [16 :: a] (fun l => .first (l.getD 0 0)) := lall_s fun _ => lall_0 fun _ => rfl
theorem like_soon : ∀ a : List Int, a.length = 1 → Like [17 :: a] (fun l => .soon (l.getD 0 0)) := lall_s fun _ => lall_0 fun _ => rfl
theorem like_alone : ∀ a : List Int, a.length = 1 → Like [18 :: a] (fun l => .alone (l.getD 0 0)) := lall_s fun _ => lall_0 fun _ => rfl
theorem like_state : ∀ a : List Int, a.length = 0 → Like [19 :: a] (fun _ => .state) := lall_0 fun _ => rfl
theorem kind_of {c : List (List Int)} (h : PyFlat.okCall PyKqp4.shape c) : Kind c := by
  rcases call_raw h with ⟨p, r, rfl, hp⟩ | ⟨p, a, n, rfl, hp, hl⟩
  · clear h
    cases hp
    · exact .k0 rfl (like_start r)
    · exact .k1 rfl (like_shares r)
    · exact .k12 rfl (like_keeps r)
    · exact .k13 rfl (like_weighed r)
  · clear h
    have hl' := (congrArg List.length (told_plain p a)).trans hl
    cases hp
    · exact .k2 rfl hl' (like_come a hl)
    · exact .k3 rfl hl' (like_share a hl)
    · exact .k4 rfl hl' (like_next a hl)
    · exact .k5 rfl hl' (like_after a hl)
    · exact .k6 rfl hl' (like_apart a hl)
    · exact .k7 rfl hl' (like_bound a hl)
    · exact .k8 rfl hl' (like_fewest a hl)
    · exact .k9 rfl hl' (like_from a hl)
    · exact .k10 rfl hl' (like_reach a hl)
    · exact .k11 rfl hl' (like_mixed a hl)
    · exact .k14 rfl hl' (like_rest a hl)
    · exact .k15 rfl hl' (like_pair a hl)
    · exact .k16 rfl hl' (like_first a hl)
    · exact .k17 rfl hl' (like_soon a hl)
    · exact .k18 rfl hl' (like_alone a hl)
    · exact .k19 rfl hl' (like_state a hl)
theorem stp_none {c : List (List Int)} (h : PyFlat.okCall PyKqp4.shape c) (hn : numOf c ≠ 0) : stp none c = (none, [-11]) := by
  cases kind_of h with
  | k0 h0 _ => exact absurd h0 hn
  | k1 _ he => exact he none
  | k2 _ _ he => exact he none
  | k3 _ _ he => exact he none
  | k4 _ _ he => exact he none
  | k5 _ _ he => exact he none
  | k6 _ _ he => exact he none
  | k7 _ _ he => exact he none
  | k8 _ _ he => exact he none
  | k9 _ _ he => exact he none
  | k10 _ _ he => exact he none
  | k11 _ _ he => exact he none
  | k12 _ he => exact he none
  | k13 _ he => exact he none
  | k14 _ _ he => exact he none
  | k15 _ _ he => exact he none
  | k16 _ _ he => exact he none
  | k17 _ _ he => exact he none
  | k18 _ _ he => exact he none
  | k19 _ _ he => exact he none
noncomputable def spCallT (C : Addr) : Sp := fun vs H Q E => spCall C vs H Q E
structure DefK (P : Program) (w : World) (K : PySem.W.Frag) (mg : Str → Option Value) (base : Heap) (f : Addr) (sp : Sp) : Prop where
  ex : ∃ (fd : FuncData) (ps : List Str), FnOk P w K mg base CX0 5 f fd ps sp ∧ Binds K fd ps []
  kp : PySem.W.keepIn K (.ref f) = true
section
variable {P : Program} {w : World} {K : PySem.W.Frag} {mg : Str → Option Value} {base : Heap} {C : Addr}
theorem defK_of {x : Str} {st : Stmt} {f : Addr} {sp : Sp} (D : Def K mg x st ["fields", "told"]) (q : mg x = some (.ref f)) (G : ∀ fd, Fun K x x st f fd → FnOk P w K mg base CX0 5 f fd ["fields", "told"] sp) : DefK P w K mg base f sp := by
  obtain ⟨f', fd, F, b, m⟩ := D
  cases Option.some.inj (q.symm.trans m)
  exact ⟨⟨fd, _, G fd F, b⟩, F.kp⟩
theorem sc_call : FnScope ["fields", "number", "told"] ["fields", "number", "told"] (defScope s_answer_call) := ⟨rfl, rfl, rfl, by decide +kernel, rfl, by decide +kernel, by decide +kernel⟩
theorem ok_call {f : Addr} {fd : FuncData} (T : Txt K mg C) (F : Fun K "answer_call" "answer_call" s_answer_call f fd) : FnOk P w K mg base CX0 6 f fd ["fields", "number", "told"] (spCallT C) := by
  obtain ⟨fh, fdh, Fh, bh, mh⟩ := T.m_how_many
  have Gh : FnOk P w K mg base CX0 1 fh fdh ["self"] (spHow C) := ok_how T Fh
  obtain ⟨ts, cS⟩ := T.c_START
  obtain ⟨tn, cN⟩ := T.c_NOT_STARTED
  obtain ⟨dA, f0, f1, f2, f3, f4, f5, f6, f7, f8, f9, f10, f11, f12, f13, f14, f15, f16, f17, f18, f19, mA, tA, q0, q1, q2, q3, q4, q5, q6, q7, q8, q9, q10, q11, q12, q13, q14, q15, q16, q17, q18, q19⟩ := T.t_ANSWERS
  have D0 : DefK P w K mg base f0 (spAns C true (fun _ => True) (fun l => .start l)) := defK_of T.d_answer_start q0 fun fd F => FnOk.mono (ok_astart T F) (by decide)
  have D1 : DefK P w K mg base f1 (spAnsL C (fun _ => True) (fun l => .shares l)) := defK_of T.d_answer_shares q1 fun fd F => FnOk.mono (ok_ashares T F) (by decide)
  have D2 : DefK P w K mg base f2 (spAnsL C (fun n => n = 4) (fun l => .come (l.getD 0 0) (l.getD 1 0) (l.getD 2 0) (l.getD 3 0))) := defK_of T.d_answer_come q2 fun fd F => FnOk.mono (ok_acome T F) (by decide)
  have D3 : DefK P w K mg base f3 (spAnsL C (fun n => n = 1) (fun l => .share (l.getD 0 0))) := defK_of T.d_answer_share q3 fun fd F => FnOk.mono (ok_ashare T F) (by decide)
  have D4 : DefK P w K mg base f4 (spAnsL C (fun n => n = 0) (fun _ => .next)) := defK_of T.d_answer_next q4 fun fd F => FnOk.mono (ok_anext T F) (by decide)
  have D5 : DefK P w K mg base f5 (spAnsL C (fun n => n = 2) (fun l => .after (l.getD 0 0) (l.getD 1 0))) := defK_of T.d_answer_after q5 fun fd F => FnOk.mono (ok_aafter T F) (by decide)
  have D6 : DefK P w K mg base f6 (spAnsL C (fun n => n = 1) (fun l => .apart (l.getD 0 0))) := defK_of T.d_answer_apart q6 fun fd F => FnOk.mono (ok_aapart T F) (by decide)
  have D7 : DefK P w K mg base f7 (spAnsL C (fun n => n = 1) (fun l => .bound (l.getD 0 0))) := defK_of T.d_answer_bound q7 fun fd F => FnOk.mono (ok_abound T F) (by decide)
  have D8 : DefK P w K mg base f8 (spAnsL C (fun n => n = 0) (fun _ => .fewest)) := defK_of T.d_answer_fewest q8 fun fd F => FnOk.mono (ok_afewest T F) (by decide)
  have D9 : DefK P w K mg base f9 (spAnsL C (fun n => n = 3) (fun l => .from_ (l.getD 0 0) (l.getD 1 0) (l.getD 2 0))) := defK_of T.d_answer_from q9 fun fd F => FnOk.mono (ok_afrom T F) (by decide)
  have D10 : DefK P w K mg base f10 (spAnsL C (fun n => n = 2) (fun l => .reach (l.getD 0 0) (l.getD 1 0))) := defK_of T.d_answer_reach q10 fun fd F => FnOk.mono (ok_areach T F) (by decide)
  have D11 : DefK P w K mg base f11 (spAnsL C (fun n => n = 0) (fun _ => .mixed)) := defK_of T.d_answer_mixed q11 fun fd F => FnOk.mono (ok_amixed T F) (by decide)
  have D12 : DefK P w K mg base f12 (spAnsL C (fun _ => True) (fun l => .keeps l)) := defK_of T.d_answer_keeps q12 fun fd F => FnOk.mono (ok_akeeps T F) (by decide)
  have D13 : DefK P w K mg base f13 (spAnsL C (fun _ => True) (fun l => .weighed l)) := defK_of T.d_answer_weighed q13 fun fd F => FnOk.mono (ok_aweighed T F) (by decide)
  have D14 : DefK P w K mg base f14 (spAnsL C (fun n => n = 2) (fun l => .rest (l.getD 0 0) (l.getD 1 0))) := defK_of T.d_answer_rest q14 fun fd F => FnOk.mono (ok_arest T F) (by decide)
  have D15 : DefK P w K mg base f15 (spAnsL C (fun n => n = 3) (fun l => .pair (l.getD 0 0) (l.getD 1 0) (l.getD 2 0))) := defK_of T.d_answer_pair q15 fun fd F => FnOk.mono (ok_apair T F) (by decide)
  have D16 : DefK P w K mg base f16 (spAnsL C (fun n => n = 1) (fun l => .first (l.getD 0 0))) := defK_of T.d_answer_first q16 fun fd F => FnOk.mono (ok_afirst T F) (by decide)
  have D17 : DefK P w K mg base f17 (spAnsL C (fun n => n = 1) (fun l => .soon (l.getD 0 0))) := defK_of T.d_answer_soon q17 fun fd F => FnOk.mono (ok_asoon T F) (by decide)
  have D18 : DefK P w K mg base f18 (spAnsL C (fun n => n = 1) (fun l => .alone (l.getD 0 0))) := defK_of T.d_answer_alone q18 fun fd F => FnOk.mono (ok_aalone T F) (by decide)
  have D19 : DefK P w K mg base f19 (spAnsL C (fun n => n = 0) (fun _ => .state)) := defK_of T.d_answer_state q19 fun fd F => FnOk.mono (ok_astate T F) (by decide)
  refine F.ok sc_call (fun vs H Q E h => ?_) (fun cdv A outer s H vs Q E hr h => ?_)
  · obtain ⟨_, _, _, _, _, _, rfl, _⟩ := h
    rfl
  · have hlim := h
    obtain ⟨fa, t, c, rs, s', k, rfl, hT, hok, hb, hts, hO, hk, fin⟩ := h
    have hr1 : Room 1 _ := hr.mono (by decide)
    obtain ⟨ua, rows, us, hF, hS⟩ := hO.ex
    obtain ⟨dx, ra, h1, h2⟩ := hF.obj
    refine ⟨_, pss_cons (ps_if (PW.pt (pw_and (pt_cmpR op_ne (pv 1) (pe_glob (v := .int 0) rfl cS ⟨_, rfl⟩) (nomark _)) (pw_and1 (pt_cmpR op_eq (pe_meth0 (pv 0) T.cl mh Gh hr1 bh .nil pass0) pe_int (nomark _))))) (pss_one (ps_ret (pe_lst (pa_cons (pe_glob (v := .int (-11)) rfl cN ⟨_, rfl⟩) pa_nil)))) pss_nil)
      (pss_one (ps_ret (pe_callV (k := 5) hr (pe_kget tA (pe_glob (v := .ref dA) rfl mA rfl) (pv 1) (fun _ _ => rfl)) pass0 (pa_cons (pv 0) (pa_cons (pv 2) pa_nil))))), ?_⟩
    have last : (s' = none → numOf c = 0) → ∀ D : Ends, D.rt = Q → (tRet (tCallV CX0 (cxOf CX0 P w K mg base ["fields", "number", "told"] "answer_call" (defScope s_answer_call) f cdv A outer s H E).nox 5 E0 (tKGet dA [(Sum.inl 0, .ref f0), (Sum.inl 1, .ref f1), (Sum.inl 2, .ref f2), (Sum.inl 3, .ref f3), (Sum.inl 4, .ref f4), (Sum.inl 5, .ref f5), (Sum.inl 6, .ref f6), (Sum.inl 7, .ref f7), (Sum.inl 8, .ref f8), (Sum.inl 9, .ref f9), (Sum.inl 10, .ref f10), (Sum.inl 11, .ref f11), (Sum.inl 12, .ref f12), (Sum.inl 13, .ref f13), (Sum.inl 14, .ref f14), (Sum.inl 15, .ref f15), (Sum.inl 16, .ref f16), (Sum.inl 17, .ref f17), (Sum.inl 18, .ref f18), (Sum.inl 19, .ref f19)] (tC (.ref dA)) (tVar 1)) (tCons (tVar 0) (tCons (tVar 2) tNil)))) D (start ["fields", "number", "told"] [.ref fa, .int (numOf c), .ref t]) H := by
      rintro hs0 D hD
      show (tCallV CX0 _ 5 E0 _ _) _ H D.rt
      rw [hD]
      cases kind_of hok with
      | k0 hn he => exact ⟨_, rfl, _, _, rfl, rfl, (by rw [hn]; rfl), f0, _, rfl, ⟨D0.ex, D0.kp⟩, _, rfl, _, rfl, show spAns C true (fun _ => True) (fun l => .start l) [.ref fa, .ref t] H Q E0 from ans_of hT hb hts hO hk (fun _ => rfl) trivial (he _) fin⟩
      | k1 hn he => exact ⟨_, rfl, _, _, rfl, rfl, (by rw [hn]; rfl), f1, _, rfl, ⟨D1.ex, D1.kp⟩, _, rfl, _, rfl, show spAnsL C (fun _ => True) (fun l => .shares l) [.ref fa, .ref t] H Q E0 from ans_ofL hT hb hts hO hk (fun z => absurd (hn.symm.trans (hs0 z)) (by decide)) trivial (he _) fin⟩
      | k2 hn hl he => exact ⟨_, rfl, _, _, rfl, rfl, (by rw [hn]; rfl), f2, _, rfl, ⟨D2.ex, D2.kp⟩, _, rfl, _, rfl, show spAnsL C (fun n => n = 4) (fun l => .come (l.getD 0 0) (l.getD 1 0) (l.getD 2 0) (l.getD 3 0)) [.ref fa, .ref t] H Q E0 from ans_ofL hT hb hts hO hk (fun z => absurd (hn.symm.trans (hs0 z)) (by decide)) hl (he _) fin⟩
      | k3 hn hl he => exact ⟨_, rfl, _, _, rfl, rfl, (by rw [hn]; rfl), f3, _, rfl, ⟨D3.ex, D3.kp⟩, _, rfl, _, rfl, show spAnsL C (fun n => n = 1) (fun l => .share (l.getD 0 0)) [.ref fa, .ref t] H Q E0 from ans_ofL hT hb hts hO hk (fun z => absurd (hn.symm.trans (hs0 z)) (by decide)) hl (he _) fin⟩
      | k4 hn hl he => exact ⟨_, rfl, _, _, rfl, rfl, (by rw [hn]; rfl), f4, _, rfl, ⟨D4.ex, D4.kp⟩, _, rfl, _, rfl, show spAnsL C (fun n => n = 0) (fun _ => .next) [.ref fa, .ref t] H Q E0 from ans_ofL hT hb hts hO hk (fun z => absurd (hn.symm.trans (hs0 z)) (by decide)) hl (he _) fin⟩
      | k5 hn hl he => exact ⟨_, rfl, _, _, rfl, rfl, (by rw [hn]; rfl), f5, _, rfl, ⟨D5.ex, D5.kp⟩, _, rfl, _, rfl, show spAnsL C (fun n => n = 2) (fun l => .after (l.getD 0 0) (l.getD 1 0)) [.ref fa, .ref t] H Q E0 from ans_ofL hT hb hts hO hk (fun z => absurd (hn.symm.trans (hs0 z)) (by decide)) hl (he _) fin⟩
      | k6 hn hl he => exact ⟨_, rfl, _, _, rfl, rfl, (by rw [hn]; rfl), f6, _, rfl, ⟨D6.ex, D6.kp⟩, _, rfl, _, rfl, show spAnsL C (fun n => n = 1) (fun l => .apart (l.getD 0 0)) [.ref fa, .ref t] H Q E0 from ans_ofL hT hb hts hO hk (fun z => absurd (hn.symm.trans (hs0 z)) (by decide)) hl (he _) fin⟩
      | k7 hn hl he => exact ⟨_, rfl, _, _, rfl, rfl, (by rw [hn]; rfl), f7, _, rfl, ⟨D7.ex, D7.kp⟩, _, rfl, _, rfl, show spAnsL C (fun n => n = 1) (fun l => .bound (l.getD 0 0)) [.ref fa, .ref t] H Q E0 from ans_ofL hT hb hts hO hk (fun z => absurd (hn.symm.trans (hs0 z)) (by decide)) hl (he _) fin⟩
      | k8 hn hl he => exact ⟨_, rfl, _, _, rfl, rfl, (by rw [hn]; rfl), f8, _, rfl, ⟨D8.ex, D8.kp⟩, _, rfl, _, rfl, show spAnsL C (fun n => n = 0) (fun _ => .fewest) [.ref fa, .ref t] H Q E0 from ans_ofL hT hb hts hO hk (fun z => absurd (hn.symm.trans (hs0 z)) (by decide)) hl (he _) fin⟩
      | k9 hn hl he => exact ⟨_, rfl, _, _, rfl, rfl, (by rw [hn]; rfl), f9, _, rfl, ⟨D9.ex, D9.kp⟩, _, rfl, _, rfl, show spAnsL C (fun n => n = 3) (fun l => .from_ (l.getD 0 0) (l.getD 1 0) (l.getD 2 0)) [.ref fa, .ref t] H Q E0 from ans_ofL hT hb hts hO hk (fun z => absurd (hn.symm.trans (hs0 z)) (by decide)) hl (he _) fin⟩
      | k10 hn hl he => exact ⟨_, rfl, _, _, rfl, rfl, (by rw [hn]; rfl), f10, _, rfl, ⟨D10.ex, D10.kp⟩, _, rfl, _, rfl, show spAnsL C (fun n => n = 2) (fun l => .reach (l.getD 0 0) (l.getD 1 0)) [.ref fa, .ref t] H Q E0 from ans_ofL hT hb hts hO hk (fun z => absurd (hn.symm.trans (hs0 z)) (by decide)) hl (he _) fin⟩
      | k11 hn hl he => exact ⟨_, rfl, _, _, rfl, rfl, (by rw [hn]; rfl), f11, _, rfl, ⟨D11.ex, D11.kp⟩, _, rfl, _, rfl, show spAnsL C (fun n => n = 0) (fun _ => .mixed) [.ref fa, .ref t] H Q E0 from ans_ofL hT hb hts hO hk (fun z => absurd (hn.symm.trans (hs0 z)) (by decide)) hl (he _) fin⟩
      | k12 hn he => exact ⟨_, rfl, _, _, rfl, rfl, (by rw [hn]; rfl), f12, _, rfl, ⟨D12.ex, D12.kp⟩, _, rfl, _, rfl, show spAnsL C (fun _ => True) (fun l => .keeps l) [.ref fa, .ref t] H Q E0 from ans_ofL hT hb hts hO hk (fun z => absurd (hn.symm.trans (hs0 z)) (by decide)) trivial (he _) fin⟩
      | k13 hn he => exact ⟨_, rfl, _, _, rfl, rfl, (by rw [hn]; rfl), f13, _, rfl, ⟨D13.ex, D13.kp⟩, _, rfl, _, rfl, show spAnsL C (fun _ => True) (fun l => .weighed l) [.ref fa, .ref t] H Q E0 from ans_ofL hT hb hts hO hk (fun z => absurd (hn.symm.trans (hs0 z)) (by decide)) trivial (he _) fin⟩
      | k14 hn hl he => exact ⟨_, rfl, _, _, rfl, rfl, (by rw [hn]; rfl), f14, _, rfl, ⟨D14.ex, D14.kp⟩, _, rfl, _, rfl, show spAnsL C (fun n => n = 2) (fun l => .rest (l.getD 0 0) (l.getD 1 0)) [.ref fa, .ref t] H Q E0 from ans_ofL hT hb hts hO hk (fun z => absurd (hn.symm.trans (hs0 z)) (by decide)) hl (he _) fin⟩
      | k15 hn hl he => exact ⟨_, rfl, _, _, rfl, rfl, (by rw [hn]; rfl), f15, _, rfl, ⟨D15.ex, D15.kp⟩, _, rfl, _, rfl, show spAnsL C (fun n => n = 3) (fun l => .pair (l.getD 0 0) (l.getD 1 0) (l.getD 2 0)) [.ref fa, .ref t] H Q E0 from ans_ofL hT hb hts hO hk (fun z => absurd (hn.symm.trans (hs0 z)) (by decide)) hl (he _) fin⟩
      | k16 hn hl he => exact ⟨_, rfl, _, _, rfl, rfl, (by rw [hn]; rfl), f16, _, rfl, ⟨D16.ex, D16.kp⟩, _, rfl, _, rfl, show spAnsL C (fun n => n = 1) (fun l => .first (l.getD 0 0)) [.ref fa, .ref t] H Q E0 from ans_ofL hT hb hts hO hk (fun z => absurd (hn.symm.trans (hs0 z)) (by decide)) hl (he _) fin⟩
      | k17 hn hl he => exact ⟨_, rfl, _, _, rfl, rfl, (by rw [hn]; rfl), f17, _, rfl, ⟨D17.ex, D17.kp⟩, _, rfl, _, rfl, show spAnsL C (fun n => n = 1) (fun l => .soon (l.getD 0 0)) [.ref fa, .ref t] H Q E0 from ans_ofL hT hb hts hO hk (fun z => absurd (hn.symm.trans (hs0 z)) (by decide)) hl (he _) fin⟩
      | k18 hn hl he => exact ⟨_, rfl, _, _, rfl, rfl, (by rw [hn]; rfl), f18, _, rfl, ⟨D18.ex, D18.kp⟩, _, rfl, _, rfl, show spAnsL C (fun n => n = 1) (fun l => .alone (l.getD 0 0)) [.ref fa, .ref t] H Q E0 from ans_ofL hT hb hts hO hk (fun z => absurd (hn.symm.trans (hs0 z)) (by decide)) hl (he _) fin⟩
      | k19 hn hl he => exact ⟨_, rfl, _, _, rfl, rfl, (by rw [hn]; rfl), f19, _, rfl, ⟨D19.ex, D19.kp⟩, _, rfl, _, rfl, show spAnsL C (fun n => n = 0) (fun _ => .state) [.ref fa, .ref t] H Q E0 from ans_ofL hT hb hts hO hk (fun z => absurd (hn.symm.trans (hs0 z)) (by decide)) hl (he _) fin⟩
    refine ⟨_, rfl, rfl, _, rfl, ite2 (fun hc => ?_) (fun hc => ?_)⟩
    · have hn0 : numOf c ≠ 0 := fun e => by
        rw [e] at hc
        exact absurd hc (by decide)
      refine ⟨_, rfl, fa, dx, _, rfl, h1, fF_no _ _ _ (by decide +kernel) (by decide +kernel) (by decide +kernel), fa, rs, ua, rows, us, _, rfl, hF, rfl, _, rfl, ite2 (fun hc2 => ?_) (fun hc2 => ?_)⟩
      · have hz : rows.length = 0 := by
          have e : V.int (rows.length : Int) = V.int 0 := of_decide_eq_true hc2
          have := V.int.inj e
          omega
        cases hS with
        | none =>
          have e := stp_none hok hn0
          refine ⟨by decide, fun p hp => fin _ p rs 0 ?_ (by omega) ?_ hp (Same.frame (Same.new hp)) (fun r hr => .inl hr) (fun g _ _ hA => hA.same (Same.new hp))⟩
          · rw [e]
            exact hO.same (Same.new hp)
          · rw [e]
            exact upd_same
        | some ok =>
          rw [cRows_length] at hz
          have := ok.two
          omega
      · refine last (fun z => ?_) _ rfl
        subst z
        cases hS
        exact absurd (decide_eq_true (show V.int (([] : List (List Int)).length : Int) = V.int 0 from rfl)) hc2
    · have hn0 : numOf c = 0 := by
        have : V.int (numOf c) = V.int 0 := by simpa using hc
        exact V.int.inj this
      exact iteF (last (fun _ => hn0) _ rfl)
end
end Fs

end

noncomputable def PySem.W.Fast.tw152353550513844945 : PySem.Params → PySem.W.Frag := Fs.KK
theorem PySem.W.Fast.te152353550513844945 : Fs.KK = PySem.W.Fast.tw152353550513844945 := rfl
noncomputable def PySem.W.Fast.tw10470940915580485024 : PySem.Program := PySem.Challenge.pw_fieldshares_s01_answers
theorem PySem.W.Fast.te10470940915580485024 : PySem.Challenge.pw_fieldshares_s01_answers = PySem.W.Fast.tw10470940915580485024 := rfl
open PySem PySem.W PyProof.Rows
set_option maxRecDepth 100000 in
set_option maxHeartbeats 0 in
theorem PySem.Challenge.cw_fieldshares_s01_answers_holds : PySem.Challenge.rw_fieldshares_s01_answers.Holds := by
  w_on; o_headS (PySem.W.kHook Fs.KK Fs.AS Fs.as_eq); (case hw => exact ⟨[.list [.int 4]], by decide +kernel, by decide +kernel⟩)
  refine L2.walk_specK (r := PySem.Challenge.rw_fieldshares_s01_answers) (k := 7) (CX := L2.CX0) (ps := ["calls"]) (sp := Fs.spAll) (by decide +kernel) rfl rfl ⟨rfl, by decide, by decide⟩ (fun w h Y => PySem.W.kIn_of Y) ?F ?S (fun _ _ _ _ z => z)
  case F =>
    intro w mg fa h Y KX G hmg
    have T := Fs.txt_of KX G
    obtain ⟨fc, fdc, FC, bc, mc⟩ := T.d_answer_call
    obtain ⟨f1, fd1, F1, b1, m1⟩ := T.d_answers
    cases Option.some.inj (hmg.symm.trans m1)
    refine ⟨fd1, fun s us hu => ?_, fun base _ _ => Fs.ok_all T F1 (by decide) FC bc mc (Fs.ok_call T FC)⟩
    exact Fs.binds_any F1 us hu s
  case S =>
    intro K H xs a hO hwi hask hx
    cases hx with
    | cons h1 h2 =>
      cases h2
      cases h1 with
      | lst hs ha =>
        have e := L2.ints_dw a.1 _ ha
        subst e
        have q : ((Codec.inLen 0 12400 a.1 && a.1.all (Codec.inInt 0 4294967295)) && true) = true := hwi
        rw [Bool.and_eq_true, Bool.and_eq_true] at q
        exact ⟨_, a.1, rfl, hs, (Codec.inNat_iff.mp q.1.1).2, hask, fun H' p hp => .lst (L2.SqL.of hp) (L2.dw_ints _)⟩
