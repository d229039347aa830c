import PyProof.Rows.All
import Wide.All
import OpenK.AllK
import Wide.FinOn
import Lean
import PyProof.EqAt
import PyProof.EqKinds
import PyProof.TupleCall
import KE.KIntText
import KE.KMinKey
import OpenK.KOwn
import KE.KTryMore
import KE.KIsNot
import PySem.Challenge.RW_manyquills_k14_whole_one_text
set_option compiler.extract_closed false
set_option Elab.async false
set_option linter.all false
set_option maxRecDepth 100000
namespace L2
open PySem PySem.Spec PyProof.Rows
noncomputable abbrev Key := Sum Int Str
noncomputable def keyIs : Key → Value → Bool
  | .inl k, v => Value.isInt k v
  | .inr x, v => Value.isStrOf x v
noncomputable def keyH (w : World) : Key → Int
  | .inl k => hashInt k
  | .inr x => hashStr w x
theorem keyIs_shape : ∀ {k : Key} {v : Value}, keyIs k v = true → (∃ i t, k = Sum.inl i ∧ v = Value.int i t) ∨ (∃ x t, k = Sum.inr x ∧ v = Value.str x t)
  | .inl i, v, h => by
    obtain ⟨t, e⟩ := Value.isInt_shape (k := i) (v := v) h
    exact .inl ⟨i, t, rfl, e⟩
  | .inr x, v, h => by
    obtain ⟨t, e⟩ := Value.isStrOf_shape (x := x) (v := v) h
    exact .inr ⟨x, t, rfl, e⟩
theorem key_ll (a b : Int) : decide ((Sum.inl a : Key) = Sum.inl b) = (a == b) := by
  by_cases e : a = b
  · subst e; simp
  · have h : ¬ (Sum.inl a : Key) = Sum.inl b := fun q => e (Sum.inl.inj q)
    rw [decide_eq_false h]
    exact (beq_eq_false_iff_ne.mpr e).symm
theorem key_rr (a b : Str) : decide ((Sum.inr a : Key) = Sum.inr b) = decide (a = b) := by
  by_cases e : a = b
  · subst e; simp
  · have h : ¬ (Sum.inr a : Key) = Sum.inr b := fun q => e (Sum.inr.inj q)
    rw [decide_eq_false h, decide_eq_false e]
theorem key_lr (a : Int) (b : Str) : decide ((Sum.inl a : Key) = Sum.inr b) = false := decide_eq_false (fun q => nomatch q)
theorem key_rl (a : Str) (b : Int) : decide ((Sum.inr a : Key) = Sum.inl b) = false := decide_eq_false (fun q => nomatch q)
noncomputable def mixKind (prog : Program) (w : World) : PySem.KeyKind prog w Key where
  is := keyIs
  hash := keyH w
  inj := fun v a b ha hb => by
    rcases keyIs_shape ha with ⟨i, t, rfl, rfl⟩ | ⟨x, t, rfl, rfl⟩
    · rcases keyIs_shape hb with ⟨j, u, rfl, e⟩ | ⟨y, u, rfl, e⟩
      · injection e with e1 _; rw [e1]
      · exact nomatch e
    · rcases keyIs_shape hb with ⟨j, u, rfl, e⟩ | ⟨y, u, rfl, e⟩
      · exact nomatch e
      · injection e with e1 _; rw [e1]
  byValue := fun k v h => by
    rcases keyIs_shape h with ⟨i, t, rfl, rfl⟩ | ⟨x, t, rfl, rfl⟩ <;> rfl
  pyHash := fun hv h => by
    rcases keyIs_shape hv with ⟨i, t, rfl, rfl⟩ | ⟨x, t, rfl, rfl⟩
    · exact wpAny_pyHash_int h
    · exact wpAny_pyHash_str h
  eqBool := fun hu hv h => by
    rcases keyIs_shape hu with ⟨i, t, rfl, rfl⟩ | ⟨x, t, rfl, rfl⟩
    · rcases keyIs_shape hv with ⟨j, u, rfl, rfl⟩ | ⟨y, u, rfl, rfl⟩
      · rw [key_ll] at h; exact wpAny_eqBool_int h
      · rw [key_lr] at h; exact SeqAt.EqAt.int_str i t y u _ _ _ _ h
    · rcases keyIs_shape hv with ⟨j, u, rfl, rfl⟩ | ⟨y, u, rfl, rfl⟩
      · rw [key_rl] at h; exact SeqAt.EqAt.str_int x t j u _ _ _ _ h
      · rw [key_rr] at h; exact wpAny_eqBool_str h
  «strs» := fun k x t v h => by
    rcases keyIs_shape h with ⟨i, u, rfl, e⟩ | ⟨y, u, rfl, e⟩
    · exact nomatch e
    · injection e with e1 _
      subst e1
      cases v <;> rfl
end L2
namespace L2
open PySem PySem.Spec PyProof.Rows
inductive V where
  | non | bl (b : Bool) | int (i : Int) | str (x : Str) | byt (b : Array UInt8) | flt (b : UInt64) | ref (a : Addr) | ty (n : String)
  deriving DecidableEq
noncomputable def RelV : V → Value → Prop
  | .non, u => u = Value.none
  | .bl b, u => u = Value.bool b
  | .int i, u => ∃ t, u = Value.int i t
  | .str x, u => ∃ t, u = Value.str x t
  | .byt b, u => ∃ t, u = Value.bytes b t
  | .flt b, u => ∃ t, u = Value.float b t
  | .ref a, u => u = Value.ref a
  | .ty n, u => u = Value.type n
noncomputable abbrev Vals : List V → List Value → Prop := Paired RelV
theorem Vals.length {xs : List V} {us : List Value} (r : Vals xs us) : xs.length = us.length := Paired.length r
theorem Vals.get : ∀ {xs : List V} {us : List Value} {i : Nat} {x : V}, Vals xs us → xs[i]? = some x → ∃ u, us[i]? = some u ∧ RelV x u
  | _, _, _, _, .nil, e => by simp at e
  | _, _, 0, _, .cons r _, e => by simp at e; subst e; exact ⟨_, rfl, r⟩
  | _, _, i + 1, x, .cons _ t, e => by
    obtain ⟨u, h1, h2⟩ := Vals.get (i := i) (x := x) t (by simpa using e)
    exact ⟨u, by simpa using h1, h2⟩
theorem Vals.append : ∀ {xs ys : List V} {us ws : List Value}, Vals xs us → Vals ys ws → Vals (xs ++ ys) (us ++ ws)
  | _, _, _, _, .nil, s => s
  | _, _, _, _, .cons r t, s => .cons r (Vals.append t s)
theorem Vals.take : ∀ {xs : List V} {us : List Value} (n : Nat), Vals xs us → Vals (xs.take n) (us.take n)
  | _, _, 0, _ => .nil
  | _, _, _ + 1, .nil => .nil
  | _, _, n + 1, .cons r t => .cons r (Vals.take n t)
theorem Vals.drop : ∀ {xs : List V} {us : List Value} (n : Nat), Vals xs us → Vals (xs.drop n) (us.drop n)
  | _, _, 0, r => r
  | _, _, _ + 1, .nil => .nil
  | _, _, n + 1, .cons _ t => Vals.drop n t
noncomputable def RelO : Option V → Option Value → Prop
  | some v, some u => RelV v u
  | none, none => True
  | _, _ => False
noncomputable def KV {κ : Type} : List (κ × V) → List (κ × Value) → Prop := Paired fun (p : κ × V) (q : κ × Value) => p.1 = q.1 ∧ RelV p.2 q.2
noncomputable def kV : Key → V
  | .inl i => .int i
  | .inr x => .str x
inductive HO where
  | lst (xs : List V)
  | tup (xs : List V)
  | dK (kvs : List (Key × V)) | dT (kvs : List (List Key × V))
  | set (S : Int → Bool) (n : Nat)
  | ins (C dx : Addr) (fs : List (Str × V))
  | own (x : Addr)
  | xd (fs : List (Str × V))
  | met (f x : Addr)
  | rng (lo hi : Int)
  | frz (o : Obj) (u : HO)
  | tbl (ps : Array Value)
  | ext (φ : Heap → Prop)
noncomputable abbrev Hp := Addr → Option HO
noncomputable def upd (H : Hp) (a : Addr) (o : HO) : Hp := fun b => if b = a then some o else H b
theorem upd_same {H : Hp} {a : Addr} {o : HO} : upd H a o a = some o := by unfold upd; rw [if_pos rfl]
theorem upd_ne {H : Hp} {a b : Addr} {o : HO} (h : b ≠ a) : upd H a o b = H b := by unfold upd; rw [if_neg h]
theorem upd_upd {H : Hp} {a : Addr} {o u : HO} : upd (upd H a o) a u = upd H a u := by
  funext b; unfold upd; split <;> rfl
theorem ne_of {H : Hp} {a b : Addr} {o u : HO} (h : H a = some o) (h' : H b = some u) (d : o ≠ u) : a ≠ b := by
  intro e; subst e; rw [h] at h'; exact d (Option.some.inj h')
theorem ne_of_none {H : Hp} {a b : Addr} {o : HO} (h : H a = some o) (h' : H b = none) : a ≠ b := by
  intro e; subst e; rw [h] at h'; cases h'
section
variable (P : Program) (w : World)
noncomputable def ObjOk (H : Hp) (h : Heap) (a : Addr) : HO → Prop
  | .lst xs => xs.length ≤ sizeLine ∧ ∃ (its : List Value) (n : Nat), Vals xs its ∧ h.get? a = some { cls := .type "list", data := .seq its.toArray n }
  | .tup xs => xs.length ≤ sizeLine ∧ ∃ its : List Value, Vals xs its ∧ IsTup h a its.toArray
  | .dK kvs => kvs.length ≤ sizeLine ∧ (a == sysModules) = false ∧ ∃ vs, KV kvs vs ∧ h.DictOf (mixKind P w) a vs
  | .dT kvs => kvs.length ≤ sizeLine ∧ (a == sysModules) = false ∧ ∃ xs : List (List Key × Addr × Value),
      Paired (fun (p : List Key × V) (q : List Key × Addr × Value) => p.1 = q.1 ∧ H q.2.1 = some (.tup (p.1.map kV)) ∧ RelV p.2 q.2.2) kvs xs ∧
      ∃ o es ep, h.get? a = some o ∧ o.ExactDict ∧ o.data = .dict es ep ∧ es.toList = xs.map (entryOfKey (tupleKind (mixKind P w))) ∧ (xs.map (·.1)).Nodup
  | .set S n => h.SetOf (intKind P w) a S n
  | .ins C dx fs => H dx = some (.own a) ∧ fs.length ≤ 1000 ∧ dx ≠ a ∧ h.get? a = some (PySem.W.instObj C dx) ∧
      ∃ mA, h.Ns1 dx mA ∧ (∀ f, RelO (fs.lookup f) (mA f)) ∧ PySem.Within mA (fs.map (·.1))
  | .own _ => ∃ o, h.get? a = some o
  | .xd fs => ∃ mA, h.Ns1 a mA ∧ ∀ f, RelO (fs.lookup f) (mA f)
  | .rng lo hi => ∃ t u v, h.get? a = some { cls := .type "range", data := .fields #[.int lo t, .int hi u, .int 1 v] }
  | .frz o u => h.get? a = some o ∧ ObjOk H h a u
  | .tbl ps => h.get? a = some { cls := .none, data := .fields ps }
  | .met f x => h.get? a = some (PySem.W.methodObj (.ref f) (.ref x))
  | .ext φ => φ h ∧ (∃ o, h.get? a = some o) ∧ ∀ h1 h2 : Heap, φ h1 → (∀ o, h1.get? a = some o → h2.get? a = some o) → φ h2
noncomputable def HOk (H : Hp) (h : Heap) : Prop := ∀ a o, H a = some o → ObjOk P w H h a o
end
section
variable {P : Program} {w : World} {H H' : Hp} {h h' : Heap} {a : Addr} {o : HO}
theorem ObjOk.lt (x : ObjOk P w H h a o) : a < h.objs.size := by
  cases o with
  | lst xs => obtain ⟨_, _, _, _, e⟩ := x; exact Heap.lt_size e
  | tup xs => obtain ⟨_, _, _, p⟩ := x; exact p.lt
  | dK kvs => obtain ⟨_, _, _, _, o, _, _, e, _⟩ := x; exact Heap.lt_size e
  | dT kvs => obtain ⟨_, _, _, _, o, _, _, e, _⟩ := x; exact Heap.lt_size e
  | set S n => obtain ⟨o, _, _, _, e, _⟩ := x; exact Heap.lt_size e
  | ins C dx fs => obtain ⟨_, _, _, e, _⟩ := x; exact Heap.lt_size e
  | own y => obtain ⟨_, e⟩ := x; exact Heap.lt_size e
  | xd fs => obtain ⟨_, ⟨_, _, _, e, _⟩, _⟩ := x; exact Heap.lt_size e
  | rng lo hi => obtain ⟨_, _, _, e⟩ := x; exact Heap.lt_size e
  | frz ob u => obtain ⟨e, _⟩ := x; exact Heap.lt_size e
  | tbl ps => exact Heap.lt_size (show h.get? a = some _ from x)
  | met f y => exact Heap.lt_size (show h.get? a = some _ from x)
  | ext φ => obtain ⟨_, ⟨_, e⟩, _⟩ := x; exact Heap.lt_size e
theorem Paired.mapP {α β : Type} {F G : α → β → Prop} : ∀ {l₁ : List α} {l₂ : List β}, Paired F l₁ l₂ → (∀ a b, F a b → G a b) → Paired G l₁ l₂
  | _, _, .nil, _ => .nil
  | _, _, .cons r t, f => .cons (f _ _ r) (Paired.mapP t f)
theorem ObjOk.stay (x : ObjOk P w H h a o) (k : ∀ b u, (b = a ∨ H b = some (.own a)) → h.get? b = some u → h'.get? b = some u)
    (ho : ∀ b, H b = some (.own a) → H' b = some (.own a)) (ht : ∀ b xs, H b = some (.tup xs) → H' b = some (.tup xs)) : ObjOk P w H' h' a o := by
  induction o with
  | lst xs => obtain ⟨z, its, n, r, e⟩ := x; exact ⟨z, its, n, r, k _ _ (.inl rfl) e⟩
  | tup xs => obtain ⟨z, its, r, ob, e, c⟩ := x; exact ⟨z, its, r, ob, k _ _ (.inl rfl) e, c⟩
  | dK kvs => obtain ⟨z, y, vs, r, ob, es, ep, e, c⟩ := x; exact ⟨z, y, vs, r, ob, es, ep, k _ _ (.inl rfl) e, c⟩
  | dT kvs =>
    obtain ⟨z, y, xs, r, ob, es, ep, e, c⟩ := x
    exact ⟨z, y, xs, Paired.mapP r fun p q z => ⟨z.1, ht _ _ z.2.1, z.2.2⟩, ob, es, ep, k _ _ (.inl rfl) e, c⟩
  | set S n => obtain ⟨ob, es, ep, t, e, c⟩ := x; exact ⟨ob, es, ep, t, k _ _ (.inl rfl) e, c⟩
  | ins C dx fs =>
    obtain ⟨d, z, ne, e, mA, ⟨od, es, ep, e2, c⟩, r⟩ := x
    exact ⟨ho _ d, z, ne, k _ _ (.inl rfl) e, mA, ⟨od, es, ep, k _ _ (.inr d) e2, c⟩, r⟩
  | own y => obtain ⟨ob, e⟩ := x; exact ⟨ob, k _ _ (.inl rfl) e⟩
  | xd fs => obtain ⟨mA, ⟨od, es, ep, e, c⟩, r⟩ := x; exact ⟨mA, ⟨od, es, ep, k _ _ (.inl rfl) e, c⟩, r⟩
  | rng lo hi => obtain ⟨t, u, v, e⟩ := x; exact ⟨t, u, v, k _ _ (.inl rfl) e⟩
  | frz ob u ih => obtain ⟨e, q⟩ := x; exact ⟨k _ _ (.inl rfl) e, ih q⟩
  | tbl ps =>
    have e : h.get? a = some { cls := .none, data := .fields ps } := x
    show h'.get? a = some { cls := .none, data := .fields ps }
    exact k a _ (.inl rfl) e
  | met f y =>
    have e : h.get? a = some (PySem.W.methodObj (.ref f) (.ref y)) := x
    show h'.get? a = some (PySem.W.methodObj (.ref f) (.ref y))
    exact k a _ (.inl rfl) e
  | ext φ => obtain ⟨p, ⟨o, e⟩, st⟩ := x; exact ⟨st _ _ p fun o q => k _ _ (.inl rfl) q, ⟨o, k _ _ (.inl rfl) e⟩, st⟩
theorem HOk.lt (x : HOk P w H h) (e : H a = some o) : a < h.objs.size := (x a o e).lt
theorem HOk.fresh (x : HOk P w H h) (e : h.objs.size ≤ a) : H a = none := by
  cases q : H a with
  | none => rfl
  | some u => exact absurd (Nat.lt_of_lt_of_le (x.lt q) e) (Nat.lt_irrefl _)
theorem HOk.kept (x : HOk P w H h) (k : ∀ b u, h.get? b = some u → h'.get? b = some u) : HOk P w H h' := fun a o e =>
  (x a o e).stay (fun b u _ q => k b u q) (fun _ q => q) fun _ _ q => q
theorem HOk.laid (x : HOk P w H h) (k : ∀ b u, h.get? b = some u → h'.get? b = some u) (hp : h.objs.size ≤ a) (new : ObjOk P w (upd H a o) h' a o) : HOk P w (upd H a o) h' := fun b u e => by
  have hn := x.fresh hp
  by_cases hb : b = a
  · subst hb; rw [upd_same] at e; cases e; exact new
  · rw [upd_ne hb] at e
    exact (x b u e).stay (fun c v _ q => k c v q) (fun c q => by rw [upd_ne (ne_of_none q hn)]; exact q) fun c xs q => by rw [upd_ne (ne_of_none q hn)]; exact q
end
noncomputable def Rd (H : Hp) (a : Addr) (u : HO) : Prop := H a = some u ∨ ∃ o, H a = some (.frz o u)
theorem Rd.ok {P : Program} {w : World} {H : Hp} {h : Heap} {a : Addr} {u : HO} (r : Rd H a u) (x : HOk P w H h) : ObjOk P w H h a u := by
  rcases r with r | ⟨o, r⟩
  · exact x a u r
  · obtain ⟨_, q⟩ := x a _ r
    exact q
noncomputable def Mut : Option HO → Prop
  | some (.lst _) => True
  | some (.dK _) => True
  | some (.dT _) => True
  | some (.set _ _) => True
  | some (.ins _ _ _) => True
  | some (.ext _) => True
  | _ => False
section
variable {P : Program} {w : World} {H : Hp} {h h' : Heap} {x e : Addr} {o' : HO}
theorem HOk.write (ok : HOk P w H h) (mu : Mut (H x)) (he : e = x ∨ H e = some (.own x)) (k : ∀ b u, b ≠ e → h.get? b = some u → h'.get? b = some u) (heo : ∃ u, h'.get? e = some u)
    (new : ObjOk P w (upd H x o') h' x o') : HOk P w (upd H x o') h' := fun b u q => by
  have nown : ∀ c y, H c = some (.own y) → c ≠ x := fun c y r z => by subst z; rw [r] at mu; exact mu
  have ntup : ∀ c xs, H c = some (.tup xs) → c ≠ x := fun c xs r z => by subst z; rw [r] at mu; exact mu
  by_cases hb : b = x
  · subst hb; rw [upd_same] at q; cases q; exact new
  · rw [upd_ne hb] at q
    by_cases hbe : b = e
    · have q' : H b = some (.own x) := by
        rcases he with z | z
        · exact absurd (hbe.trans z) hb
        · rw [hbe]; exact z
      rw [q] at q'; cases q'
      obtain ⟨v, hv⟩ := heo
      exact ⟨v, by rw [hbe]; exact hv⟩
    · refine (ok b u q).stay (fun c v hc r => k c v ?_ r) (fun c r => by rw [upd_ne (nown c b r)]; exact r) fun c xs r => by rw [upd_ne (ntup c xs r)]; exact r
      rcases hc with rfl | hc
      · exact hbe
      · rintro rfl
        rcases he with z | z
        · exact nown c b hc z
        · rw [hc] at z; cases z; exact hb rfl
end
structure Un (fs ex : List Addr) (H H' : Hp) (h h' : Heap) : Prop where
  keep : ∀ b o, h.get? b = some o → H b = none → b ∉ fs → b ∉ ex → h'.get? b = some o
  slot : ∀ b o, h.get? b = some o → H b = none → b ∈ fs → b ∉ ex → ∃ sl, h'.get? b = some { o with slots := sl }
  free : ∀ b o, h.get? b = some o → H b = none → b ∉ ex → H' b = none
  there : ∀ b o, h.get? b = some o → b ∉ ex → ∃ o', h'.get? b = some o'
  tups : ∀ b xs, H b = some (.tup xs) → H' b = some (.tup xs)
  frzs : ∀ b o u, H b = some (.frz o u) → H' b = some (.frz o u)
  tbls : ∀ b ps, H b = some (.tbl ps) → ∃ more, H' b = some (.tbl (ps ++ more))
section
variable {fs fs' ex ex' : List Addr} {H H1 H2 : Hp} {h h1 h2 h' : Heap} {a x e : Addr} {o : HO}
theorem Un.any (u : Un fs ex H H1 h h1) {b : Addr} {ob : Obj} (q : h.get? b = some ob) (n : H b = none) (hx : b ∉ ex) : ∃ sl, h1.get? b = some { ob with slots := sl } := by
  by_cases hb : b ∈ fs
  · exact u.slot b ob q n hb hx
  · exact ⟨ob.slots, u.keep b ob q n hb hx⟩
theorem Un.kept (k : ∀ b u, h.get? b = some u → h'.get? b = some u) : Un fs ex H H h h' :=
  ⟨fun b ob q _ _ _ => k b ob q, fun b ob q _ _ _ => ⟨ob.slots, k b ob q⟩, fun _ _ _ n _ => n, fun b ob q _ => ⟨ob, k b ob q⟩, fun _ _ q => q, fun _ _ _ q => q, fun _ ps q => ⟨#[], by rw [q]; simp⟩⟩
theorem Un.refl : Un fs ex H H h h := Un.kept fun _ _ q => q
theorem Un.laid (k : ∀ b u, h.get? b = some u → h'.get? b = some u) (hp : h.objs.size ≤ a) (hn : H a = none) : Un fs ex H (upd H a o) h h' where
  keep := fun b u q _ _ _ => k b u q
  slot := fun b u q _ _ _ => ⟨u.slots, k b u q⟩
  free := fun b u q n _ => by rw [upd_ne (Nat.ne_of_lt (Nat.lt_of_lt_of_le (Heap.lt_size q) hp))]; exact n
  there := fun b u q _ => ⟨u, k b u q⟩
  tups := fun b xs q => by rw [upd_ne (ne_of_none q hn)]; exact q
  frzs := fun b u xs q => by rw [upd_ne (ne_of_none q hn)]; exact q
  tbls := fun b ps q => ⟨#[], by rw [upd_ne (ne_of_none q hn), q]; simp⟩
theorem Un.write (mu : Mut (H x)) (he : e = x ∨ H e = some (.own x)) (k : ∀ b u, b ≠ e → h.get? b = some u → h'.get? b = some u) (heo : ∃ u, h'.get? e = some u) : Un fs ex H (upd H x o) h h' := by
  have hx : ∀ b, H b = none → b ≠ x := fun b n z => by subst z; rw [n] at mu; exact mu
  have hb : ∀ b, H b = none → b ≠ e := fun b n z => by
    subst z
    rcases he with r | r
    · exact hx b n r
    · rw [n] at r; cases r
  have hm : ∀ b u, H b = some u → ¬ Mut (some u) → b ≠ x := fun b u q nm z => by subst z; rw [q] at mu; exact nm mu
  refine ⟨fun b u q n _ _ => k b u (hb b n) q, fun b u q n _ _ => ⟨u.slots, k b u (hb b n) q⟩, fun b u q n _ => by rw [upd_ne (hx b n)]; exact n, fun b u q _ => ?_,
    fun b xs q => by rw [upd_ne (hm b _ q fun z => z)]; exact q, fun b u xs q => by rw [upd_ne (hm b _ q fun z => z)]; exact q, fun b ps q => ⟨#[], by rw [upd_ne (hm b _ q fun z => z), q]; simp⟩⟩
  by_cases hbe : b = e
  · subst hbe; exact heo
  · exact ⟨u, k b u hbe q⟩
end
noncomputable def trk (h : Heap) (H : Hp) : List Addr := (List.range h.objs.size).filter fun a => (H a).isSome
noncomputable def hidT (h : Heap) (H : Hp) : Heap := PySem.W.hideAll h (trk h H)
theorem hidT_size (h : Heap) (H : Hp) : (hidT h H).objs.size = h.objs.size := PySem.W.hideAll_size _ _
theorem hidT_get {h : Heap} {H : Hp} {b : Addr} {o : Obj} (e : h.get? b = some o) (n : H b = none) : (hidT h H).get? b = some o :=
  PySem.W.hideAll_get _ e fun hm => by
    have q : (H b).isSome = true := (List.mem_filter.mp hm).2
    rw [n] at q; simp at q
theorem of_hidT {h : Heap} {H : Hp} {b : Addr} {o : Obj} (e : (hidT h H).get? b = some o) : h.get? b = some o ∧ H b = none := by
  have e' : h.get? b = some o := PySem.W.of_hideAll (trk h H) e
  refine ⟨e', ?_⟩
  cases q : H b with
  | none => rfl
  | some x =>
    have hm : b ∈ trk h H := List.mem_filter.mpr ⟨List.mem_range.mpr (Heap.lt_size e'), by simp [q]⟩
    have z : (hidT h H).get? b = none := PySem.W.hideAll_none (trk h H) hm
    rw [z] at e; cases e
noncomputable def allNews (g h : Heap) (L : Addr) : List (Addr × Obj) := (List.range h.objs.size).filterMap fun a => if a = L ∨ (g.get? a).isSome = true then none else (h.get? a).map fun o => (a, o)
noncomputable def rest (g h : Heap) (L d : Addr) : List (Addr × Obj) := (allNews g h L).filter fun p => decide (p.1 ≠ d)
end L2
namespace L2
open PySem PySem.Spec PyProof.Rows
structure Mod (K : PySem.W.Frag) (mg : Str → Option Value) (base : Heap) : Prop where
  kin : K.In base
  glob : base.Ns mainGlobals mg
  blt : ∃ mb, base.Ns builtinsNs mb ∧ ∀ x : Str, x ≠ "__name__" → mb x = bootBuiltins x
  nolimit : base.NoLimit
structure Cx where
  prog : Program
  w : World
  K : PySem.W.Frag
  mg : Str → Option Value
  base : Heap
  A : Around
  N : List Str
  s₀ : Shared
  H₀ : Hp
  env : Env
  outer : List Env
  stack : List Env
  ex : List Addr
  fn : Str → Bool
  calm : Bool
  pn : List (Addr × Obj)
  xe : Value → Shared → Prop
noncomputable def frs (l : List Env) : List Addr := l.filterMap (·.frame)
noncomputable abbrev Cx.fs (X : Cx) : List Addr := frs X.outer
noncomputable def Vis (sc : Scope) (x : Str) : Prop := sc.names.lookup x = some .local ∨ sc.names.lookup x = some .cell ∨ sc.names.lookup x = some .free
noncomputable def Loc (sc : Scope) (x : Str) : Prop := sc.names.lookup x = some .local ∨ sc.names.lookup x = some .cell
noncomputable def Look (env : Env) (h : Heap) (m : Str → Option Value) (x : Str) (u : Value) : Prop :=
  (env.kindOf x = some .local ∧ m x = some u) ∨ ((env.kindOf x = some .cell ∨ env.kindOf x = some .free) ∧ ∃ c, env.cells.lookup x = some c ∧ h.IsCell c (some u))
structure Cx.Ok (X : Cx) : Prop where
  mod : Mod X.K X.mg X.base
  kind : X.env.scope.kind = .function
  glob : X.env.globals = mainGlobals
  blt : X.env.builtins = builtinsNs
  above : X.s₀.heap.objs.size ≤ X.env.locals
  inj : ∀ x y c, X.env.cells.lookup x = some c → X.env.cells.lookup y = some c → x = y
  has : ∀ x, (X.env.kindOf x = some .cell ∨ X.env.kindOf x = some .free) → ∃ c, X.env.cells.lookup x = some c
  cab : ∀ x c, X.fn x = true → X.env.cells.lookup x = some c → X.s₀.heap.objs.size ≤ c
  hd : X.calm = true → X.A.handled = none
  frames : X.A.frames = some X.stack
  stk : X.stack = X.outer ∨ (X.stack = X.env :: X.outer ∧ X.env.frame = some X.env.locals)
  exf : ∀ b ∈ X.ex, b ≠ X.env.locals ∧ ∀ x c, X.env.cells.lookup x = some c → c ≠ b
  bs : ∀ b o, X.base.get? b = some o → X.s₀.heap.get? b = some o ∧ X.H₀ b = none
  bsz : X.base.objs.size ≤ X.s₀.heap.objs.size
  noex : ∀ b o, X.base.get? b = some o → b ∉ X.ex
  exfs : ∀ b ∈ X.ex, b ∉ X.fs
  funs : X.s₀.heap.FunFrames X.base X.outer
  frf : ∀ b ∈ X.fs, X.H₀ b = none
structure Inv (X : Cx) (pins : List (Addr × Obj)) (σ : List (Option V)) (H : Hp) (s : Shared) : Prop where
  ok : X.Ok
  os : s.os = X.s₀.os
  bare : AllBare s.gens
  base : Un X.fs X.ex X.H₀ H X.s₀.heap s.heap
  loc : ∃ m, s.heap.Ns X.env.locals m ∧ ∀ (i : Nat) (x : Str) (v : V), X.N[i]? = some x → σ[i]? = some (some v) → Vis X.env.scope x → ∃ u, RelV v u ∧ Look X.env s.heap m x u
  cell : ∀ x c, X.env.cells.lookup x = some c → ∃ v, s.heap.IsCell c v
  free : H X.env.locals = none
  freeC : ∀ x c, X.env.cells.lookup x = some c → H c = none
  pin : ∀ p ∈ X.pn ++ pins, s.heap.get? p.1 = some p.2 ∧ H p.1 = none ∧ p.1 ≠ X.env.locals ∧ p.1 ∉ X.fs ∧ ∀ v, p.2.data ≠ .cell v
  hok : HOk X.prog X.w H s.heap
  len : σ.length = X.N.length
section
variable {X : Cx} {pins : List (Addr × Obj)} {σ : List (Option V)} {H H' : Hp} {s : Shared} {h' : Heap}
theorem Cx.Ok.nofr (ok : X.Ok) {b : Addr} {o : Obj} (e : X.base.get? b = some o) : b ∉ X.fs := fun hb => by
  have := (ok.funs.mem hb).1
  rw [e] at this; cases this
theorem Inv.bs (I : Inv X pins σ H s) : ∀ b o, X.base.get? b = some o → s.heap.get? b = some o ∧ H b = none := fun b o e =>
  ⟨I.base.keep b o (I.ok.bs b o e).1 (I.ok.bs b o e).2 (I.ok.nofr e) (I.ok.noex b o e), I.base.free b o (I.ok.bs b o e).1 (I.ok.bs b o e).2 (I.ok.noex b o e)⟩
theorem Inv.bk (I : Inv X pins σ H s) : ∀ b o, X.base.get? b = some o → s.heap.get? b = some o := fun b o e => (I.bs b o e).1
theorem Inv.mod (I : Inv X pins σ H s) : Mod X.K X.mg X.base := I.ok.mod
theorem Inv.kIn (I : Inv X pins σ H s) : X.K.In s.heap := I.ok.mod.kin.keeps I.bk
theorem Inv.fr (I : Inv X pins σ H s) : ∃ m, Fr X.base X.env.locals s.heap m :=
  let ⟨m, hn, _⟩ := I.loc
  ⟨m, hn, I.bk, Nat.le_trans I.ok.bsz I.ok.above⟩
theorem Inv.lt (I : Inv X pins σ H s) : X.env.locals < s.heap.objs.size := let ⟨_, hn, _⟩ := I.loc; hn.lt
theorem Inv.sz (I : Inv X pins σ H s) : X.s₀.heap.objs.size ≤ s.heap.objs.size := Nat.le_trans I.ok.above (Nat.le_of_lt I.lt)
theorem Inv.nofs (I : Inv X pins σ H s) {a : Addr} (h : s.heap.objs.size ≤ a) : a ∉ X.fs := fun hb => by
  obtain ⟨_, o, ho, _⟩ := I.ok.funs.mem hb
  exact absurd (Nat.lt_of_lt_of_le (Heap.lt_size ho) (Nat.le_trans I.sz h)) (Nat.lt_irrefl _)
theorem Inv.cne (I : Inv X pins σ H s) : ∀ x c, X.env.cells.lookup x = some c → c ≠ X.env.locals := fun x c e z => by
  obtain ⟨v, o, ho, hd⟩ := I.cell x c e
  obtain ⟨m, ⟨o', es, ep, ho', hd', _⟩, _⟩ := I.loc
  rw [z, ho'] at ho; cases ho; rw [hd'] at hd; cases hd
theorem Inv.funs (I : Inv X pins σ H s) : s.heap.FunFrames X.base X.outer := by
  have all : ∀ (l : List Env), (∀ b ∈ frs l, b ∈ X.fs) → X.s₀.heap.FunFrames X.base l → s.heap.FunFrames X.base l := by
    intro l
    induction l with
    | nil => intro _ _; trivial
    | cons env r ih =>
      intro hs hl
      obtain ⟨hk, ⟨L, o, hf, hn, ho, hd⟩, hr⟩ := hl
      have hL : L ∈ X.fs := hs L (by unfold frs; rw [List.filterMap_cons, hf]; exact List.mem_cons_self)
      obtain ⟨sl, e⟩ := I.base.slot L o ho (I.ok.frf L hL) hL fun z => I.ok.exfs L z hL
      exact ⟨hk, ⟨L, _, hf, hn, e, hd⟩, ih (fun b hb => hs b (by unfold frs; rw [List.filterMap_cons, hf]; exact List.mem_cons_of_mem _ hb)) hr⟩
  exact all X.outer (fun _ hb => hb) I.ok.funs
theorem Inv.stack (I : Inv X pins σ H s) : s.heap.FunFrames X.base X.stack := by
  rcases I.ok.stk with e | ⟨e, hf⟩
  · rw [e]; exact I.funs
  · rw [e]
    obtain ⟨m, hn, _⟩ := I.loc
    refine .cons (by rw [I.ok.kind]; decide) hf hn ?_ I.funs
    exact Heap.get?_none_of_le (Nat.le_trans I.ok.bsz I.ok.above)
theorem Inv.stkSub (I : Inv X pins σ H s) : ∀ b ∈ frs X.stack, b ∈ X.env.locals :: X.fs := fun b hb => by
  rcases I.ok.stk with e | ⟨e, hf⟩
  · rw [e] at hb; exact List.mem_cons_of_mem _ hb
  · rw [e] at hb
    unfold frs at hb
    rw [List.filterMap_cons, hf] at hb
    exact hb
theorem Inv.stkFree (I : Inv X pins σ H s) : ∀ b ∈ frs X.stack, H b = none := fun b hb => by
  rcases List.mem_cons.mp (I.stkSub b hb) with e | hb
  · rw [e]; exact I.free
  · obtain ⟨_, o, ho, _⟩ := I.ok.funs.mem hb
    exact I.base.free b o ho (I.ok.frf b hb) fun z => I.ok.exfs b z hb
theorem Inv.step {g' : Array GenState} {t' : Nat} {d' : Drawn} {ch : List Addr} (I : Inv X pins σ H s)
    (hch : ∀ b ∈ ch, (b ∈ X.ex ∨ X.s₀.heap.objs.size ≤ b) ∧ b ≠ X.env.locals ∧ (∀ x c, X.env.cells.lookup x = some c → c ≠ b) ∧ ∀ p ∈ X.pn ++ pins, p.1 ≠ b)
    (keep : ∀ b o, b ≠ X.env.locals → b ∉ X.fs → b ∉ ch → s.heap.get? b = some o → H b = none → h'.get? b = some o)
    (slot : ∀ b o, b ≠ X.env.locals → b ∈ X.fs → b ∉ ch → s.heap.get? b = some o → H b = none → ∃ sl, h'.get? b = some { o with slots := sl }) (free : ∀ b o, b ∉ ch → s.heap.get? b = some o → H b = none → H' b = none)
    (there : ∀ b o, b ∉ ch → s.heap.get? b = some o → ∃ o', h'.get? b = some o')
    (tups : ∀ b xs, H b = some (.tup xs) → H' b = some (.tup xs)) (frzs : ∀ b o u, H b = some (.frz o u) → H' b = some (.frz o u)) (tbls : ∀ b ps, H b = some (.tbl ps) → ∃ more, H' b = some (.tbl (ps ++ more)))
    (ns : ∀ m, s.heap.Ns X.env.locals m → h'.Ns X.env.locals m) (hok : HOk X.prog X.w H' h') (hg : AllBare g') :
    Inv X pins σ H' { s with heap := h', gens := g', drawn := d', toks := t' } := by
  have neL : ∀ b o, X.s₀.heap.get? b = some o → b ≠ X.env.locals := fun b o e => Nat.ne_of_lt (Nat.lt_of_lt_of_le (Heap.lt_size e) I.ok.above)
  have neC : ∀ b o, X.s₀.heap.get? b = some o → b ∉ X.ex → b ∉ ch := fun b o e hx hb => by
    rcases (hch b hb).1 with z | z
    · exact hx z
    · exact absurd (Nat.lt_of_lt_of_le (Heap.lt_size e) z) (Nat.lt_irrefl _)
  have cellK : ∀ x c, X.env.cells.lookup x = some c → ∀ v, s.heap.IsCell c v → h'.IsCell c v := fun x c e v ⟨o, ho, hd⟩ => by
    have nch : c ∉ ch := fun z => (hch c z).2.2.1 x c e rfl
    by_cases hc : c ∈ X.fs
    · obtain ⟨sl, q⟩ := slot c o (I.cne x c e) hc nch ho (I.freeC x c e)
      exact ⟨_, q, hd⟩
    · exact ⟨o, keep c o (I.cne x c e) hc nch ho (I.freeC x c e), hd⟩
  refine ⟨I.ok, I.os, hg, ⟨fun b o e n hb hx => ?_, fun b o e n hb hx => ?_, fun b o e n hx => ?_, fun b o e hx => ?_, fun b xs e => tups b xs (I.base.tups b xs e), fun b o xs e => frzs b o xs (I.base.frzs b o xs e), fun b ps e => ?_⟩, ?_, fun x c e => ?_, ?_, fun x c e => ?_, fun p hp => ?_, hok, I.len⟩
  · exact keep b o (neL b o e) hb (neC b o e hx) (I.base.keep b o e n hb hx) (I.base.free b o e n hx)
  · obtain ⟨sl, e1⟩ := I.base.slot b o e n hb hx
    obtain ⟨sl', e2⟩ := slot b _ (neL b o e) hb (neC b o e hx) e1 (I.base.free b o e n hx)
    exact ⟨sl', e2⟩
  · obtain ⟨o', e1⟩ := I.base.there b o e hx
    exact free b o' (neC b o e hx) e1 (I.base.free b o e n hx)
  · obtain ⟨o', e1⟩ := I.base.there b o e hx
    exact there b o' (neC b o e hx) e1
  · obtain ⟨m1, e1⟩ := I.base.tbls b ps e
    obtain ⟨m2, e2⟩ := tbls b _ e1
    exact ⟨m1 ++ m2, by rw [e2, Array.append_assoc]⟩
  · obtain ⟨m, hn, hl⟩ := I.loc
    refine ⟨m, ns m hn, fun i x v e1 e2 e3 => ?_⟩
    obtain ⟨u, r, l⟩ := hl i x v e1 e2 e3
    refine ⟨u, r, ?_⟩
    rcases l with l | ⟨k, c, e, z⟩
    · exact .inl l
    · exact .inr ⟨k, c, e, cellK x c e _ z⟩
  · obtain ⟨v, z⟩ := I.cell x c e
    exact ⟨v, cellK x c e v z⟩
  · obtain ⟨m, ⟨o, _, _, ho, _⟩, _⟩ := I.loc
    exact free _ o (fun z => (hch _ z).2.1 rfl) ho I.free
  · obtain ⟨v, o, ho, hd⟩ := I.cell x c e
    exact free c o (fun z => (hch c z).2.2.1 x c e rfl) ho (I.freeC x c e)
  · obtain ⟨e, n, ne, nf, d⟩ := I.pin p hp
    have nch : p.1 ∉ ch := fun z => (hch p.1 z).2.2.2 p hp rfl
    exact ⟨keep p.1 p.2 ne nf nch e n, free p.1 p.2 nch e n, ne, nf, d⟩
theorem Inv.un {t' : Nat} (I : Inv X pins σ H s) (u : Un X.fs [] H H' s.heap h') (hok : HOk X.prog X.w H' h') : Inv X pins σ H' { s with heap := h', toks := t' } := by
  obtain ⟨m, ⟨o, es, ep, ho, r⟩, _⟩ := id I.loc
  obtain ⟨sl, hL⟩ := u.any ho I.free (by simp)
  exact I.step (g' := s.gens) (d' := s.drawn) (ch := []) (fun _ z => nomatch z) (fun b o _ hb _ e n => u.keep b o e n hb (by simp)) (fun b o _ hb _ e n => u.slot b o e n hb (by simp)) (fun b o _ e n => u.free b o e n (by simp)) (fun b o _ e => u.there b o e (by simp)) u.tups u.frzs u.tbls (fun m' hm => by
    obtain ⟨o', es', ep', ho', r'⟩ := hm
    rw [ho] at ho'; cases ho'
    exact ⟨_, es', ep', hL, r'⟩) hok I.bare
theorem Inv.call {g' : Array GenState} {t' : Nat} {d' : Drawn} {ch : List Addr} (I : Inv X pins σ H s) (u : Un (frs X.stack) ch H H' s.heap h') (hok : HOk X.prog X.w H' h') (hg : AllBare g')
    (hch : ∀ b ∈ ch, (b ∈ X.ex ∨ X.s₀.heap.objs.size ≤ b) ∧ b ≠ X.env.locals ∧ (∀ x c, X.env.cells.lookup x = some c → c ≠ b) ∧ ∀ p ∈ X.pn ++ pins, p.1 ≠ b) :
    Inv X pins σ H' { s with heap := h', gens := g', drawn := d', toks := t' } := by
  obtain ⟨m, ⟨o, es, ep, ho, r⟩, _⟩ := id I.loc
  obtain ⟨sl, hL⟩ := u.any ho I.free fun z => (hch _ z).2.1 rfl
  exact I.step (ch := ch) hch (fun b o hL hb hc e n => u.keep b o e n (fun z => (List.mem_cons.mp (I.stkSub b z)).elim hL hb) hc) (fun b o _ _ hc e n => u.any e n hc) (fun b o hc e n => u.free b o e n hc) (fun b o hc e => u.there b o e hc) u.tups u.frzs u.tbls (fun m' hm => by
    obtain ⟨o', es', ep', ho', r'⟩ := hm
    rw [ho] at ho'; cases ho'
    exact ⟨_, es', ep', hL, r'⟩) hok hg
theorem Inv.turned {t' : Nat} {it : Addr} (I : Inv X pins σ H s) (k : ∀ b o, b ≠ it → s.heap.get? b = some o → h'.get? b = some o) (hn : H it = none) (hL : it ≠ X.env.locals)
    (h1 : it ∈ X.ex ∨ X.s₀.heap.objs.size ≤ it) (h2 : ∀ x c, X.env.cells.lookup x = some c → c ≠ it) (h3 : ∀ p ∈ X.pn ++ pins, p.1 ≠ it) : Inv X pins σ H { s with heap := h', toks := t' } := by
  have nit : ∀ b u, H b = some u → b ≠ it := fun b u e z => by rw [z, hn] at e; cases e
  refine I.step (g' := s.gens) (d' := s.drawn) (ch := [it]) (fun b hb => ?_) (fun b o _ _ hc e _ => k b o (fun z => hc (by simp [z])) e) (fun b o _ _ hc e _ => ⟨o.slots, k b o (fun z => hc (by simp [z])) e⟩) (fun _ _ _ _ n => n)
    (fun b o hc e => ⟨o, k b o (fun z => hc (by simp [z])) e⟩) (fun _ _ e => e) (fun _ _ _ e => e) (fun b ps e => ⟨#[], by rw [e]; simp⟩) (fun m hm => ?_) (fun b u e => ?_) I.bare
  · have e : b = it := by simpa using hb
    subst e
    exact ⟨h1, hL, h2, h3⟩
  · obtain ⟨o, es, ep, ho, r⟩ := hm
    exact ⟨o, es, ep, k _ o (Ne.symm hL) ho, r⟩
  · refine (I.hok b u e).stay (fun c v hc q => k c v ?_ q) (fun _ q => q) fun _ _ q => q
    rcases hc with z | z
    · rw [z]; exact nit b u e
    · exact nit c _ z
theorem Inv.tok (I : Inv X pins σ H s) (t : Nat) : Inv X pins σ H { s with toks := t } := I.un (h' := s.heap) (t' := t) Un.refl I.hok
theorem Inv.kept {t' : Nat} (I : Inv X pins σ H s) (k : ∀ b u, s.heap.get? b = some u → h'.get? b = some u) : Inv X pins σ H { s with heap := h', toks := t' } := I.un (Un.kept k) (I.hok.kept k)
theorem Inv.laid {a : Addr} {o : HO} {t' : Nat} (I : Inv X pins σ H s) (k : ∀ b u, s.heap.get? b = some u → h'.get? b = some u) (hp : s.heap.objs.size ≤ a) (new : ObjOk X.prog X.w (upd H a o) h' a o) :
    Inv X pins σ (upd H a o) { s with heap := h', toks := t' } := I.un (Un.laid k hp (I.hok.fresh hp)) (I.hok.laid k hp new)
theorem Inv.write {x e : Addr} {o : HO} {t' : Nat} (I : Inv X pins σ H s) (mu : Mut (H x)) (he : e = x ∨ H e = some (.own x)) (k : ∀ b u, b ≠ e → s.heap.get? b = some u → h'.get? b = some u) (heo : ∃ u, h'.get? e = some u)
    (new : ObjOk X.prog X.w (upd H x o) h' x o) : Inv X pins σ (upd H x o) { s with heap := h', toks := t' } := I.un (Un.write mu he k heo) (I.hok.write mu he k heo new)
theorem Inv.pins_of {pins' : List (Addr × Obj)} (I : Inv X pins σ H s) (h : ∀ p ∈ pins', s.heap.get? p.1 = some p.2 ∧ H p.1 = none ∧ p.1 ≠ X.env.locals ∧ p.1 ∉ X.fs ∧ ∀ v, p.2.data ≠ .cell v) : Inv X pins' σ H s :=
  ⟨I.ok, I.os, I.bare, I.base, I.loc, I.cell, I.free, I.freeC, fun p hp => (List.mem_append.mp hp).elim (fun z => I.pin p (List.mem_append_left _ z)) (h p), I.hok, I.len⟩
theorem nodup_ix {N : List Str} (hN : N.Nodup) {i j : Nat} {x : Str} (a : N[i]? = some x) (b : N[j]? = some x) : i = j := by
  obtain ⟨h1, e1⟩ := List.getElem?_eq_some_iff.mp a
  obtain ⟨h2, e2⟩ := List.getElem?_eq_some_iff.mp b
  exact (List.getElem_inj hN).mp (e1.trans e2.symm)
theorem store_ok2 {M : Model} {A : Around} {E : Value → Shared → Prop} {i : Nat} {x : Str} {v : V} {u : Value} {Q : Unit → Shared → Prop} (I : Inv X pins σ H s) (hN : X.N.Nodup) (hi : X.N[i]? = some x) (hx : Loc X.env.scope x) (r : RelV v u)
    (h : ∀ s', Inv X pins (σ.set i (some v)) H s' → (∃ a, Heap.SameBut a s.heap s'.heap ∧ (a = X.env.locals ∨ X.env.cells.lookup x = some a)) → Q () s') (hf : X.fn x = true ∨ X.env.scope.names.lookup x = some .local := by first | exact .inl rfl | exact .inr rfl | assumption) : wpAny M A (storeName X.env x u) Q E s := by
  obtain ⟨m, hn, hl⟩ := id I.loc
  have hcls : (X.env.scope.kind == .class || (X.env.scope.kind == .module && X.env.locals != X.env.globals)) = false := by rw [I.ok.kind]; rfl
  have hiσ : i < σ.length := by rw [I.len]; exact (List.getElem?_eq_some_iff.mp hi).1
  have cne := I.cne
  have tracked : ∀ {a : Addr} {h' : Heap}, (∃ o, s.heap.get? a = some o ∧ H a = none) → Heap.SameBut a s.heap h' → HOk X.prog X.w H h' := fun {a h'} ha hs b ob e => by
    obtain ⟨_, _, hfree⟩ := ha
    refine (I.hok b ob e).stay (fun c w' hc q => (hs.2 c ?_).trans q) (fun _ q => q) fun _ _ q => q
    rintro rfl
    rcases hc with rfl | hc
    · rw [hfree] at e; cases e
    · rw [hfree] at hc; cases hc
  rcases hx with hk | hk
  · refine wpAny_storeName_local hk hn (fun h' hn' hs => ?_) hcls
    obtain ⟨oL, _, _, hoL, _⟩ := id hn
    refine h _ ⟨I.ok, I.os, I.bare, ⟨fun b o e n hb hx => ?_, fun b o e n hb hx => ?_, I.base.free, fun b o e hx => ?_, I.base.tups, I.base.frzs, I.base.tbls⟩, ⟨_, hn', fun j y v' e1 e2 e3 => ?_⟩, fun y c e => ?_, I.free, I.freeC, fun p hp => ?_, tracked ⟨oL, hoL, I.free⟩ hs, by simpa using I.len⟩ ⟨_, hs, .inl rfl⟩
    · exact (hs.2 b (Nat.ne_of_lt (Nat.lt_of_lt_of_le (Heap.lt_size e) I.ok.above))).trans (I.base.keep b o e n hb hx)
    · obtain ⟨sl, e1⟩ := I.base.slot b o e n hb hx
      exact ⟨sl, (hs.2 b (Nat.ne_of_lt (Nat.lt_of_lt_of_le (Heap.lt_size e) I.ok.above))).trans e1⟩
    · obtain ⟨o', e1⟩ := I.base.there b o e hx
      exact ⟨o', (hs.2 b (Nat.ne_of_lt (Nat.lt_of_lt_of_le (Heap.lt_size e) I.ok.above))).trans e1⟩
    · by_cases hj : j = i
      · subst hj
        rw [hi] at e1; cases e1
        rw [List.getElem?_set_self hiσ] at e2
        cases e2
        exact ⟨u, r, .inl ⟨hk, by simp⟩⟩
      · rw [List.getElem?_set_ne (Ne.symm hj)] at e2
        obtain ⟨u', r', q⟩ := hl j y v' e1 e2 e3
        refine ⟨u', r', ?_⟩
        rcases q with ⟨k, e⟩ | ⟨k, c, e, z⟩
        · refine .inl ⟨k, ?_⟩
          have : y ≠ x := fun e => hj (nodup_ix hN e1 (e ▸ hi))
          simp [this, e]
        · exact .inr ⟨k, c, e, z.sameBut hs (cne y c e)⟩
    · obtain ⟨w', z⟩ := I.cell y c e
      exact ⟨w', z.sameBut hs (cne y c e)⟩
    · obtain ⟨e, n, ne, nf, d⟩ := I.pin p hp
      exact ⟨(hs.2 p.1 ne).trans e, n, ne, nf, d⟩
  · have hfn : X.fn x = true := by
      rcases hf with z | z
      · exact z
      · rw [z] at hk; cases hk
    obtain ⟨c, hc⟩ := I.ok.has x (.inl hk)
    obtain ⟨w', z⟩ := I.cell x c hc
    refine wpAny_storeName_cell I.ok.kind hk hc z (fun h' hc' hs => ?_)
    obtain ⟨oc, hoc, hocd⟩ := id z
    refine h { s with heap := h' } ⟨I.ok, I.os, I.bare, ⟨fun b o e n hb hx => ?_, fun b o e n hb hx => ?_, I.base.free, fun b o e hx => ?_, I.base.tups, I.base.frzs, I.base.tbls⟩, ⟨m, hn.sameBut hs (Ne.symm (cne x c hc)), fun j y v' e1 e2 e3 => ?_⟩, fun y c' e => ?_, I.free, I.freeC, fun p hp => ?_, tracked ⟨oc, hoc, I.freeC x c hc⟩ hs, by simpa using I.len⟩ ⟨c, hs, .inr hc⟩
    · exact (hs.2 b (Nat.ne_of_lt (Nat.lt_of_lt_of_le (Heap.lt_size e) (I.ok.cab x c hfn hc)))).trans (I.base.keep b o e n hb hx)
    · obtain ⟨sl, e1⟩ := I.base.slot b o e n hb hx
      exact ⟨sl, (hs.2 b (Nat.ne_of_lt (Nat.lt_of_lt_of_le (Heap.lt_size e) (I.ok.cab x c hfn hc)))).trans e1⟩
    · obtain ⟨o', e1⟩ := I.base.there b o e hx
      exact ⟨o', (hs.2 b (Nat.ne_of_lt (Nat.lt_of_lt_of_le (Heap.lt_size e) (I.ok.cab x c hfn hc)))).trans e1⟩
    · by_cases hj : j = i
      · subst hj
        rw [hi] at e1; cases e1
        rw [List.getElem?_set_self hiσ] at e2
        cases e2
        exact ⟨u, r, .inr ⟨.inl hk, c, hc, hc'⟩⟩
      · rw [List.getElem?_set_ne (Ne.symm hj)] at e2
        obtain ⟨u', r', q⟩ := hl j y v' e1 e2 e3
        refine ⟨u', r', ?_⟩
        rcases q with q | ⟨k, c', e, z'⟩
        · exact .inl q
        · refine .inr ⟨k, c', e, z'.sameBut hs ?_⟩
          rintro rfl
          exact hj (nodup_ix hN e1 (I.ok.inj _ _ _ e hc ▸ hi))
    · by_cases hcc : c' = c
      · subst hcc; exact ⟨_, hc'⟩
      · obtain ⟨w2, z2⟩ := I.cell y c' e
        exact ⟨w2, z2.sameBut hs hcc⟩
    · obtain ⟨e, n, ne, nf, d⟩ := I.pin p hp
      refine ⟨(hs.2 p.1 ?_).trans e, n, ne, nf, d⟩
      intro q
      rw [q, hoc] at e
      have q' : oc = p.2 := Option.some.inj e
      exact d w' (by rw [← q']; exact hocd)
theorem store_ok {M : Model} {A : Around} {E : Value → Shared → Prop} {i : Nat} {x : Str} {v : V} {u : Value} {Q : Unit → Shared → Prop} (I : Inv X pins σ H s) (hN : X.N.Nodup) (hi : X.N[i]? = some x) (hx : Loc X.env.scope x) (r : RelV v u)
    (h : ∀ s', Inv X pins (σ.set i (some v)) H s' → Q () s') (hf : X.fn x = true ∨ X.env.scope.names.lookup x = some .local := by first | exact .inl rfl | exact .inr rfl | assumption) : wpAny M A (storeName X.env x u) Q E s :=
  store_ok2 I hN hi hx r (fun s' I' _ => h s' I') hf
theorem Inv.call' {s' : Shared} {ch : List Addr} (I : Inv X pins σ H s) (ho : s'.os = s.os) (u : Un (frs X.stack) ch H H' s.heap s'.heap) (hok : HOk X.prog X.w H' s'.heap) (hg : AllBare s'.gens)
    (hch : ∀ b ∈ ch, (b ∈ X.ex ∨ X.s₀.heap.objs.size ≤ b) ∧ b ≠ X.env.locals ∧ (∀ x c, X.env.cells.lookup x = some c → c ≠ b) ∧ ∀ p ∈ X.pn ++ pins, p.1 ≠ b) : Inv X pins σ H' s' := by
  obtain ⟨h', g', d', t', o'⟩ := s'
  have e : o' = s.os := ho
  subst e
  exact I.call (g' := g') (t' := t') (d' := d') u hok hg hch
end
noncomputable abbrev XK := Value → Option Addr → Hp → Prop
noncomputable abbrev St := List (Option V)
noncomputable abbrev VK := V → Hp → Prop
noncomputable abbrev TE := St → Hp → VK → Prop
noncomputable abbrev TT := St → Hp → (Bool → Hp → Prop) → Prop
noncomputable abbrev TA := St → Hp → (List V → Hp → Prop) → Prop
structure Ends where
  nx : St → Hp → Prop
  rt : VK
  bk : St → Hp → Prop := fun _ _ => False
  ct : St → Hp → Prop := fun _ _ => False
noncomputable abbrev TS := Ends → St → Hp → Prop
inductive EP (X : Cx) (pins : List (Addr × Obj)) (σ : St) (Q : VK) (u : Value) (s' : Shared) : Prop
  | mk (v : V) (H' : Hp) (inv : Inv X pins σ H' s') (rel : RelV v u) (q : Q v H') : EP X pins σ Q u s'
inductive TP (X : Cx) (pins : List (Addr × Obj)) (σ : St) (Q : Bool → Hp → Prop) (b : Bool) (s' : Shared) : Prop
  | mk (H' : Hp) (inv : Inv X pins σ H' s') (q : Q b H') : TP X pins σ Q b s'
inductive AP (X : Cx) (pins : List (Addr × Obj)) (σ : St) (Q : List V → Hp → Prop) (us : List Value) (s' : Shared) : Prop
  | mk (vs : List V) (H' : Hp) (inv : Inv X pins σ H' s') (rel : Vals vs us) (q : Q vs H') : AP X pins σ Q us s'
inductive SN (X : Cx) (pins : List (Addr × Obj)) (Q : St → Hp → Prop) (s' : Shared) : Prop
  | mk (σ' : St) (H' : Hp) (inv : Inv X pins σ' H' s') (q : Q σ' H') : SN X pins Q s'
inductive SR (X : Cx) (pins : List (Addr × Obj)) (Q : VK) (u : Value) (s' : Shared) : Prop
  | mk (v : V) (σ' : St) (H' : Hp) (inv : Inv X pins σ' H' s') (rel : RelV v u) (q : Q v H') : SR X pins Q u s'
noncomputable def SP (X : Cx) (pins : List (Addr × Obj)) (D : Ends) (f : Flow) (s' : Shared) : Prop :=
  match f with
  | .next => SN X pins D.nx s'
  | .brk => SN X pins D.bk s'
  | .cont => SN X pins D.ct s'
  | .ret u => SR X pins D.rt u s'
noncomputable def PE (X : Cx) (e : Expr) (t : TE) : Prop :=
  ∀ (pins : List (Addr × Obj)) (s : Shared) (σ : St) (H : Hp) (Q : VK), Inv X pins σ H s → t σ H Q → wpAny (model X.prog X.w) X.A (eval e X.env) (EP X pins σ Q) X.xe s
noncomputable def PT (X : Cx) (e : Expr) (t : TT) : Prop :=
  ∀ (pins : List (Addr × Obj)) (s : Shared) (σ : St) (H : Hp) (Q : Bool → Hp → Prop), Inv X pins σ H s → t σ H Q → wpAny (model X.prog X.w) X.A (isTrue e X.env (eval e X.env)) (TP X pins σ Q) X.xe s
noncomputable def PW (X : Cx) (e : Expr) (t : TT) : Prop :=
  ∀ (whole : Sem Value) (pins : List (Addr × Obj)) (s : Shared) (σ : St) (H : Hp) (Q : Bool → Hp → Prop), Inv X pins σ H s → t σ H Q → wpAny (model X.prog X.w) X.A (isTrue e X.env whole) (TP X pins σ Q) X.xe s
theorem PW.pt {X : Cx} {e : Expr} {t : TT} (h : PW X e t) : PT X e t := h _
noncomputable def PA (X : Cx) (es : List Expr) (t : TA) : Prop :=
  ∀ (pos : Pos) (pins : List (Addr × Obj)) (s : Shared) (σ : St) (H : Hp) (Q : List V → Hp → Prop), Inv X pins σ H s → t σ H Q → wpAny (model X.prog X.w) X.A (spliced (backTo pos (starEach es X.env))) (AP X pins σ Q) X.xe s
noncomputable def PS (X : Cx) (st : Stmt) (t : TS) : Prop :=
  ∀ (pins : List (Addr × Obj)) (s : Shared) (σ : St) (H : Hp) (D : Ends), Inv X pins σ H s → t D σ H → wpAny (model X.prog X.w) X.A (exec st X.env) (SP X pins D) X.xe s
noncomputable def PSs (X : Cx) (st : List Stmt) (t : TS) : Prop :=
  ∀ (pins : List (Addr × Obj)) (s : Shared) (σ : St) (H : Hp) (D : Ends), Inv X pins σ H s → t D σ H → wpAny (model X.prog X.w) X.A (execs st X.env) (SP X pins D) X.xe s
theorem thn {α : Type} {t : Sem α} {Q Q' : α → Shared → Prop} {M : Model} {A : Around} {E : Value → Shared → Prop} {s : Shared} (h : wpAny M A t Q E s) (hQ : ∀ a s, Q a s → Q' a s) : wpAny M A t Q' E s := wpAny_mono h hQ fun _ _ x => x
end L2
namespace L2
open PySem PySem.Spec PyProof.Rows
section
variable {X : Cx}
theorem bin {a b : Expr} {ta tb : TE} (ha : PE X a ta) (hb : PE X b tb) {pins : List (Addr × Obj)} {s : Shared} {σ : St} {H : Hp} {R : V → V → Hp → Prop} (I : Inv X pins σ H s) (h : ta σ H fun x H1 => tb σ H1 fun y H2 => R x y H2)
    {α : Type} {Q : α → Shared → Prop} {f : Value → Value → Sem α}
    (hf : ∀ v u s2 x y H2, Inv X pins σ H2 s2 → RelV x v → RelV y u → R x y H2 → wpAny (model X.prog X.w) X.A (f v u) Q X.xe s2) :
    wpAny (model X.prog X.w) X.A (eval a X.env) (fun v s₁ => wpAny (model X.prog X.w) X.A (eval b X.env) (fun u s₂ => wpAny (model X.prog X.w) X.A (f v u) Q X.xe s₂) X.xe s₁) X.xe s := by
  refine thn (ha pins s σ H _ I h) fun v s1 ⟨x, H1, I1, r1, q1⟩ => ?_
  refine thn (hb pins s1 σ H1 _ I1 q1) fun u s2 ⟨y, H2, I2, r2, q2⟩ => ?_
  exact hf v u s2 x y H2 I2 r1 r2 q2
noncomputable def tVar (i : Nat) : TE := fun σ H Q => ∃ v, σ[i]? = some (some v) ∧ Q v H
noncomputable def tC (v : V) : TE := fun _ H Q => Q v H
theorem pe_var {i : Nat} {x : Str} {pos : Pos} (hN : X.N[i]? = some x) (hv : Vis X.env.scope x) (hd : (x == ("__debug__" : Str)) = false := by decide) (hcd : (x == ("__classdict__" : Str)) = false := by decide) : PE X (.Name x pos) (tVar i) := by
  intro pins s σ H Q I h
  obtain ⟨v, e, h⟩ := h
  obtain ⟨m, hn, hl⟩ := I.loc
  obtain ⟨u, r, l⟩ := hl i x v hN e hv
  have fin : EP X pins σ Q u s := ⟨v, H, I, r, h⟩
  rcases l with ⟨hk, hm⟩ | ⟨hk, c, hc, hcell⟩
  · exact wpAny_Name (wpAny_loadName_local I.ok.kind hk hn hm fin) hd
  · rcases hk with hk | hk
    · exact wpAny_Name (wpAny_loadName_cell I.ok.kind hk hc hcell fin) hd
    · exact wpAny_Name (wpAny_loadName_free I.ok.kind hk hc hcell fin hcd) hd
theorem pe_int {i j pos} : PE X (.Constant (.int i) j pos) (tC (.int i)) := fun _ _ _ H _ I h => wpAny_Constant_int ⟨.int i, H, I.tok _, ⟨_, rfl⟩, h⟩
theorem pe_bl {b j pos} : PE X (.Constant (.bool b) j pos) (tC (.bl b)) := fun _ _ _ H _ I h => Constant_bool ⟨.bl b, H, I, rfl, h⟩
theorem pe_non {j pos} : PE X (.Constant .none j pos) (tC .non) := fun _ _ _ H _ I h => Constant_none ⟨.non, H, I, rfl, h⟩
theorem pe_str {x j pos} : PE X (.Constant (.str x) j pos) (tC (.str x)) := fun _ _ _ H _ I h => Calls.Constant_str ⟨.str x, H, I.tok _, ⟨_, rfl⟩, h⟩
noncomputable def Gl (X : Cx) (x : Str) : Prop := X.env.kindOf x = some .globalImplicit
theorem ld_glob {E : Value → Shared → Prop} {pins : List (Addr × Obj)} {s : Shared} {σ : St} {H : Hp} {x : Str} {u : Value} {pos : Pos} {Q : Value → Shared → Prop} (I : Inv X pins σ H s) (hg : Gl X x) (hm : X.mg x = some u) (h : Q u s)
    (hd : (x == ("__debug__" : Str)) = false := by decide) : wpAny (model X.prog X.w) X.A (eval (.Name x pos) X.env) Q E s :=
  Calls.Name_function_global I.ok.kind hg (Calls.loadGlobal_global (by rw [I.ok.glob]; exact I.mod.glob.keeps I.bk) hm h) hd
theorem ld_blt {E : Value → Shared → Prop} {pins : List (Addr × Obj)} {s : Shared} {σ : St} {H : Hp} {x : Str} {u : Value} {pos : Pos} {Q : Value → Shared → Prop} (I : Inv X pins σ H s) (hg : Gl X x) (hm : X.mg x = none) (hv : bootBuiltins x = some u) (h : Q u s)
    (hn : x ≠ "__name__" := by decide) (hd : (x == ("__debug__" : Str)) = false := by decide) : wpAny (model X.prog X.w) X.A (eval (.Name x pos) X.env) Q E s := by
  obtain ⟨mb, h1, h2⟩ := I.mod.blt
  exact Calls.Name_function_global I.ok.kind hg (Calls.loadGlobal_builtin (by rw [I.ok.glob]; exact I.mod.glob.keeps I.bk) hm (by rw [I.ok.blt]; exact h1.keeps I.bk) ((h2 x hn).trans hv) h) hd
theorem pe_glob {x : Str} {v : V} {u : Value} {pos : Pos} (hg : Gl X x) (hm : X.mg x = some u) (r : RelV v u) (hd : (x == ("__debug__" : Str)) = false := by decide) : PE X (.Name x pos) (tC v) :=
  fun _ _ _ H _ I h => ld_glob I hg hm ⟨v, H, I, r, h⟩ hd
theorem pe_bltn {x : Str} {v : V} {u : Value} {pos : Pos} (hg : Gl X x) (hm : X.mg x = none) (hv : bootBuiltins x = some u) (r : RelV v u) (hn : x ≠ "__name__" := by decide) (hd : (x == ("__debug__" : Str)) = false := by decide) : PE X (.Name x pos) (tC v) :=
  fun _ _ _ H _ I h => ld_blt I hg hm hv ⟨v, H, I, r, h⟩ hn hd
variable {a b : Expr} {ta tb : TE} {pos : Pos}
theorem nobehind (b : Expr) {op : CmpOp} (h : op ≠ .In) (h2 : op ≠ .NotIn) : behindInMarks op b = false := by
  have e1 : (op == CmpOp.In) = false := by cases op <;> first | rfl | exact absurd rfl h
  have e2 : (op == CmpOp.NotIn) = false := by cases op <;> first | rfl | exact absurd rfl h2
  cases b <;> simp [behindInMarks, e1, e2]
variable {tA tB' : TT} {rest : List Expr}
noncomputable def tAnd (t u : TT) : TT := fun σ H Q => t σ H fun c H1 => if c = true then u σ H1 Q else Q false H1
noncomputable def tOr (t u : TT) : TT := fun σ H Q => t σ H fun c H1 => if c = true then Q true H1 else u σ H1 Q
noncomputable def tNot (t : TT) : TT := fun σ H Q => t σ H fun c H1 => Q (!c) H1
theorem pw_and1 (ha : PT X a tA) : PW X (.BoolOp .And [a] pos) tA := by
  intro wh pins s σ H Q I h
  refine isTrue_and (thn (ha pins s σ H Q I h) fun c s1 e => ?_)
  cases c with
  | true => exact isTrue_and_nil e
  | false => exact e
theorem pw_or1 (ha : PT X a tA) : PW X (.BoolOp .Or [a] pos) tA := by
  intro wh pins s σ H Q I h
  refine isTrue_or (thn (ha pins s σ H Q I h) fun c s1 e => ?_)
  cases c with
  | false => exact isTrue_or_nil e
  | true => exact e
theorem pw_and (ha : PT X a tA) (hb : PW X (.BoolOp .And (b :: rest) pos) tB') : PW X (.BoolOp .And (a :: b :: rest) pos) (tAnd tA tB') := by
  intro wh pins s σ H Q I h
  refine isTrue_and (thn (ha pins s σ H _ I h) fun c s1 ⟨H1, I1, q1⟩ => ?_)
  cases c with
  | true => exact hb wh pins s1 σ H1 Q I1 q1
  | false => exact ⟨H1, I1, q1⟩
theorem pw_or (ha : PT X a tA) (hb : PW X (.BoolOp .Or (b :: rest) pos) tB') : PW X (.BoolOp .Or (a :: b :: rest) pos) (tOr tA tB') := by
  intro wh pins s σ H Q I h
  refine isTrue_or (thn (ha pins s σ H _ I h) fun c s1 ⟨H1, I1, q1⟩ => ?_)
  cases c with
  | true => exact ⟨H1, I1, q1⟩
  | false => exact hb wh pins s1 σ H1 Q I1 q1
theorem pt_not (ha : PT X a tA) : PT X (.UnaryOp .Not a pos) (tNot tA) := by
  intro pins s σ H Q I h
  exact isTrue_not (thn (ha pins s σ H (fun c H1 => Q (!c) H1) I h) fun c s1 ⟨H1, i, q⟩ => ⟨H1, i, q⟩)
noncomputable def tAndV (ta tb : TE) : TE := fun σ H Q => ta σ H fun x H1 => ∃ c, x = .bl c ∧ if c = true then tb σ H1 Q else Q (.bl false) H1
noncomputable def tNotV (ta : TE) : TE := fun σ H Q => ta σ H fun x H1 => ∃ c, x = .bl c ∧ Q (.bl (!c)) H1
theorem pe_one {op} {t : TE} (h : PE X a t) : PE X (.BoolOp op [a] pos) t := fun pins s σ H Q I hw => BoolOp_one (h pins s σ H Q I hw)
theorem pe_and (ha : PE X a ta) (hb : PE X (.BoolOp .And (b :: rest) pos) tb) : PE X (.BoolOp .And (a :: b :: rest) pos) (tAndV ta tb) := by
  intro pins s σ H Q I h
  refine BoolOp_and (thn (ha pins s σ H _ I h) fun v s1 ⟨x, H1, I1, r1, q1⟩ => ?_)
  obtain ⟨c, rfl, q1⟩ := q1
  cases r1
  refine wpAny_truthy_bool ?_
  cases c with
  | true => exact hb pins s1 σ H1 Q I1 q1
  | false => exact ⟨.bl false, H1, I1, rfl, q1⟩
theorem pe_not (ha : PE X a ta) : PE X (.UnaryOp .Not a pos) (tNotV ta) := by
  intro pins s σ H Q I h
  refine UnaryOp_ (thn (ha pins s σ H _ I h) fun v s1 ⟨x, H1, I1, r1, q1⟩ => ?_)
  obtain ⟨c, rfl, q1⟩ := q1
  cases r1
  exact not_of (wpAny_truthy_bool ⟨.bl (!c), H1, I1, rfl, q1⟩)
end
end L2
namespace L2
open PySem PySem.Spec PyProof.Rows
noncomputable def SqL (K : PySem.W.Frag) (H : Hp) (a : Addr) (xs : List V) : Prop :=
  Rd H a (.lst xs) ∨
    ∃ (o : Obj) (its : Array Value) (n : Nat), K.lookup a = some o ∧ o.cls = .type "list" ∧ o.dict = none ∧ o.data = .seq its n ∧ its.size ≤ sizeLine ∧ Vals xs its.toList
noncomputable def SqT (K : PySem.W.Frag) (H : Hp) (a : Addr) (xs : List V) : Prop :=
  Rd H a (.tup xs) ∨
    ∃ (o : Obj) (its : Array Value) (n : Nat), K.lookup a = some o ∧ o.cls = .type "tuple" ∧ o.data = .seq its n ∧ its.size ≤ sizeLine ∧ Vals xs its.toList
noncomputable def absV : Value → Option V
  | .none => some .non
  | .bool b => some (.bl b)
  | .int i _ => some (.int i)
  | .str x _ => some (.str x)
  | .bytes b _ => some (.byt b)
  | .float b _ => some (.flt b)
  | .ref a => some (.ref a)
  | .type n => some (.ty n)
  | _ => none
theorem RelV.abs {x : V} {u : Value} (r : RelV x u) : absV u = some x := by
  cases x with
  | non => cases r; rfl
  | bl _ => cases r; rfl
  | int _ => obtain ⟨t, rfl⟩ := r; rfl
  | str _ => obtain ⟨t, rfl⟩ := r; rfl
  | byt _ => obtain ⟨t, rfl⟩ := r; rfl
  | flt _ => obtain ⟨t, rfl⟩ := r; rfl
  | ref _ => cases r; rfl
  | ty _ => cases r; rfl
theorem RelV.inj {x y : V} {u : Value} (r : RelV x u) (q : RelV y u) : x = y := Option.some.inj (r.abs.symm.trans q.abs)
theorem Vals.inj : ∀ {xs ys : List V} {us : List Value}, Vals xs us → Vals ys us → xs = ys
  | _, _, _, .nil, .nil => rfl
  | _, _, _, .cons r t, .cons r' t' => by rw [r.inj r', Vals.inj t t']
section
variable {X : Cx} {pins : List (Addr × Obj)} {σ : St} {H : Hp} {s : Shared} {a : Addr} {xs ys : List V}
theorem SqL.of {K : PySem.W.Frag} (h : H a = some (.lst xs)) : SqL K H a xs := .inl (.inl h)
theorem Inv.list (I : Inv X pins σ H s) (h : SqL X.K H a xs) : ∃ its : List Value, Vals xs its ∧ PlainL s.heap a its.toArray ∧ xs.length ≤ sizeLine := by
  rcases h with h | ⟨o, its, n, hk, hc, hd, hs, hz, r⟩
  · obtain ⟨z, its, n, r, e⟩ := h.ok I.hok
    exact ⟨its, r, ⟨_, n, e, rfl, rfl, rfl⟩, z⟩
  · refine ⟨its.toList, r, ⟨o, n, I.kIn a o hk, hc, hd, by simpa using hs⟩, ?_⟩
    have e := r.length
    simp only [Array.length_toList] at e
    omega
theorem Inv.tuple (I : Inv X pins σ H s) (h : SqT X.K H a xs) : ∃ its : List Value, Vals xs its ∧ IsTup s.heap a its.toArray ∧ xs.length ≤ sizeLine := by
  rcases h with h | ⟨o, its, n, hk, hc, hs, hz, r⟩
  · obtain ⟨z, its, r, p⟩ := h.ok I.hok
    exact ⟨its, r, p, z⟩
  · refine ⟨its.toList, r, ⟨o, I.kIn a o hk, hc, n, by simpa using hs⟩, ?_⟩
    have e := r.length
    simp only [Array.length_toList] at e
    omega
theorem Inv.list_inj (I : Inv X pins σ H s) (h : SqL X.K H a xs) (h' : SqL X.K H a ys) : xs = ys := by
  obtain ⟨its, r, ⟨o, n, e, _, _, d⟩, _⟩ := I.list h
  obtain ⟨its', r', ⟨o', n', e', _, _, d'⟩, _⟩ := I.list h'
  rw [e] at e'; cases e'
  rw [d] at d'
  injection d' with d1 _
  have : its = its' := by simpa using congrArg Array.toList d1
  subst this
  exact r.inj r'
end
noncomputable abbrev Cx.wish (X : Cx) (E : Value → Shared → Prop) : Cx := { X with xe := E }
noncomputable abbrev Cx.nox (X : Cx) : Cx := X.wish fun _ _ => False
theorem Cx.Ok.wish {X : Cx} (ok : X.Ok) (E : Value → Shared → Prop) : (X.wish E).Ok :=
  ⟨ok.mod, ok.kind, ok.glob, ok.blt, ok.above, ok.inj, ok.has, ok.cab, ok.hd, ok.frames, ok.stk, ok.exf, ok.bs, ok.bsz, ok.noex, ok.exfs, ok.funs, ok.frf⟩
theorem Cx.Ok.unwish {X : Cx} {E : Value → Shared → Prop} (ok : (X.wish E).Ok) : X.Ok :=
  ⟨ok.mod, ok.kind, ok.glob, ok.blt, ok.above, ok.inj, ok.has, ok.cab, ok.hd, ok.frames, ok.stk, ok.exf, ok.bs, ok.bsz, ok.noex, ok.exfs, ok.funs, ok.frf⟩
section
variable {X : Cx} {pins : List (Addr × Obj)} {σ : St} {H : Hp} {s : Shared} {E : Value → Shared → Prop}
theorem Inv.wish (I : Inv X pins σ H s) (E : Value → Shared → Prop) : Inv (X.wish E) pins σ H s := ⟨I.ok.wish E, I.os, I.bare, I.base, I.loc, I.cell, I.free, I.freeC, I.pin, I.hok, I.len⟩
theorem Inv.unwish (I : Inv (X.wish E) pins σ H s) : Inv X pins σ H s := ⟨I.ok.unwish, I.os, I.bare, I.base, I.loc, I.cell, I.free, I.freeC, I.pin, I.hok, I.len⟩
theorem SP.unwish {D : Ends} {f : Flow} {s' : Shared} (h : SP (X.wish E) pins D f s') : SP X pins D f s' := by
  cases f with
  | next => obtain ⟨σ', H', I, q⟩ := h; exact ⟨σ', H', I.unwish, q⟩
  | brk => obtain ⟨σ', H', I, q⟩ := h; exact ⟨σ', H', I.unwish, q⟩
  | cont => obtain ⟨σ', H', I, q⟩ := h; exact ⟨σ', H', I.unwish, q⟩
  | ret u => obtain ⟨v, σ', H', I, r, q⟩ := h; exact ⟨v, σ', H', I.unwish, r, q⟩
theorem PE.nox {e : Expr} {t : TE} (h : PE X.nox e t) : PE X e t := fun pins s σ H Q I hw =>
  wpAny_mono (h pins s σ H Q (I.wish _) hw) (fun _ _ ⟨v, H', I', r, q⟩ => ⟨v, H', I'.unwish, r, q⟩) fun _ _ z => False.elim z
theorem PT.nox {e : Expr} {t : TT} (h : PT X.nox e t) : PT X e t := fun pins s σ H Q I hw =>
  wpAny_mono (h pins s σ H Q (I.wish _) hw) (fun _ _ ⟨H', I', q⟩ => ⟨H', I'.unwish, q⟩) fun _ _ z => False.elim z
theorem PSs.nox {st : List Stmt} {t : TS} (h : PSs X.nox st t) : PSs X st t := fun pins s σ H D I hw =>
  wpAny_mono (h pins s σ H D (I.wish _) hw) (fun _ _ q => q.unwish) fun _ _ z => False.elim z
end
section
variable {X : Cx} {st : Stmt} {rest : List Stmt} {t u : TS} {e : Expr} {te : TE} {pos : Pos}
noncomputable def tNext : TS := fun D σ H => D.nx σ H
noncomputable def tSeq (t u : TS) : TS := fun D σ H => t { D with nx := u D } σ H
theorem pss_nil : PSs X [] tNext := fun _ _ σ H _ I h => wpAny_execs_nil ⟨σ, H, I, h⟩
theorem pss_cons (h1 : PS X st t) (h2 : PSs X rest u) : PSs X (st :: rest) (tSeq t u) := by
  intro pins s σ H D I h
  refine wpAny_execs_cons (thn (h1 pins s σ H { D with nx := u D } I h) fun f s1 q => ?_)
  cases f with
  | next =>
    obtain ⟨σ', H', I', q⟩ := q
    exact h2 pins s1 σ' H' D I' q
  | ret v => exact q
  | brk => exact q
  | cont => exact q
theorem pss_one (h1 : PS X st t) : PSs X [st] t := by
  intro pins s σ H D I h
  refine wpAny_execs_cons (thn (h1 pins s σ H D I h) fun f s1 q => ?_)
  cases f with
  | next => exact wpAny_execs_nil q
  | ret v => exact q
  | brk => exact q
  | cont => exact q
theorem Inv.quiet {pins : List (Addr × Obj)} {σ : St} {H : Hp} {s : Shared} (I : Inv X pins σ H s) : interactive X.env = false := by simp [interactive, I.ok.kind]
noncomputable def tDrop (te : TE) : TS := fun D σ H => te σ H fun _ H1 => D.nx σ H1
theorem ps_expr (he : PE X e te) (hs : swapsWith e none pos.line X.env = pure false := by rfl) : PS X (.Expr e pos) (tDrop te) := by
  intro pins s σ H D I h
  exact wpAny_Expr_any (thn (he pins s σ H _ I h) fun v s1 ⟨x, H1, I1, r1, q1⟩ => ⟨σ, H1, I1, q1⟩) I.quiet hs
noncomputable def tRet (te : TE) : TS := fun D σ H => te σ H D.rt
theorem ps_ret (he : PE X e te) : PS X (.Return (some e) pos) (tRet te) := by
  intro pins s σ H D I h
  exact wpAny_Return_some (thn (he pins s σ H _ I h) fun v s1 ⟨x, H1, I1, r1, q1⟩ => ⟨x, σ, H1, I1, r1, q1⟩)
noncomputable def tIfS (c : TT) (t u : TS) : TS := fun D σ H => c σ H fun b H1 => if b = true then t D σ H1 else u D σ H1
theorem ps_if {c : Expr} {a b : List Stmt} {tc : TT} (hc : PT X c tc) (ha : PSs X a t) (hb : PSs X b u) : PS X (.If c a b pos) (tIfS tc t u) := by
  intro pins s σ H D I h
  refine wpAny_If (thn (hc pins s σ H _ I h) fun d s1 ⟨H1, I1, q1⟩ => ?_)
  cases d with
  | true => exact ha pins s1 σ H1 D I1 q1
  | false => exact hb pins s1 σ H1 D I1 q1
end
noncomputable abbrev TG := V → St → Hp → (St → Hp → Prop) → Prop
noncomputable abbrev TGs := List V → St → Hp → (St → Hp → Prop) → Prop
noncomputable def PG (X : Cx) (target : Expr) (t : TG) : Prop :=
  ∀ (pins : List (Addr × Obj)) (s : Shared) (σ : St) (H : Hp) (v : V) (u : Value) (Q : St → Hp → Prop), Inv X pins σ H s → RelV v u → t v σ H Q →
    wpAny (model X.prog X.w) X.A (assign target X.env u) (fun _ s' => ∃ σ' H', Inv X pins σ' H' s' ∧ Q σ' H') X.xe s
noncomputable def PGs (X : Cx) (ts : List Expr) (t : TGs) : Prop :=
  ∀ (pins : List (Addr × Obj)) (s : Shared) (σ : St) (H : Hp) (vs : List V) (us : List Value) (Q : St → Hp → Prop), Inv X pins σ H s → Vals vs us → t vs σ H Q →
    wpAny (model X.prog X.w) X.A (assignInOrder ((assignEach ts X.env).map (·.2)) us) (fun _ s' => ∃ σ' H', Inv X pins σ' H' s' ∧ Q σ' H') X.xe s
section
variable {X : Cx} {pos : Pos}
noncomputable def gName (i : Nat) : TG := fun v σ H Q => Q (σ.set i (some v)) H
theorem pg_name {i : Nat} {x : Str} (hN : X.N.Nodup) (hi : X.N[i]? = some x) (hx : Loc X.env.scope x) (hf : X.fn x = true ∨ X.env.scope.names.lookup x = some .local := by first | exact .inl rfl | exact .inr rfl | assumption) : PG X (.Name x pos) (gName i) := by
  intro pins s σ H v u Q I r h
  exact wpAny_assign_Name (store_ok I hN hi hx r (fun s' I' => ⟨_, H, I', h⟩) hf)
noncomputable def gNil : TGs := fun vs σ H Q => vs = [] ∧ Q σ H
noncomputable def gCons (t : TG) (u : TGs) : TGs := fun vs σ H Q => ∃ v r, vs = v :: r ∧ t v σ H fun σ' H' => u r σ' H' Q
theorem pgs_nil : PGs X [] gNil := by
  intro pins s σ H vs us Q I r h
  obtain ⟨e, h⟩ := h
  subst e
  cases r
  exact assignInOrder_nil ⟨σ, H, I, h⟩
theorem pgs_cons {e : Expr} {es : List Expr} {t : TG} {u : TGs} (h1 : PG X e t) (h2 : PGs X es u)
    (hs : (assignEach (e :: es) X.env).map (·.2) = assign e X.env :: (assignEach es X.env).map (·.2) := by rfl) : PGs X (e :: es) (gCons t u) := by
  intro pins s σ H vs us Q I r h
  obtain ⟨v, vr, e1, h⟩ := h
  subst e1
  cases r with
  | cons r rr =>
    rw [hs]
    refine assignInOrder_cons (thn (h1 pins s σ H _ _ _ I r h) fun _ s1 ⟨σ1, H1, I1, q1⟩ => ?_)
    exact h2 pins s1 σ1 H1 _ _ Q I1 rr q1
noncomputable def gTup (K : PySem.W.Frag) (n : Nat) (t : TGs) : TG := fun v σ H Q => ∃ a xs, v = .ref a ∧ SqT K H a xs ∧ xs.length = n ∧ t xs σ H Q
theorem pg_tup {es : List Expr} {k : Nat} {t : TGs} {n : Nat} (hc : X.calm = true) (h : PGs X es t)
    (hn : (assignEach es X.env).length = n := by rfl) (hst : (assignEach es X.env).findIdx? (·.1) = none := by rfl) : PG X (.Tuple es k pos) (gTup X.K n t) := by
  intro pins s σ H v u Q I r hw
  obtain ⟨a, xs, e1, hq, hl, hw⟩ := hw
  subst e1
  cases r
  obtain ⟨its, rv, ht, hz⟩ := I.tuple hq
  refine assign_Tuple_tuple (I.ok.hd hc) ht (by simp [hn, ← hl, rv.length]) hst fun h' hx => ?_
  have I1 : Inv X pins σ H { s with heap := h' } := I.kept (t' := s.toks) fun b o e => hx b o (Nat.ne_of_lt (Heap.lt_size e)) e
  exact h pins _ σ H xs _ Q I1 (by simpa using rv) hw
noncomputable def tAsg (te : TE) (g : TG) : TS := fun D σ H => te σ H fun x H1 => g x σ H1 D.nx
theorem ps_set {i : Nat} {x : Str} {e : Expr} {te : TE} {pos' : Pos} (hN : X.N.Nodup) (hi : X.N[i]? = some x) (hx : Loc X.env.scope x) (he : PE X e te) (hs : swapsWith e (some (.Name x pos')) pos.line X.env = pure false := by rfl) (hf : X.fn x = true ∨ X.env.scope.names.lookup x = some .local := by first | exact .inl rfl | exact .inr rfl | assumption) :
    PS X (.Assign [.Name x pos'] e pos) (tAsg te (gName i)) := by
  intro pins s σ H D I h
  refine wpAny_Assign_Name (thn (he pins s σ H _ I h) fun v s1 ⟨y, H1, I1, r1, q1⟩ => ?_) hs
  exact store_ok I1 hN hi hx r1 (fun s2 I2 => ⟨_, H1, I2, q1⟩) hf
end
section
variable {X : Cx} {pos : Pos}
noncomputable def tWhile (c : TT) (tb : TS) : TS := fun D σ H => ∃ W : Nat → St → Hp → Prop, (∃ m, W m σ H) ∧ ∀ m σ H, W m σ H →
  c σ H fun b H1 => if b = true then ∃ N : St → Hp → Prop, (∀ σ' H', N σ' H' → ∃ m', m' < m ∧ W m' σ' H') ∧ tb { D with nx := N, ct := N, bk := D.nx } σ H1 else D.nx σ H1
theorem ps_while {c : Expr} {body : List Stmt} {tc : TT} {tb : TS} (hp : PassesOwn (model X.prog X.w) X.A X.env X.xe) (hc : PT X c tc) (hb : PSs X body tb) : PS X (.While c body [] pos) (tWhile tc tb) := by
  intro pins s σ H D I h
  obtain ⟨W, ⟨m0, w0⟩, turn⟩ := h
  refine wpAny_While (codeAny_whileLoop (fun n s' => ∃ σ' H', Inv X pins σ' H' s' ∧ W n σ' H') ?_ m0 ⟨σ, H, I, w0⟩)
  rintro n s1 ⟨σ1, H1, I1, w1⟩
  refine wpAny_passesOwn hp (thn (hc pins s1 σ1 H1 _ I1 (turn n σ1 H1 w1)) fun b s2 ⟨H2, I2, q2⟩ => ?_)
  cases b with
  | true =>
    obtain ⟨N, hN, q2⟩ := q2
    rw [if_pos rfl]
    refine wpAny_passesOwn hp (thn (hb pins s2 σ1 H2 _ I2 q2) fun f s3 q3 => ?_)
    cases f with
    | next =>
      obtain ⟨σ3, H3, I3, n3⟩ := q3
      obtain ⟨m', hm, w3⟩ := hN σ3 H3 n3
      exact ⟨m', hm, σ3, H3, I3, w3⟩
    | cont =>
      obtain ⟨σ3, H3, I3, n3⟩ := q3
      obtain ⟨m', hm, w3⟩ := hN σ3 H3 n3
      exact ⟨m', hm, σ3, H3, I3, w3⟩
    | brk => exact q3
    | ret v => exact q3
  | false =>
    rw [if_neg Bool.false_ne_true]
    exact wpAny_execs_nil ⟨σ1, H2, I2, q2⟩
end
structure It where
  go : Nat → Hp → Prop
  yld : Nat → Hp → V → Hp → Prop
  stop : Nat → Hp → Prop
noncomputable def FpOk (X : Cx) (pins : List (Addr × Obj)) (H : Hp) (b : Addr) : Prop :=
  H b = none ∧ b ≠ X.env.locals ∧ b ∉ X.fs ∧ (b ∈ X.ex ∨ X.s₀.heap.objs.size ≤ b) ∧ (∀ x c, X.env.cells.lookup x = some c → c ≠ b) ∧ ∀ p ∈ X.pn ++ pins, p.1 ≠ b
theorem Inv.fpOk {X : Cx} {pins : List (Addr × Obj)} {σ : St} {H H' : Hp} {s : Shared} {b : Addr} (I : Inv X pins σ H s) (hb : s.heap.objs.size ≤ b) (hn : H' b = none) : FpOk X pins H' b := by
  refine ⟨hn, Nat.ne_of_gt (Nat.lt_of_lt_of_le I.lt hb), I.nofs hb, .inr (Nat.le_trans I.sz hb), fun x c e z => ?_, fun p hp z => ?_⟩
  · obtain ⟨v, q⟩ := I.cell x c e
    exact absurd (Nat.lt_of_lt_of_le q.lt (by rw [z]; exact hb)) (Nat.lt_irrefl _)
  · exact absurd (Nat.lt_of_lt_of_le (Heap.lt_size (I.pin p hp).1) (by rw [z]; exact hb)) (Nat.lt_irrefl _)
structure Turn (P : Program) (w : World) (K : PySem.W.Frag) (tg : Expr) (J : It) (fp : List Addr) (it : Addr) (tn : Nat → Heap → Prop) : Prop where
  mem : it ∈ fp
  obj : ∀ i h, tn i h → ∀ b ∈ fp, ∃ o, h.get? b = some o ∧ ∀ v, o.data ≠ .cell v
  keep : ∀ i h h', tn i h → (∀ b ∈ fp, ∀ o, h.get? b = some o → h'.get? b = some o) → tn i h'
  item : ∀ (X : Cx), X.prog = P → X.w = w → X.K = K → X.calm = true → ∀ (i : Nat) (pins : List (Addr × Obj)) (s : Shared) (σ : St) (H : Hp) (E : Value → Shared → Prop), Inv X pins σ H s → (∀ b ∈ fp, FpOk X pins H b) → tn i s.heap → J.go i H →
    wpAny (model P w) X.A (pyNext (.ref it)) (fun r s1 => ∃ u, r = some u ∧
      wpAny (model P w) X.A (letOwnedTupleGo tg (.ref it) u) (fun _ s2 => ∃ x H', Inv X pins σ H' s2 ∧ RelV x u ∧ J.yld i H x H' ∧ tn (i + 1) s2.heap ∧ ∀ b ∈ fp, H' b = none) E s1) E s
  done : ∀ (X : Cx), X.prog = P → X.w = w → X.K = K → X.calm = true → ∀ (i : Nat) (pins : List (Addr × Obj)) (s : Shared) (σ : St) (H : Hp) (E : Value → Shared → Prop), Inv X pins σ H s → (∀ b ∈ fp, FpOk X pins H b) → tn i s.heap → J.stop i H →
    wpAny (model P w) X.A (pyNext (.ref it)) (fun r s1 => r = none ∧ Inv X pins σ H s1) E s
  self : ∀ (A : Around) (i : Nat) (s : Shared) (Q : Value → Shared → Prop) (E : Value → Shared → Prop), tn i s.heap → Q (.ref it) s → wpAny (model P w) A (pyIter (.ref it)) Q E s
noncomputable abbrev TI := St → Hp → (It → Hp → Prop) → Prop
inductive PIE (X : Cx) (pins : List (Addr × Obj)) (σ : St) (tg : Expr) (R : It → Hp → Prop) (itv : Value) (s2 : Shared) : Prop
  | mk (it : Addr) (fp : List Addr) (tn : Nat → Heap → Prop) (J : It) (H' : Hp) (eit : itv = .ref it) (inv : Inv X pins σ H' s2) (turn : Turn X.prog X.w X.K tg J fp it tn) (t0 : tn 0 s2.heap) (fpok : ∀ b ∈ fp, FpOk X pins H' b) (r : R J H') : PIE X pins σ tg R itv s2
noncomputable def PI (X : Cx) (tg iter : Expr) (wi : TI) : Prop :=
  ∀ (pins : List (Addr × Obj)) (s : Shared) (σ : St) (H : Hp) (R : It → Hp → Prop), Inv X pins σ H s → wi σ H R →
    wpAny (model X.prog X.w) X.A (eval iter X.env) (fun v s1 => wpAny (model X.prog X.w) X.A (pyIter v) (PIE X pins σ tg R) X.xe s1) X.xe s
theorem go_of {M : Model} {A : Around} {E : Value → Shared → Prop} {s : Shared} {tg : Expr} {it : Addr} {u : Value} {o : Obj} {n : String} {vs : Array Value} {Q : Unit → Shared → Prop} (ho : s.heap.get? it = some o) (hc : o.cls = .type n) (hd : o.data = .fields vs)
    (hn : ["enumerate", "zip", "dict_itemiterator", "dict_reverseitemiterator", "odict_iterator", "itertools.zip_longest", "itertools.pairwise"].contains n = false) (hQ : Q () s) : wpAny M A (letOwnedTupleGo tg (.ref it) u) Q E s := by
  unfold letOwnedTupleGo
  cases tg <;> first
    | exact wpAny_pure hQ
    | (cases u <;> first
        | exact wpAny_pure hQ
        | (refine wpAny_bind (wpAny_load ho ?_)
           rw [hc, hd]
           show wpAny M A (if (["enumerate", "zip", "dict_itemiterator", "dict_reverseitemiterator", "odict_iterator", "itertools.zip_longest", "itertools.pairwise"].contains n && vs[0]? == some (rawInt _)) = true then _ else _) Q E s
           rw [if_neg (by intro h; rw [hn, Bool.false_and] at h; cases h)]
           exact wpAny_pure hQ))
noncomputable def Itl (K : PySem.W.Frag) (a : Addr) : It :=
  ⟨fun i H => ∃ xs x, SqL K H a xs ∧ xs[i]? = some x, fun i H x H' => H' = H ∧ ∀ xs, SqL K H a xs → xs[i]? = some x, fun i H => ∃ xs, SqL K H a xs ∧ xs.length ≤ i⟩
noncomputable def Itr (lo : Int) (n : Nat) : It := ⟨fun i _ => i < n, fun i H x H' => H' = H ∧ x = .int (lo + i), fun i _ => n ≤ i⟩
theorem turn_list {P : Program} {w : World} {K : PySem.W.Frag} {tg : Expr} (a it : Addr) : Turn P w K tg (Itl K a) [it] it (fun i h => h.IsListIter it a i) where
  mem := by simp
  obj := fun i h st b hb => by
    have e : b = it := by simpa using hb
    subst e
    obtain ⟨o, e, c, d⟩ := st
    exact ⟨o, e, fun v z => by rw [d] at z; cases z⟩
  keep := fun i h h' st k => st.at fun o e => k it (by simp) o e
  item := by
    intro X hP hw hK hc i pins s σ H E I hf st hg
    subst hP hw hK
    obtain ⟨xs, x, hq, hx⟩ := hg
    obtain ⟨its, rv, p, hz⟩ := I.list hq
    obtain ⟨u, hu, ru⟩ := rv.get hx
    obtain ⟨f0, f1, f2, f3, f4, f5⟩ := hf it (by simp)
    refine wpAny_pyNext_list_item st p.isList (x := u) (by simpa using hu) fun h' st' sb => ?_
    have I1 : Inv X pins σ H { s with heap := h' } := I.turned (t' := s.toks) (fun b o hb e => (sb.2 b hb).trans e) f0 f1 f3 f4 f5
    obtain ⟨o, e, c, d⟩ := id st'
    exact ⟨u, rfl, go_of (s := { s with heap := h' }) e c d (by decide) ⟨x, H, I1, ru, ⟨rfl, fun ys hy => by rw [I.list_inj hy hq]; exact hx⟩, st', fun b hb => (hf b hb).1⟩⟩
  done := by
    intro X hP hw hK hc i pins s σ H E I hf st hg
    subst hP hw hK
    obtain ⟨xs, hq, hx⟩ := hg
    obtain ⟨its, rv, p, hz⟩ := I.list hq
    obtain ⟨f0, f1, f2, f3, f4, f5⟩ := hf it (by simp)
    have hl := rv.length
    exact wpAny_pyNext_list_end (I.ok.hd hc) st p.isList (by simp; omega) fun h' eb => ⟨rfl, I.turned (t' := s.toks) (fun b o hb e => eb b o hb e) f0 f1 f3 f4 f5⟩
  self := fun _ _ _ _ _ st h => wpAny_pyIter_listiter st h
theorem turn_range {P : Program} {w : World} {K : PySem.W.Frag} {tg : Expr} (it : Addr) (lo : Int) (n : Nat) : Turn P w K tg (Itr lo n) [it] it (fun i h => IsRangeIter h it (lo + (i : Nat) * 1) ((n : Int) - (i : Nat)) 1) where
  mem := by simp
  obj := fun i h st b hb => by
    have e : b = it := by simpa using hb
    subst e
    exact ⟨_, st, fun v z => by
      have z' : Data.fields _ = Data.cell v := z
      cases z'⟩
  keep := fun i h h' st k => k it (by simp) _ st
  item := by
    intro X hP hw hK hc i pins s σ H E I hf st hg
    subst hP hw hK
    obtain ⟨f0, f1, f2, f3, f4, f5⟩ := hf it (by simp)
    have W := Walks.range (prog := X.prog) (w := X.w) (I.ok.hd hc) it lo 1 n
    refine W.item i s _ _ hg st fun v h' tk hv st' kk => ?_
    obtain ⟨t, rfl⟩ := hv
    have I1 : Inv X pins σ H { s with heap := h', toks := tk } := I.turned (fun b o hb e => kk b o (by simpa using hb) e) f0 f1 f3 f4 f5
    refine ⟨_, rfl, go_of (s := { s with heap := h', toks := tk }) (n := "range_iterator") st' rfl rfl (by decide) ⟨.int (lo + i), H, I1, ⟨t, ?_⟩, ⟨rfl, rfl⟩, st', fun b hb => (hf b hb).1⟩⟩
    rw [Int.mul_one]
  done := by
    intro X hP hw hK hc i pins s σ H E I hf st hg
    subst hP hw hK
    obtain ⟨f0, f1, f2, f3, f4, f5⟩ := hf it (by simp)
    exact wpAny_pyNext_range_end (I.ok.hd hc) st (by have : n ≤ i := hg; omega) fun h' eb => ⟨rfl, I.turned (t' := s.toks) (fun b o hb e => eb b o hb e) f0 f1 f3 f4 f5⟩
  self := fun _ _ _ _ _ st h => wpAny_pyIter_rangeiter st h
end L2
namespace L2
open PySem PySem.Spec PyProof.Rows
section
variable {X : Cx} {tg : Expr}
noncomputable def iList (K : PySem.W.Frag) (tl : TE) : TI := fun σ H R => tl σ H fun x H1 => ∃ a, x = .ref a ∧ (∃ xs, SqL K H1 a xs) ∧ R (Itl K a) H1
theorem pi_list {l : Expr} {tl : TE} (hl : PE X l tl) : PI X tg l (iList X.K tl) := by
  intro pins s σ H R I h
  refine thn (hl pins s σ H _ I h) fun v s1 ⟨x, H1, I1, r1, q1⟩ => ?_
  obtain ⟨a, e, ⟨xs, hq⟩, q⟩ := q1
  subst e
  cases r1
  obtain ⟨its, rv, p, hz⟩ := I1.list hq
  refine wpAny_pyIter_list p.isList ?_
  refine ⟨s1.heap.objs.size, [s1.heap.objs.size], _, _, H1, rfl, I1.kept (t' := s1.toks) fun b o e => Heap.get?_push_of_some _ e, turn_list a _, ⟨_, Heap.get?_push_size _ rfl, rfl, rfl⟩, fun b hb => ?_, q⟩
  have e : b = s1.heap.objs.size := by simpa using hb
  subst e
  exact I1.fpOk (Nat.le_refl _) (I1.hok.fresh (Nat.le_refl _))
theorem range_it {pins : List (Addr × Obj)} {σ : St} {H : Hp} {s : Shared} {R : It → Hp → Prop} {E : Value → Shared → Prop} {lo hi : Int} {t u v : Tok} {tk : Nat} (I : Inv X pins σ H s) (h1 : -(2 ^ 62) ≤ lo) (h2 : lo < 2 ^ 62) (h3 : -(2 ^ 62) ≤ hi) (h4 : hi < 2 ^ 62)
    (q : R (Itr lo (hi - lo).toNat) H) : wpAny (model X.prog X.w) X.A (pyIter (.ref s.heap.objs.size)) (PIE X pins σ tg R) E { s with heap := s.heap.push { cls := .type "range", data := .fields #[.int lo t, .int hi u, .int 1 v] }, toks := tk } := by
  refine wpAny_pyIter_range (IsRange.new ..) (small_one h1 h2 h3 h4) ?_
  have I1 : Inv X pins σ H { s with heap := s.heap.push { cls := .type "range", data := .fields #[.int lo t, .int hi u, .int 1 v] }, toks := tk } := I.kept fun b o e => Heap.get?_push_of_some _ e
  refine ⟨(s.heap.push { cls := .type "range", data := .fields #[.int lo t, .int hi u, .int 1 v] }).objs.size, [(s.heap.push { cls := .type "range", data := .fields #[.int lo t, .int hi u, .int 1 v] }).objs.size], _, _, H, rfl,
    I1.kept (t' := tk) fun b o e => Heap.get?_push_of_some _ e, turn_range _ lo (hi - lo).toNat, ?_, fun b hb => ?_, q⟩
  · have e1 : lo + ((0 : Nat) : Int) * 1 = lo := by simp
    have e2 : (((hi - lo).toNat : Nat) : Int) - ((0 : Nat) : Int) = Builtin.Range.rangeSize lo hi 1 := by rw [rangeSize_one]; split <;> omega
    show IsRangeIter _ _ (lo + ((0 : Nat) : Int) * 1) ((((hi - lo).toNat : Nat) : Int) - ((0 : Nat) : Int)) 1
    rw [e1, e2]
    exact Heap.get?_push_size _ rfl
  · have e : b = (s.heap.push { cls := .type "range", data := .fields #[.int lo t, .int hi u, .int 1 v] }).objs.size := by simpa using hb
    subst e
    exact I1.fpOk (Nat.le_refl _) (I1.hok.fresh (Nat.le_refl _))
noncomputable def iRng1 (ta : TA) : TI := fun σ H R => ta σ H fun vs H1 => ∃ j : Int, vs = [.int j] ∧ -(2 ^ 62) ≤ j ∧ j < 2 ^ 62 ∧ R (Itr 0 j.toNat) H1
noncomputable def iRng2 (ta : TA) : TI := fun σ H R => ta σ H fun vs H1 => ∃ i j : Int, vs = [.int i, .int j] ∧ (-(2 ^ 62) ≤ i ∧ i < 2 ^ 62 ∧ -(2 ^ 62) ≤ j ∧ j < 2 ^ 62) ∧ R (Itr i (j - i).toNat) H1
theorem pi_range1 {a : Expr} {ta : TA} {p pos : Pos} (hg : Gl X "range") (hm : X.mg "range" = none) (ha : PA X [a] ta) (hs : starEach [a] X.env = [(false, eval a X.env)] := by rfl) : PI X tg (.Call (.Name "range" p) [a] [] pos) (iRng1 ta) := by
  intro pins s σ H R I h
  refine Call_ (ld_blt I hg hm boot_range (PyProof.Rows.callWith_type1 (thn (ha pos pins s σ H _ I h) fun us s1 ⟨vs, H1, I1, r1, q1⟩ => ?_) hs rfl))
  obtain ⟨j, e, q1, q2, q⟩ := q1
  subst e
  cases r1 with
  | cons r rr =>
    cases rr
    obtain ⟨t, rfl⟩ := r
    exact call_range_1 (range_it I1 (by omega) (by omega) q1 q2 (by simpa using q))
theorem pi_range2 {a b : Expr} {ta : TA} {p pos : Pos} (hg : Gl X "range") (hm : X.mg "range" = none) (ha : PA X [a, b] ta) (hs : starEach [a, b] X.env = [(false, eval a X.env), (false, eval b X.env)] := by rfl) (hs2 : starEach [b] X.env = [(false, eval b X.env)] := by rfl) :
    PI X tg (.Call (.Name "range" p) [a, b] [] pos) (iRng2 ta) := by
  intro pins s σ H R I h
  refine Call_ (ld_blt I hg hm boot_range (PyProof.Rows.callWith_type1 (thn (ha pos pins s σ H _ I h) fun us s1 ⟨vs, H1, I1, r1, q1⟩ => ?_) (by rw [hs, hs2]) (by rw [hs2]; rfl)))
  obtain ⟨i, j, e, ⟨q1, q2, q3, q4⟩, q⟩ := q1
  subst e
  cases r1 with
  | cons r rr =>
    cases rr with
    | cons r' rr =>
      cases rr
      obtain ⟨t, rfl⟩ := r
      obtain ⟨t', rfl⟩ := r'
      exact call_range_2 (range_it I1 q1 q2 q3 q4 q)
noncomputable def tFor (wi : TI) (g : TG) (tb : TS) : TS := fun D σ H => wi σ H fun J H1 => ∃ W : Nat → Nat → St → Hp → Prop, (∃ m, W 0 m σ H1) ∧ ∀ i m σ H, W i m σ H →
  (J.stop i H ∧ D.nx σ H) ∨ (J.go i H ∧ ∃ N : St → Hp → Prop, (∀ σ' H', N σ' H' → ∃ m', m' < m ∧ W (i + 1) m' σ' H') ∧ ∀ x H', J.yld i H x H' → g x σ H' fun σ2 H2 => tb { D with nx := N, ct := N, bk := D.nx } σ2 H2)
noncomputable def pinsAt (fp : List Addr) (h : Heap) : List (Addr × Obj) := fp.filterMap fun b => (h.get? b).map fun o => (b, o)
theorem mem_pinsAt {fp : List Addr} {h : Heap} {b : Addr} {o : Obj} (hb : b ∈ fp) (e : h.get? b = some o) : (b, o) ∈ pinsAt fp h := List.mem_filterMap.mpr ⟨b, hb, by rw [e]; rfl⟩
theorem of_pinsAt {fp : List Addr} {h : Heap} {p : Addr × Obj} (hp : p ∈ pinsAt fp h) : p.1 ∈ fp ∧ h.get? p.1 = some p.2 := by
  obtain ⟨b, hb, e⟩ := List.mem_filterMap.mp hp
  cases q : h.get? b with
  | none => rw [q] at e; cases e
  | some o =>
    rw [q] at e
    have e' : (b, o) = p := Option.some.inj e
    subst e'
    exact ⟨hb, q⟩
theorem Inv.pinned {pins : List (Addr × Obj)} {σ : St} {H : Hp} {s : Shared} {fp : List Addr} (I : Inv X pins σ H s) (hf : ∀ b ∈ fp, FpOk X pins H b) (ho : ∀ b ∈ fp, ∃ o, s.heap.get? b = some o ∧ ∀ v, o.data ≠ .cell v) : Inv X (pins ++ pinsAt fp s.heap) σ H s :=
  I.pins_of fun p hp => (List.mem_append.mp hp).elim (fun z => I.pin p (List.mem_append_right _ z)) fun z => by
    obtain ⟨hb, e⟩ := of_pinsAt z
    obtain ⟨f0, f1, f2, _⟩ := hf p.1 hb
    obtain ⟨o, e', d⟩ := ho p.1 hb
    rw [e] at e'; cases e'
    exact ⟨e, f0, f1, f2, d⟩
theorem Inv.unpinned {pins pl : List (Addr × Obj)} {σ : St} {H : Hp} {s : Shared} (I : Inv X (pins ++ pl) σ H s) : Inv X pins σ H s := I.pins_of fun p hp => I.pin p (List.mem_append_right _ (List.mem_append_left _ hp))
theorem ps_for {iter : Expr} {body : List Stmt} {wi : TI} {g : TG} {tb : TS} {pos : Pos} (hp : PassesOwn (model X.prog X.w) X.A X.env X.xe) (hc : X.calm = true) (hi : PI X tg iter wi) (hg : PG X tg g) (hb : PSs X body tb)
    (hs : ∀ x, foldedSetIterable iter X.env x = pure x := by intro _; rfl) : PS X (.For tg iter body [] pos) (tFor wi g tb) := by
  intro pins s σ H D I h
  refine wpAny_For (thn (hi pins s σ H _ I h) fun v s1 h1 => thn h1 fun itv s2 h2 => ?_) hs
  obtain ⟨it, fp, tn, J, H2, e, I2, T, st2, f2, W, ⟨m0, w0⟩, turn⟩ := h2
  subst e
  have stat : ∀ {H' : Hp}, (∀ b ∈ fp, H' b = none) → ∀ b ∈ fp, FpOk X pins H' b := fun hn b hb => ⟨hn b hb, (f2 b hb).2⟩
  refine codeAny_forLoop_any (fun n s' => ∃ i σ' H', Inv X pins σ' H' s' ∧ tn i s'.heap ∧ (∀ b ∈ fp, H' b = none) ∧ W i n σ' H') ?_ m0 ⟨0, σ, H2, I2, st2, fun b hb => (f2 b hb).1, w0⟩
  rintro n s3 ⟨i, σ3, H3, I3, st3, fr3, w3⟩
  rcases turn i n σ3 H3 w3 with ⟨stop, qn⟩ | ⟨go, N, hN, step⟩
  · refine wpAny_passesOwn hp (thn (T.done X rfl rfl rfl hc i pins s3 σ3 H3 X.xe I3 (stat fr3) st3 stop) fun r s4 ⟨hr, I4⟩ => ?_)
    subst hr
    exact wpAny_execs_nil ⟨σ3, H3, I4, qn⟩
  · refine wpAny_passesOwn hp (thn (T.item X rfl rfl rfl hc i pins s3 σ3 H3 X.xe I3 (stat fr3) st3 go) fun r s4 ⟨u, hr, h4⟩ => ?_)
    subst hr
    refine wpAny_passesOwn hp (thn h4 fun _ s5 ⟨x, H5, I5, r5, y5, st5, fr5⟩ => ?_)
    have I5' := I5.pinned (stat fr5) (T.obj _ _ st5)
    refine wpAny_passesOwn hp (thn (hg _ s5 σ3 H5 x u _ I5' r5 (step x H5 y5)) fun _ s6 ⟨σ6, H6, I6, q6⟩ => ?_)
    refine wpAny_passesOwn hp (thn (hb _ s6 σ6 H6 _ I6 q6) fun f s7 q7 => ?_)
    have again : ∀ {σ7 : St} {H7 : Hp}, Inv X (pins ++ pinsAt fp s5.heap) σ7 H7 s7 → N σ7 H7 → ∃ m, m < n ∧ ∃ i σ' H', Inv X pins σ' H' s7 ∧ tn i s7.heap ∧ (∀ b ∈ fp, H' b = none) ∧ W i m σ' H' := fun {σ7 H7} I7 n7 => by
      obtain ⟨m', hm, w7⟩ := hN σ7 H7 n7
      refine ⟨m', hm, i + 1, σ7, H7, I7.unpinned, T.keep _ _ _ st5 fun b hb o e => (I7.pin (b, o) (List.mem_append_right _ (List.mem_append_right _ (mem_pinsAt hb e)))).1, fun b hb => ?_, w7⟩
      obtain ⟨o, e, d⟩ := T.obj _ _ st5 b hb
      exact (I7.pin (b, o) (List.mem_append_right _ (List.mem_append_right _ (mem_pinsAt hb e)))).2.1
    cases f with
    | next => obtain ⟨σ7, H7, I7, n7⟩ := q7; exact again I7 n7
    | cont => obtain ⟨σ7, H7, I7, n7⟩ := q7; exact again I7 n7
    | brk => obtain ⟨σ7, H7, I7, q7⟩ := q7; exact ⟨σ7, H7, I7.unpinned, q7⟩
    | ret v => obtain ⟨x7, σ7, H7, I7, r7, q7⟩ := q7; exact ⟨x7, σ7, H7, I7.unpinned, r7, q7⟩
end
theorem for_list {K : PySem.W.Frag} {a : Addr} {xs : List V} {g : TG} {tb : TS} {D : Ends} {σ : St} {H : Hp} (Pv : Nat → St → Hp → Prop) (h0 : Pv 0 σ H) (hl : ∀ i σ H, i ≤ xs.length → Pv i σ H → SqL K H a xs)
    (hs : ∀ i x σ H, xs[i]? = some x → Pv i σ H → g x σ H fun σ2 H2 => tb { D with nx := Pv (i + 1), ct := Pv (i + 1), bk := D.nx } σ2 H2) (hd : ∀ σ H, Pv xs.length σ H → D.nx σ H) :
    ∃ W : Nat → Nat → St → Hp → Prop, (∃ m, W 0 m σ H) ∧ ∀ i m σ H, W i m σ H →
      ((Itl K a).stop i H ∧ D.nx σ H) ∨ ((Itl K a).go i H ∧ ∃ N : St → Hp → Prop, (∀ σ' H', N σ' H' → ∃ m', m' < m ∧ W (i + 1) m' σ' H') ∧ ∀ x H', (Itl K a).yld i H x H' → g x σ H' fun σ2 H2 => tb { D with nx := N, ct := N, bk := D.nx } σ2 H2) := by
  refine ⟨fun i m σ H => m = xs.length - i ∧ i ≤ xs.length ∧ Pv i σ H, ⟨xs.length, by simp, Nat.zero_le _, h0⟩, ?_⟩
  rintro i m σ H ⟨rfl, hi, p⟩
  have q := hl i σ H hi p
  by_cases hlt : i < xs.length
  · refine .inr ⟨⟨xs, xs[i], q, by simp [hlt]⟩, Pv (i + 1), fun σ' H' p' => ⟨xs.length - (i + 1), by omega, rfl, hlt, p'⟩, fun x H' y => ?_⟩
    obtain ⟨e, y⟩ := y
    subst e
    exact hs i x σ _ (y xs q) p
  · have e : i = xs.length := by omega
    subst e
    exact .inl ⟨⟨xs, q, Nat.le_refl _⟩, hd σ H p⟩
theorem for_range {lo : Int} {n : Nat} {g : TG} {tb : TS} {D : Ends} {σ : St} {H : Hp} (Pv : Nat → St → Hp → Prop) (h0 : Pv 0 σ H)
    (hs : ∀ i σ H, i < n → Pv i σ H → g (.int (lo + i)) σ H fun σ2 H2 => tb { D with nx := Pv (i + 1), ct := Pv (i + 1), bk := D.nx } σ2 H2) (hd : ∀ σ H, Pv n σ H → D.nx σ H) :
    ∃ W : Nat → Nat → St → Hp → Prop, (∃ m, W 0 m σ H) ∧ ∀ i m σ H, W i m σ H →
      ((Itr lo n).stop i H ∧ D.nx σ H) ∨ ((Itr lo n).go i H ∧ ∃ N : St → Hp → Prop, (∀ σ' H', N σ' H' → ∃ m', m' < m ∧ W (i + 1) m' σ' H') ∧ ∀ x H', (Itr lo n).yld i H x H' → g x σ H' fun σ2 H2 => tb { D with nx := N, ct := N, bk := D.nx } σ2 H2) := by
  refine ⟨fun i m σ H => m = n - i ∧ i ≤ n ∧ Pv i σ H, ⟨n, by simp, Nat.zero_le _, h0⟩, ?_⟩
  rintro i m σ H ⟨rfl, hi, p⟩
  by_cases hlt : i < n
  · refine .inr ⟨hlt, Pv (i + 1), fun σ' H' p' => ⟨n - (i + 1), by omega, rfl, hlt, p'⟩, fun x H' y => ?_⟩
    obtain ⟨e, y⟩ := y
    subst e y
    exact hs i σ _ hlt p
  · have e : i = n := by omega
    subst e
    exact .inl ⟨Nat.le_refl _, hd σ H p⟩
end L2
namespace L2
open PySem PySem.Spec PyProof.Rows
noncomputable abbrev R2 := V → V → Hp → VK → Prop
noncomputable def OpR (X : Cx) (f : Value → Value → Sem Value) (r : R2) : Prop :=
  ∀ (pins : List (Addr × Obj)) (s : Shared) (σ : St) (H : Hp) (x y : V) (v u : Value) (Q : VK), Inv X pins σ H s → RelV x v → RelV y u → r x y H Q →
    wpAny (model X.prog X.w) X.A (f v u) (EP X pins σ Q) X.xe s
noncomputable def UnR (X : Cx) (f : Value → Sem Value) (r : V → Hp → VK → Prop) : Prop :=
  ∀ (pins : List (Addr × Obj)) (s : Shared) (σ : St) (H : Hp) (x : V) (v : Value) (Q : VK), Inv X pins σ H s → RelV x v → r x H Q →
    wpAny (model X.prog X.w) X.A (f v) (EP X pins σ Q) X.xe s
noncomputable def CallR (X : Cx) (f : Value) (r : List V → Hp → VK → Prop) : Prop :=
  ∀ (pins : List (Addr × Obj)) (s : Shared) (σ : St) (H : Hp) (xs : List V) (us : List Value) (Q : VK), Inv X pins σ H s → Vals xs us → r xs H Q →
    wpAny (model X.prog X.w) X.A (call f us) (EP X pins σ Q) X.xe s
noncomputable def TruR (X : Cx) (r : V → Hp → (Bool → Hp → Prop) → Prop) : Prop :=
  ∀ (pins : List (Addr × Obj)) (s : Shared) (σ : St) (H : Hp) (x : V) (v : Value) (Q : Bool → Hp → Prop), Inv X pins σ H s → RelV x v → r x H Q →
    wpAny (model X.prog X.w) X.A (truthy v) (TP X pins σ Q) X.xe s
noncomputable def tOp (r : R2) (ta tb : TE) : TE := fun σ H Q => ta σ H fun x H1 => tb σ H1 fun y H2 => r x y H2 Q
noncomputable def tUn (r : V → Hp → VK → Prop) (ta : TE) : TE := fun σ H Q => ta σ H fun x H1 => r x H1 Q
noncomputable def rI (C : Int → Int → Prop) (g : Int → Int → V) : R2 := fun x y H Q => ∃ i j, x = .int i ∧ y = .int j ∧ C i j ∧ Q (g i j) H
noncomputable def rI0 (g : Int → Int → V) : R2 := fun x y H Q => ∃ i j, x = .int i ∧ y = .int j ∧ Q (g i j) H
noncomputable def rU (g : Int → V) : V → Hp → VK → Prop := fun x H Q => ∃ i, x = .int i ∧ Q (g i) H
section
variable {X : Cx} {a b c : Expr} {ta tb tc : TE} {pos : Pos}
theorem binT (ha : PE X a ta) (hb : PE X b tb) {pins : List (Addr × Obj)} {s : Shared} {σ : St} {H : Hp} {R : V → V → Hp → Prop} (I : Inv X pins σ H s)
    (h : ta σ H fun x H1 => tb σ H1 fun y H2 => R x y H2) {Q : Value → Shared → Prop} {f : Value → Value → Sem Value}
    (hf : ∀ v u s2 x y H2, Inv X pins σ H2 s2 → RelV x v → RelV y u → R x y H2 → wpAny (model X.prog X.w) X.A (f v u) Q X.xe s2) :
    wpAny (model X.prog X.w) X.A (eval a X.env) (fun v s₁ => wpAny (model X.prog X.w) X.A (eval b X.env) (fun u s₂ => wpAny (model X.prog X.w) X.A (f v u) Q X.xe s₂) X.xe s₁) X.xe s := by
  refine thn (ha pins s σ H _ I h) fun v s1 ⟨x, H1, I1, r1, q1⟩ => ?_
  refine thn (hb pins s1 σ H1 _ I1 q1) fun u s2 ⟨y, H2, I2, r2, q2⟩ => ?_
  exact hf v u s2 x y H2 I2 r1 r2 q2
theorem pe_op {op : Operator} {r : R2} (ho : OpR X (binaryOp op) r) (ha : PE X a ta) (hb : PE X b tb) : PE X (.BinOp a op b pos) (tOp r ta tb) := by
  intro pins s σ H Q I h
  exact wpAny_BinOp (binT ha hb I h fun v u s2 x y H2 I2 rx ry q => ho pins s2 σ H2 x y v u Q I2 rx ry q)
theorem pe_un {op : UnaryOp} {r : V → Hp → VK → Prop} (ho : UnR X (unaryOp op) r) (ha : PE X a ta) : PE X (.UnaryOp op a pos) (tUn r ta) := by
  intro pins s σ H Q I h
  exact UnaryOp_ (thn (ha pins s σ H _ I h) fun v s1 ⟨x, H1, I1, r1, q1⟩ => ho pins s1 σ H1 x v Q I1 r1 q1)
theorem opI {f : Value → Value → Sem Value} {C : Int → Int → Prop} {g : Int → Int → Int}
    (rule : ∀ (i j : Int) (t u : Tok) (s : Shared) (Q : Value → Shared → Prop) (E : Value → Shared → Prop), C i j → Q (.int (g i j) s.toks) { s with toks := s.toks + 1 } → wpAny (model X.prog X.w) X.A (f (.int i t) (.int j u)) Q E s) :
    OpR X f (rI C fun i j => .int (g i j)) := by
  intro pins s σ H x y v u Q I rx ry h
  obtain ⟨i, j, rfl, rfl, hc, q⟩ := h
  obtain ⟨t, rfl⟩ := rx
  obtain ⟨t', rfl⟩ := ry
  exact rule i j t t' s _ _ hc ⟨.int (g i j), H, I.tok _, ⟨_, rfl⟩, q⟩
theorem opI0 {f : Value → Value → Sem Value} {g : Int → Int → Int}
    (rule : ∀ (i j : Int) (t u : Tok) (s : Shared) (Q : Value → Shared → Prop) (E : Value → Shared → Prop), Q (.int (g i j) s.toks) { s with toks := s.toks + 1 } → wpAny (model X.prog X.w) X.A (f (.int i t) (.int j u)) Q E s) :
    OpR X f (rI0 fun i j => .int (g i j)) := by
  intro pins s σ H x y v u Q I rx ry h
  obtain ⟨i, j, rfl, rfl, q⟩ := h
  obtain ⟨t, rfl⟩ := rx
  obtain ⟨t', rfl⟩ := ry
  exact rule i j t t' s _ _ ⟨.int (g i j), H, I.tok _, ⟨_, rfl⟩, q⟩
theorem opB0 {f : Value → Value → Sem Value} {g : Int → Int → Bool}
    (rule : ∀ (i j : Int) (t u : Tok) (s : Shared) (Q : Value → Shared → Prop) (E : Value → Shared → Prop), Q (.bool (g i j)) s → wpAny (model X.prog X.w) X.A (f (.int i t) (.int j u)) Q E s) :
    OpR X f (rI0 fun i j => .bl (g i j)) := by
  intro pins s σ H x y v u Q I rx ry h
  obtain ⟨i, j, rfl, rfl, q⟩ := h
  obtain ⟨t, rfl⟩ := rx
  obtain ⟨t', rfl⟩ := ry
  exact rule i j t t' s _ _ ⟨.bl (g i j), H, I, rfl, q⟩
noncomputable def CDiv (i j : Int) : Prop := 0 < j ∧ j < 1073741824
noncomputable def CMul (i j : Int) : Prop := (-(2 ^ 64) < i ∧ i < 2 ^ 64) ∨ (-(2 ^ 64) < j ∧ j < 2 ^ 64)
theorem CMul.ok {i j : Int} (h : CMul i j) : IntMulOk i j := by
  rcases h with ⟨h1, h2⟩ | ⟨h1, h2⟩
  · exact .of_left (intBits_le_64 h1 h2)
  · exact .of_right (intBits_le_64 h1 h2)
theorem op_add : OpR X (binaryOp .Add) (rI0 fun i j => .int (i + j)) := opI0 fun _ _ _ _ _ _ _ q => add_int q
theorem op_sub : OpR X (binaryOp .Sub) (rI0 fun i j => .int (i - j)) := opI0 fun _ _ _ _ _ _ _ q => sub_int q
theorem op_fdiv : OpR X (binaryOp .FloorDiv) (rI CDiv fun i j => .int (i / j)) := opI fun i j _ _ _ _ _ hc q => by
  have h1 : (0 : Int) < j := hc.1
  have h2 : j < 1073741824 := hc.2
  exact floordiv_int (by omega) (by rw [Int.fdiv_eq_ediv_of_nonneg i (by omega)]; exact q) (.inl (PyProof.noPylong_small (by omega)))
theorem op_mod : OpR X (binaryOp .Mod) (rI (fun _ j => 0 < j) fun i j => .int (i % j)) := opI fun i j _ _ _ _ _ hc q => by
  have h1 : (0 : Int) < j := hc
  exact mod_int' (by omega) (by rw [Int.fmod_eq_emod_of_nonneg i (by omega)]; exact q)
theorem unI {f : Value → Sem Value} {g : Int → Int}
    (rule : ∀ (i : Int) (t : Tok) (s : Shared) (Q : Value → Shared → Prop) (E : Value → Shared → Prop), Q (.int (g i) s.toks) { s with toks := s.toks + 1 } → wpAny (model X.prog X.w) X.A (f (.int i t)) Q E s) :
    UnR X f (rU fun i => .int (g i)) := by
  intro pins s σ H x v Q I rx h
  obtain ⟨i, rfl, q⟩ := h
  obtain ⟨t, rfl⟩ := rx
  exact rule i t s _ _ ⟨.int (g i), H, I.tok _, ⟨_, rfl⟩, q⟩
theorem un_neg : UnR X (unaryOp .USub) (rU fun i => .int (-i)) := unI fun _ _ _ _ _ q => neg_int q
end
section
variable {X : Cx} {a b c : Expr} {ta tb tc : TE} {pos : Pos}
theorem fin_bl {pins : List (Addr × Obj)} {σ : St} {H : Hp} {s : Shared} {Q : VK} {k k' : Bool} (I : Inv X pins σ H s) (q : Q (.bl k) H) (e : k = k') : EP X pins σ Q (.bool k') s := by
  subst e
  exact ⟨.bl k, H, I, rfl, q⟩
theorem op_lt : OpR X (compareOp .Lt) (rI0 fun i j => .bl (decide (i < j))) := opB0 fun _ _ _ _ _ _ _ q => lt_int q
theorem op_le : OpR X (compareOp .LtE) (rI0 fun i j => .bl (decide (i ≤ j))) := opB0 fun _ _ _ _ _ _ _ q => le_int q
theorem op_gt : OpR X (compareOp .Gt) (rI0 fun i j => .bl (decide (j < i))) := opB0 fun _ _ _ _ _ _ _ q => gt_int q
theorem op_ge : OpR X (compareOp .GtE) (rI0 fun i j => .bl (decide (j ≤ i))) := opB0 fun _ _ _ _ _ _ _ q => ge_int q
theorem op_isN : OpR X (compareOp .Is) (fun x y H Q => y = .non ∧ Q (.bl (decide (x = .non))) H) := by
  intro pins s σ H x y v u Q I rx ry h
  obtain ⟨rfl, q⟩ := h
  cases ry
  refine is_none_gen (fin_bl I q ?_)
  cases x <;> first
    | (cases rx; rfl)
    | (obtain ⟨t, rfl⟩ := rx; rfl)
theorem op_notN : OpR X (compareOp .IsNot) (fun x y H Q => y = .non ∧ Q (.bl (!decide (x = .non))) H) := by
  intro pins s σ H x y v u Q I rx ry h
  obtain ⟨rfl, q⟩ := h
  cases ry
  refine isnot_none_gen (fin_bl I q ?_)
  cases x <;> first
    | (cases rx; rfl)
    | (obtain ⟨t, rfl⟩ := rx; rfl)
theorem pe_cmpR {op : CmpOp} {r : R2} (ho : OpR X (compareOp op) r) (ha : PE X a ta) (hb : PE X b tb) (hm : behindInMarks op b = false) : PE X (.Compare a [op] [b] pos) (tOp r ta tb) := by
  intro pins s σ H Q I h
  exact wpAny_Compare1 (binT ha hb I h fun v u s2 x y H2 I2 rx ry q => ho pins s2 σ H2 x y v u Q I2 rx ry q) hm
noncomputable def tTest (t : TE) : TT := fun σ H Q => t σ H fun x H' => ∃ k, x = .bl k ∧ Q k H'
theorem pt_cmpR {op : CmpOp} {r : R2} (ho : OpR X (compareOp op) r) (ha : PE X a ta) (hb : PE X b tb) (hm : behindInMarks op b = false) : PT X (.Compare a [op] [b] pos) (tTest (tOp r ta tb)) := by
  intro pins s σ H Q I h
  refine wpAny_isTrue_Compare1 (thn (ha pins s σ H _ I h) fun v s1 ⟨x, H1, I1, r1, q1⟩ => thn (hb pins s1 σ H1 _ I1 q1) fun u s2 ⟨y, H2, I2, r2, q2⟩ =>
    thn (ho pins s2 σ H2 x y v u _ I2 r1 r2 q2) fun c s3 ⟨z, H3, I3, r3, k, e, q3⟩ => ?_) hm
  subst e
  cases r3
  exact wpAny_truthy_bool ⟨H3, I3, q3⟩
noncomputable def TruV (K : PySem.W.Frag) (x : V) (H : Hp) (k : Bool) : Prop :=
  match x with
  | .non => k = false
  | .bl b => k = b
  | .int i => k = (i != 0)
  | .str y => y.length ≤ sizeLine ∧ k = ((y.length : Int) != 0)
  | .byt y => y.size ≤ sizeLine ∧ k = ((y.size : Int) != 0)
  | .ref p => (∃ xs, SqL K H p xs ∧ k = !xs.isEmpty) ∨ (∃ xs, SqT K H p xs ∧ k = !xs.isEmpty) ∨ ∃ kvs, H p = some (.dK kvs) ∧ k = !kvs.isEmpty
  | _ => False
theorem isEmpty_kv {κ : Type} {kvs : List (κ × V)} {vs : List (κ × Value)} (r : KV kvs vs) : (!vs.isEmpty) = !kvs.isEmpty := by
  cases r <;> rfl
theorem isEmpty_of {xs : List V} {its : List Value} (r : Vals xs its) : (!its.toArray.isEmpty) = !xs.isEmpty := by
  cases r <;> simp
theorem line63 : (sizeLine : Nat) < 2 ^ 63 := by rw [sizeLine_eq]; decide
theorem tru_ok : TruR X (fun x H Q => ∃ k, TruV X.K x H k ∧ Q k H) := by
  intro pins s σ H x v Q I rx h
  obtain ⟨k, e, q⟩ := h
  have hl := line63
  have hs : sizeLine = 16777216 := sizeLine_eq
  cases x with
  | non =>
    cases rx
    have e' : k = false := e
    subst e'
    exact truthy_none ⟨H, I, q⟩
  | bl b =>
    cases rx
    have e' : k = b := e
    subst e'
    exact wpAny_truthy_bool ⟨H, I, q⟩
  | int i =>
    obtain ⟨t, rfl⟩ := rx
    have e' : k = (i != 0) := e
    subst e'
    exact PySem.P.truthy_int ⟨H, I, q⟩
  | str y =>
    obtain ⟨t, rfl⟩ := rx
    obtain ⟨hy, e'⟩ : y.length ≤ sizeLine ∧ k = ((y.length : Int) != 0) := e
    subst e'
    exact PySem.P.truthy_str (by omega) ⟨H, I.tok _, q⟩
  | byt y =>
    obtain ⟨t, rfl⟩ := rx
    obtain ⟨hy, e'⟩ : y.size ≤ sizeLine ∧ k = ((y.size : Int) != 0) := e
    subst e'
    exact PySem.W.truthy_bytes (by omega) ⟨H, I.tok _, q⟩
  | ref p =>
    cases rx
    have e' : (∃ xs, SqL X.K H p xs ∧ k = !xs.isEmpty) ∨ (∃ xs, SqT X.K H p xs ∧ k = !xs.isEmpty) ∨ ∃ kvs, H p = some (.dK kvs) ∧ k = !kvs.isEmpty := e
    rcases e' with ⟨xs, hx, e'⟩ | ⟨xs, hx, e'⟩ | ⟨kvs, hx, e'⟩
    · subst e'
      obtain ⟨its, r, pl, hz⟩ := I.list hx
      have hlen := r.length
      exact wpAny_truthy_list pl.isList (by simp only [List.size_toArray]; omega) ⟨H, I.tok _, by rw [isEmpty_of r]; exact q⟩
    · subst e'
      obtain ⟨its, r, pl, hz⟩ := I.tuple hx
      have hlen := r.length
      exact truthy_tuple pl (by simp only [List.size_toArray]; omega) ⟨H, I.tok _, by rw [isEmpty_of r]; exact q⟩
    · subst e'
      obtain ⟨hz, hS, vs, r, m⟩ : kvs.length ≤ sizeLine ∧ (p == sysModules) = false ∧ ∃ vs, KV kvs vs ∧ s.heap.DictOf (mixKind X.prog X.w) p vs := I.hok p _ hx
      have hlen : kvs.length = vs.length := Paired.length r
      exact wpAny_truthy_dict hS m (by omega) ⟨H, I.tok _, by rw [isEmpty_kv r]; exact q⟩
  | _ => exact (show False from e).elim
theorem pt_truth (ha : PE X a ta) (he : ∀ whole, isTrue a X.env whole = (do let v ← whole; standAt a.pos; holding [v] (truthy v))) :
    PT X a (fun σ H Q => ta σ H fun x H' => ∃ k, TruV X.K x H' k ∧ Q k H') := by
  intro pins s σ H Q I h
  exact isTrue_plain (thn (ha pins s σ H _ I h) fun v s1 ⟨x, H1, I1, r1, q1⟩ => tru_ok pins s1 σ H1 x v Q I1 r1 q1) (he _)
theorem op_add_str : OpR X (binaryOp .Add) (fun x y H Q => ∃ i j, x = .str i ∧ y = .str j ∧ i.length + j.length ≤ sizeLine ∧ Q (.str (i ++ j)) H) := by
  intro pins s σ H x y v u Q I rx ry h
  obtain ⟨i, j, rfl, rfl, hz, q⟩ := h
  obtain ⟨t, rfl⟩ := rx
  obtain ⟨t', rfl⟩ := ry
  exact add_str (fun t' tk => ⟨.str (i ++ j), H, I.tok _, ⟨_, rfl⟩, q⟩) hz
theorem vals1 {x : V} {us : List Value} (r : Vals [x] us) : ∃ u, us = [u] ∧ RelV x u := by
  cases r with
  | cons r1 r2 => cases r2; exact ⟨_, rfl, r1⟩
end
end L2
namespace L2
open PySem PySem.Spec PyProof.Rows
structure ObjM (h : Heap) (x dx C : Addr) (mA : Str → Option Value) : Prop where
  obj : h.get? x = some (PySem.W.instObj C dx)
  ns : h.Ns1 dx mA
  ne : dx ≠ x
theorem lookIn_ns {h : Heap} {dx : Addr} {mA : Str → Option Value} (n : h.Ns1 dx mA) : ∃ od, h.get? dx = some od ∧ ∀ name, PySem.W.lookIn name od = some (mA name) := by
  obtain ⟨o, es, ep, ho, hd, hk, _, hm⟩ := n
  refine ⟨o, ho, fun name => ?_⟩
  have e := hm name
  unfold nsFind findBy at e
  rw [← Array.find?_toList] at e
  unfold PySem.W.lookIn
  rw [hd]
  dsimp only
  split
  · rename_i y q
    rw [q] at e
    exact congrArg some e
  · rename_i q
    rw [q] at e
    have a : es.toList.any (·.refKey) = false := by
      rw [List.any_eq_false]
      intro y hy
      obtain ⟨z, t, hkey⟩ := hk y (Array.mem_toList_iff.mp hy)
      simp [DictEntry.refKey, hkey]
    have a' : ¬ es.toList.any (·.refKey) = true := by rw [a]; exact Bool.false_ne_true
    rw [if_neg a']
    exact congrArg some e
theorem ObjM.look {h : Heap} {x dx C : Addr} {mA : Str → Option Value} (I : ObjM h x dx C mA) : ∃ od, PySem.W.InstAt h x (PySem.W.instObj C dx) C (some od) ∧ ∀ name, PySem.W.lookIn name od = some (mA name) :=
  let ⟨od, ho, hl⟩ := lookIn_ns I.ns
  ⟨od, ⟨I.obj, rfl, rfl, ho⟩, hl⟩
section
variable {prog : Program} {w : World} {A : Around} {E : Value → Shared → Prop} {s : Shared} {K : PySem.W.Frag} {x dx C f : Addr} {mA : Str → Option Value} {name : Str} {v : Value}
theorem get_map {expr : Bool} {Q : Value → Shared → Prop} (X : K.In s.heap) (I : ObjM s.heap x dx C mA) (hg : PySem.W.plainGet K C name = true) (hh : PySem.W.hasDictIn K C = true)
    (ha : PySem.W.findIn K (.ref C) name = some none) (hv : mA name = some v) (hv' : PySem.W.handedIn v = true) (h : Q v { s with toks := s.toks + 1 }) :
    wpAny (model prog w) A (getAttr (.ref x) name expr) Q E s := by
  obtain ⟨od, J, hl⟩ := I.look
  exact PySem.W.get_value X J (PySem.W.plainGet_of hg).1 (PySem.W.findObj_own hh ha rfl (by rw [hl, hv])) hv' h
theorem get_meth {pl : Sem Bool} {Q : Value × List Value → Shared → Prop} (X : K.In s.heap) (I : ObjM s.heap x dx C mA) (hg : PySem.W.plainGet K C name = true)
    (hf : PySem.W.findIn K (.ref C) name = some (some (.ref f))) (ht : PySem.W.isFn K (.ref f) = true) (hv : mA name = none) (h : Q (.ref f, [.ref x]) s) :
    wpAny (model prog w) A (getMethod (.ref x) name pl) Q E s := by
  obtain ⟨od, J, hl⟩ := I.look
  exact PySem.W.method_fn X J (PySem.W.plainGet_of hg).1 (PySem.W.plainGet_of hg).2 hf (beq_iff_eq.mp ht) (by show (PySem.W.lookIn name od).map (·.isSome) = some false; rw [hl, hv]; rfl) h
theorem set_map {ns : List Str} {Q : Unit → Shared → Prop} (X : K.In s.heap) (I : ObjM s.heap x dx C mA)
    (hs : PySem.W.findIn K (.ref C) "__setattr__" = some (some (.builtin "object.__setattr__"))) (hp : PySem.W.plainOver K C = true) (ht : PySem.W.takerIn K C name = some none) (hh : PySem.W.hasDictIn K C = true)
    (hw : PySem.Within mA ns) (hsz : ns.length ≤ sizeLine)
    (h : ∀ h', ObjM h' x dx C (fun y => if y = name then some v else mA y) → Heap.SameBut dx s.heap h' → Q () { s with heap := h', toks := s.toks + 2 }) :
    wpAny (model prog w) A (setAttr (.ref x) name v) Q E s := by
  obtain ⟨od, J, hl⟩ := I.look
  refine PySem.W.set_plain X J hs (PySem.W.osa_open (s := { s with toks := s.toks + 1 }) (r := none) X J hp ht fun b => ?_)
  obtain ⟨cd, hc, hd'⟩ := PySem.W.any_some hh
  have hx : s.heap.get? x = some ⟨.ref C, some dx, .plain, #[]⟩ := I.obj
  refine wpAny_bind (wpAny_pure (wpAny_bind (wpAny_bind (wpAny_loadPart hx (wpAny_bind (PySem.W.Looks.here (s := { s with toks := s.toks + 1 }) (PySem.W.looks_clsIn X hc) ?_))))))
  rw [hd']
  refine wpAny_pure (a := some dx) (wpAny_bind (wpAny_pure (wpAny_bind ?_)))
  refine wpAny_nsSet1 (s := { s with toks := s.toks + 1 }) I.ns fun h' hn2 hs2 => ?_
  obtain ⟨oD, esD, epD, hoD, hdD, hcD⟩ := hn2.count (PySem.Within.cons name v hw)
  refine wpAny_bind (wpAny_lookBehind hoD (by rw [hdD]; exact pastItsLine_dict (Nat.le_trans hcD (by rw [List.length_cons]; omega))) ?_)
  exact wpAny_pure (h _ ⟨(hs2.2 _ (Ne.symm I.ne)).trans I.obj, hn2, I.ne⟩ hs2)
theorem make_map {R : Result → Shared → Prop} {vs : List Value} {kw : List (Str × Value)} (X : K.In s.heap) (hm : PySem.W.makesIn K C = true)
    (hi : PySem.W.findIn K (.ref C) "__init__" = some (some (.ref f))) (hf : PySem.W.typeIn K (.ref f) = some (.type "function"))
    (h : codeAny (model prog w) (A.under (.builtin "type.__call__" ⟨.ref C :: vs, kw⟩)) (.call (.ref f) ⟨.ref (s.heap.objs.size + 1) :: vs, kw⟩) (PySem.W.InitBack (s.heap.objs.size + 1) R)
      { s with heap := (s.heap.push PySem.W.emptyDict).push (PySem.W.instObj C s.heap.objs.size) }) :
    codeAny (model prog w) A (.call (.ref C) ⟨vs, kw⟩) R s := by
  obtain ⟨hh, g, d, t, os⟩ := s
  exact PySem.W.make_core (PySem.W.makes_of X hm) (PySem.W.looks_findIn X hi) (fun self => PySem.W.bind_fn X self hf) (.inl rfl) h
end
noncomputable def putF (f : Str) (v : V) : List (Str × V) → List (Str × V)
  | [] => [(f, v)]
  | (g, x) :: r => if g = f then (g, v) :: r else (g, x) :: putF f v r
theorem lookup_putF (f g : Str) (v : V) : ∀ fs : List (Str × V), (putF f v fs).lookup g = if g = f then some v else fs.lookup g
  | [] => by
    show List.lookup g [(f, v)] = _
    by_cases h : g = f
    · have hb : (g == f) = true := beq_iff_eq.mpr h
      simp only [List.lookup, hb, if_pos h]
    · have hb : (g == f) = false := beq_eq_false_iff_ne.mpr h
      simp only [List.lookup, hb, if_neg h]
  | (k, x) :: r => by
    have ih := lookup_putF f g v r
    rw [show putF f v ((k, x) :: r) = (if k = f then (k, v) :: r else (k, x) :: putF f v r) from rfl]
    by_cases hk : k = f
    · rw [if_pos hk]
      by_cases h : g = k
      · have hb : (g == k) = true := beq_iff_eq.mpr h
        simp only [List.lookup, hb, if_pos (h.trans hk)]
      · have hb : (g == k) = false := beq_eq_false_iff_ne.mpr h
        simp only [List.lookup, hb, if_neg (fun e : g = f => h (e.trans hk.symm))]
    · rw [if_neg hk]
      by_cases h : g = k
      · have hb : (g == k) = true := beq_iff_eq.mpr h
        simp only [List.lookup, hb, if_neg (fun e : g = f => hk (h.symm.trans e))]
      · have hb : (g == k) = false := beq_eq_false_iff_ne.mpr h
        simp only [List.lookup, hb]
        exact ih
theorem keys_putF (f : Str) (v : V) : ∀ fs : List (Str × V), f ∈ (putF f v fs).map (·.1) ∧ ∀ g, g ∈ fs.map (·.1) → g ∈ (putF f v fs).map (·.1)
  | [] => ⟨by simp [putF], fun g h => by simp at h⟩
  | (k, x) :: r => by
    obtain ⟨i1, i2⟩ := keys_putF f v r
    rw [show putF f v ((k, x) :: r) = (if k = f then (k, v) :: r else (k, x) :: putF f v r) from rfl]
    by_cases hk : k = f
    · rw [if_pos hk]
      subst hk
      exact ⟨by simp, fun g h => by simpa using h⟩
    · rw [if_neg hk]
      refine ⟨?_, fun g h => ?_⟩
      · rw [List.map_cons]
        exact List.mem_cons_of_mem _ i1
      · rw [List.map_cons] at h ⊢
        rcases List.mem_cons.mp h with e | e
        · exact List.mem_cons.mpr (.inl e)
        · exact List.mem_cons_of_mem _ (i2 g e)
theorem length_putF (f : Str) (v : V) : ∀ fs : List (Str × V), (putF f v fs).length ≤ fs.length + 1
  | [] => by simp [putF]
  | (k, x) :: r => by
    have ih := length_putF f v r
    rw [show putF f v ((k, x) :: r) = (if k = f then (k, v) :: r else (k, x) :: putF f v r) from rfl]
    by_cases hk : k = f
    · rw [if_pos hk, List.length_cons, List.length_cons]; omega
    · rw [if_neg hk, List.length_cons, List.length_cons]; omega
theorem RelO.some_of {v : V} {o : Option Value} (r : RelO (some v) o) : ∃ u, o = some u ∧ RelV v u := by
  cases o with
  | none => exact (show False from r).elim
  | some u => exact ⟨u, rfl, r⟩
theorem RelO.none_of {o : Option Value} (r : RelO none o) : o = none := by
  cases o with
  | none => rfl
  | some u => exact (show False from r).elim
theorem handed_of {v : V} {u : Value} (r : RelV v u) : PySem.W.handedIn u = true := by
  cases v with
  | non => cases (show u = Value.none from r); rfl
  | bl b => cases (show u = Value.bool b from r); rfl
  | int i => obtain ⟨t, e⟩ := (show ∃ t, u = Value.int i t from r); cases e; rfl
  | str x => obtain ⟨t, e⟩ := (show ∃ t, u = Value.str x t from r); cases e; rfl
  | byt b => obtain ⟨t, e⟩ := (show ∃ t, u = Value.bytes b t from r); cases e; rfl
  | flt b => obtain ⟨t, e⟩ := (show ∃ t, u = Value.float b t from r); cases e; rfl
  | ref a => cases (show u = Value.ref a from r); rfl
  | ty n => cases (show u = Value.type n from r); rfl
section
variable {P : Program} {w : World} {H H' : Hp} {h h' : Heap} {a C dx : Addr} {fs fs' : List (Str × V)}
theorem ins_get (hok : HOk P w H h) (e : H a = some (.ins C dx fs)) : ∃ mA, ObjM h a dx C mA ∧ (∀ f, RelO (fs.lookup f) (mA f)) ∧ PySem.Within mA (fs.map (·.1)) ∧ fs.length ≤ 1000 ∧ H dx = some (.own a) := by
  obtain ⟨d, z, ne, ob, mA, n, r, q⟩ := (show ObjOk P w H h a (.ins C dx fs) from hok a _ e)
  exact ⟨mA, ⟨ob, n, ne⟩, r, q, z, d⟩
end
structure Cls (K : PySem.W.Frag) (C : Addr) : Prop where
  pg : PySem.W.plainGet K C Str.empty = true
  hd : PySem.W.hasDictIn K C = true
  po : PySem.W.plainOver K C = true
  sa : PySem.W.findIn K (.ref C) "__setattr__" = some (some (.builtin "object.__setattr__"))
theorem Cls.get {K : PySem.W.Frag} {C : Addr} (c : Cls K C) (f : Str) : PySem.W.plainGet K C f = true := c.pg
noncomputable def NoAttr (K : PySem.W.Frag) (C : Addr) (f : Str) : Prop := PySem.W.findIn K (.ref C) f = some none
theorem NoAttr.taker {K : PySem.W.Frag} {C : Addr} {f : Str} (n : NoAttr K C f) : PySem.W.takerIn K C f = some none := by
  unfold PySem.W.takerIn
  rw [show PySem.W.findIn K (.ref C) f = some none from n]
  rfl
structure Con (K : PySem.W.Frag) (C : Addr) (f : Str) (v : V) (u : Value) : Prop where
  at_ : PySem.W.findIn K (.ref C) f = some (some u)
  rel : RelV v u
  get : PySem.W.specialIn K u "__get__" = some none
  cp : PySem.W.copiedNames.contains f = false
structure Meth (K : PySem.W.Frag) (C : Addr) (m : Str) (f : Addr) : Prop where
  at_ : PySem.W.findIn K (.ref C) m = some (some (.ref f))
  fn : PySem.W.isFn K (.ref f) = true
  kp : PySem.W.keepIn K (.ref f) = true
section
variable {X : Cx} {pins : List (Addr × Obj)} {σ : St} {H : Hp} {s : Shared} {a C dx : Addr} {fs : List (Str × V)} {f : Str} {v : V} {A : Around} {E : Value → Shared → Prop}
theorem getattr_ok {b : Bool} {Q : Value → Shared → Prop} (I : Inv X pins σ H s) (e : H a = some (.ins C dx fs)) (c : Cls X.K C) (n : NoAttr X.K C f) (l : fs.lookup f = some v)
    (h : ∀ u s', Inv X pins σ H s' → RelV v u → Q u s') : wpAny (model X.prog X.w) A (getAttr (.ref a) f b) Q E s := by
  obtain ⟨mA, O, r, _, _, _⟩ := ins_get I.hok e
  obtain ⟨u, hu, ru⟩ := RelO.some_of (v := v) (o := mA f) (by rw [← l]; exact r f)
  exact get_map I.kIn O (c.get f) c.hd n hu (handed_of ru) (h u _ (I.tok _) ru)
theorem getmeth_ok {m : Str} {g : Addr} {pl : Sem Bool} {Q : Value × List Value → Shared → Prop} (I : Inv X pins σ H s) (e : H a = some (.ins C dx fs)) (c : Cls X.K C) (k : Meth X.K C m g) (l : fs.lookup m = none)
    (h : Q (.ref g, [.ref a]) s) : wpAny (model X.prog X.w) A (getMethod (.ref a) m pl) Q E s := by
  obtain ⟨mA, O, r, _, _, _⟩ := ins_get I.hok e
  have hn : mA m = none := RelO.none_of (by rw [← l]; exact r m)
  exact get_meth I.kIn O (c.get m) k.at_ k.fn hn h
theorem setattr_ok {y : V} {u : Value} {Q : Unit → Shared → Prop} (I : Inv X pins σ H s) (e : H a = some (.ins C dx fs)) (c : Cls X.K C) (n : NoAttr X.K C f) (hl : fs.length < 1000) (ry : RelV y u)
    (h : ∀ s', Inv X pins σ (upd H a (.ins C dx (putF f y fs))) s' → Q () s') : wpAny (model X.prog X.w) A (setAttr (.ref a) f u) Q E s := by
  obtain ⟨mA, O, r, wi, _, ho⟩ := ins_get I.hok e
  have hz : (fs.map (·.1)).length ≤ sizeLine := by rw [List.length_map, sizeLine_eq]; omega
  refine set_map I.kIn O c.sa c.po n.taker c.hd wi hz fun h' O' sb => h _ ?_
  have hd : ∃ o, h'.get? dx = some o := let ⟨o, _, _, e', _⟩ := O'.ns; ⟨o, e'⟩
  refine I.write (x := a) (e := dx) (by rw [e]; exact True.intro) (.inr ho) (fun b q hb z => (sb.2 b hb).trans z) hd ?_
  refine ⟨by rw [upd_ne O.ne]; exact ho, ?_, O.ne, O'.obj, _, O'.ns, fun g => ?_, fun g hg => ?_⟩
  · have := length_putF f y fs; omega
  · show RelO ((putF f y fs).lookup g) (if g = f then some u else mA g)
    rw [lookup_putF]
    by_cases q : g = f
    · rw [if_pos q, if_pos q]; exact ry
    · rw [if_neg q, if_neg q]; exact r g
  · by_cases q : g = f
    · rw [q]; exact (keys_putF f y fs).1
    · refine (keys_putF f y fs).2 g (wi g fun z => hg ?_)
      show (if g = f then some u else mA g) = none
      rw [if_neg q]; exact z
theorem Inv.made (I : Inv X pins σ H s) : Inv X pins σ (upd (upd H s.heap.objs.size (.own (s.heap.objs.size + 1))) (s.heap.objs.size + 1) (.ins C s.heap.objs.size []))
    { s with heap := (s.heap.push PySem.W.emptyDict).push (PySem.W.instObj C s.heap.objs.size) } := by
  have e1 : (s.heap.push PySem.W.emptyDict).get? s.heap.objs.size = some PySem.W.emptyDict := Heap.get?_push_size s.heap rfl
  have e2 : ((s.heap.push PySem.W.emptyDict).push (PySem.W.instObj C s.heap.objs.size)).get? (s.heap.objs.size + 1) = some (PySem.W.instObj C s.heap.objs.size) := by
    have := Heap.get?_push_size (s.heap.push PySem.W.emptyDict) (o := PySem.W.instObj C s.heap.objs.size) rfl
    rwa [Heap.size_push] at this
  have e3 : (s.heap.push PySem.W.emptyDict).Ns s.heap.objs.size (fun _ => none) := ⟨PySem.W.emptyDict, #[], _, e1, rfl, (fun e he => absurd he (by simp)), fun _ => rfl⟩
  have I1 := I.laid (a := s.heap.objs.size) (o := .own (s.heap.objs.size + 1)) (h' := s.heap.push PySem.W.emptyDict) (t' := s.toks) (fun b u q => Heap.get?_push_of_some _ q) (Nat.le_refl _) ⟨_, e1⟩
  refine I1.laid (a := s.heap.objs.size + 1) (o := .ins C s.heap.objs.size []) (t' := s.toks) (fun b u q => Heap.get?_push_of_some _ q) (Nat.le_of_eq (Heap.size_push _ _)) ?_
  have ne : s.heap.objs.size ≠ s.heap.objs.size + 1 := Nat.ne_of_lt (Nat.lt_succ_self _)
  refine ⟨by rw [upd_ne ne, upd_same], Nat.zero_le _, ne, e2, fun _ => none, (Heap.Ns1.of_empty e3).at fun o q => Heap.get?_push_of_some _ q, fun _ => True.intro, fun y hy => absurd rfl hy⟩
theorem attr_of {prog : Program} {w : World} {env : Env} {e : Expr} {f : Str} {pos : Pos} {s : Shared} {Q : Value → Shared → Prop} (hb : attributeBase e f env (eval e env) = eval e env)
    (h : wpAny (model prog w) A (eval e env) (fun o s₁ => wpAny (model prog w) A (getAttr o f true) Q E s₁) E s) : wpAny (model prog w) A (eval (.Attribute e f pos) env) Q E s :=
  Attribute_any_ h (by rw [arm_eval_Attribute, hb])
end
noncomputable def tFld (K : PySem.W.Frag) (ta : TE) (f : Str) : TE := fun σ H Q => ta σ H fun x H1 => ∃ a C dx fs v, x = .ref a ∧ H1 a = some (.ins C dx fs) ∧ Cls K C ∧ NoAttr K C f ∧ fs.lookup f = some v ∧ Q v H1
noncomputable def sFld (K : PySem.W.Frag) (ta tv : TE) (f : Str) : TS := fun D σ H => tv σ H fun y H1 => ta σ H1 fun x H2 => ∃ a C dx fs, x = .ref a ∧ H2 a = some (.ins C dx fs) ∧ Cls K C ∧ NoAttr K C f ∧ fs.length < 1000 ∧
  D.nx σ (upd H2 a (.ins C dx (putF f y fs)))
section
variable {X : Cx} {o e value : Expr} {f : Str} {pos pos' tpos : Pos} {ta tv : TE}
theorem pe_fld (he : PE X e ta) (hb : attributeBase e f X.env (eval e X.env) = eval e X.env) : PE X (.Attribute e f pos) (tFld X.K ta f) := by
  intro pins s σ H Q I h
  refine attr_of hb (thn (he pins s σ H _ I h) fun u s1 ⟨x, H1, I1, rx, a, C, dx, fs, v, ex, ea, c, n, l, q⟩ => ?_)
  subst ex
  obtain rfl : u = Value.ref a := rx
  exact getattr_ok I1 ea c n l fun u' s2 I2 ru => ⟨v, H1, I2, ru, q⟩
theorem ps_fld (ha : PE X o ta) (hv : PE X value tv) (hs : swapsWith value (some (.Attribute o f pos')) pos.line X.env = pure false) : PS X (.Assign [.Attribute o f pos'] value pos) (sFld X.K ta tv f) := by
  intro pins s σ H D I h
  refine plainObj_wpAny_Assign_Attribute (thn (hv pins s σ H _ I h) fun u s1 ⟨y, H1, I1, ry, q⟩ => thn (ha pins s1 σ H1 _ I1 q) fun ov s2 ⟨x, H2, I2, rx, a, C, dx, fs, ex, ea, c, n, l, q2⟩ => ?_) hs
  subst ex
  obtain rfl : ov = Value.ref a := rx
  exact setattr_ok I2 ea c n l ry fun s3 I3 => ⟨σ, _, I3, q2⟩
theorem methcall_of {pl : Sem Bool} {m : Str} {apos : Pos} {args : List Expr} {pins : List (Addr × Obj)} {s : Shared} {σ : St} {H : Hp} {Q : Value → Shared → Prop} {te : TE} (he : PE X e te) (I : Inv X pins σ H s)
    (h : te σ H fun x H1 => ∃ a C dx fs g, x = .ref a ∧ H1 a = some (.ins C dx fs) ∧ Cls X.K C ∧ Meth X.K C m g ∧ fs.lookup m = none ∧
      ∀ s1, Inv X pins σ H1 s1 → wpAny (model X.prog X.w) X.A (callWith pos (.ref g) [.ref a] (backTo pos (starEach args X.env)) (backToKw pos (keywordEach [] X.env))) Q X.xe s1)
    (ht : eval (.Call (.Attribute e m apos) args [] pos) X.env = (do
      let ov ← eval e X.env
      standAt apos.atName
      let (f, first) ← holding [ov] (getMethod ov m pl)
      callWith pos f first (backTo pos (starEach args X.env)) (backToKw pos (keywordEach [] X.env)))) :
    wpAny (model X.prog X.w) X.A (eval (.Call (.Attribute e m apos) args [] pos) X.env) Q X.xe s := by
  refine PySem.W.methodCall_KW (pl := pl) (thn (he pins s σ H _ I h) fun u s1 ⟨x, H1, I1, rx, a, C, dx, fs, g, ex, ea, c, k, l, q⟩ => ?_) ht
  subst ex
  obtain rfl : u = Value.ref a := rx
  exact getmeth_ok I1 ea c k l (q s1 I1)
end
section
variable {X : Cx} {pins : List (Addr × Obj)} {σ : St} {H : Hp} {s : Shared} {A : Around} {E : Value → Shared → Prop} {Q : Value → Shared → Prop} {c : Value} {b : Bool}
inductive TyOf (K : PySem.W.Frag) (H : Hp) : V → Value → Prop where
  | non : TyOf K H .non (.type "NoneType")
  | bl (x : Bool) : TyOf K H (.bl x) (.type "bool")
  | int (i : Int) : TyOf K H (.int i) (.type "int")
  | str (x : Str) : TyOf K H (.str x) (.type "str")
  | flt (x : UInt64) : TyOf K H (.flt x) (.type "float")
  | lst {a : Addr} {xs : List V} (e : H a = some (.lst xs)) : TyOf K H (.ref a) (.type "list")
  | frz {a : Addr} {o : Obj} {xs : List V} (e : H a = some (.frz o (.lst xs))) : TyOf K H (.ref a) (.type "list")
  | tup {a : Addr} {xs : List V} (e : H a = some (.tup xs)) : TyOf K H (.ref a) (.type "tuple")
  | dK {a : Addr} {kvs : List (Key × V)} (e : H a = some (.dK kvs)) : TyOf K H (.ref a) (.type "dict")
  | dT {a : Addr} {kvs : List (List Key × V)} (e : H a = some (.dT kvs)) : TyOf K H (.ref a) (.type "dict")
  | ins {a C dx : Addr} {fs : List (Str × V)} (e : H a = some (.ins C dx fs)) (cl : Cls K C) (ha : PySem.W.findIn K (.ref C) "__class__" = some (some (.builtin "object.__class__")))
      (hn : PySem.W.specialIn K (.builtin "object.__class__") "__get__" = some (some (.builtin "getset_descriptor.__get__"))) (htk : PySem.W.takesIn K (.builtin "object.__class__") = some true)
      (hm : PySem.W.mroIn K C (.type "object") = some true) : TyOf K H (.ref a) (.ref C)
end
end L2
namespace L2
open PySem PySem.Spec PyProof.Rows
structure Room (k : Nat) (A : Around) : Prop where
  hd : A.handled = none
  dp : A.depth + 3 * k + 5 < recursionLimit
  un : A.units + 16 * k + 200 < cLine
theorem Room.mono {j k : Nat} {A : Around} (r : Room k A) (h : j ≤ k) : Room j A := ⟨r.hd, by have := r.dp; omega, by have := r.un; omega⟩
theorem Room.deeper {k : Nat} {A : Around} (r : Room (k + 1) A) (env : Env) : Room k (A.deeper env) :=
  ⟨r.hd, by have := r.dp; show A.depth + 1 + 3 * k + 5 < _; omega, by have := r.un; show A.units + 3 + 16 * k + 200 < _; omega⟩
theorem Room.in1 {k : Nat} {A : Around} (r : Room (k + 1) A) : Room k A.in1 :=
  ⟨r.hd, by have := r.dp; show A.depth + 3 * k + 5 < _; omega, by have := r.un; show A.units + 1 + 16 * k + 200 < _; omega⟩
theorem make_depth {A : Around} {C : Addr} {us : List Value} {kw : List (Str × Value)} : (A.under (.builtin "type.__call__" ⟨.ref C :: us, kw⟩)).depth = A.depth + 1 := by
  first | rfl | simp [Around.under, Code.weight, Code.isCreation, Code.isGuard, Code.isCaller, Code.frames, Code.isFrame, guardIds]
theorem make_units {A : Around} {C : Addr} {us : List Value} {kw : List (Str × Value)} : (A.under (.builtin "type.__call__" ⟨.ref C :: us, kw⟩)).units = A.units + 1 := by
  first | rfl | simp [Around.under, Code.cUnits, Code.frames, Code.isFrame]
theorem Room.make {k : Nat} {A : Around} (r : Room (k + 1) A) (C : Addr) (us : List Value) (kw : List (Str × Value)) : Room k (A.under (.builtin "type.__call__" ⟨.ref C :: us, kw⟩)) :=
  ⟨r.hd, by have := r.dp; rw [make_depth]; omega, by have := r.un; rw [make_units]; omega⟩
theorem Room.depth {k : Nat} {A : Around} (r : Room k A) : A.depth < recursionLimit := by have := r.dp; omega
theorem Room.units {k : Nat} {A : Around} (r : Room k A) : A.units + 64 < cLine := by have := r.un; omega
noncomputable def tNil : TA := fun _ H Q => Q [] H
noncomputable def tCons (ta : TE) (tr : TA) : TA := fun σ H Q => ta σ H fun x H1 => tr σ H1 fun xs H2 => Q (x :: xs) H2
section
variable {X : Cx} {e : Expr} {es : List Expr} {te : TE} {t : TA} {pos : Pos}
theorem pa_nil : PA X [] tNil := fun _ _ _ _ H Q I h => Calls.spliced_nil ⟨[], H, I, .nil, h⟩
theorem pa_cons (ha : PE X e te) (hr : PA X es t) (hs : starEach (e :: es) X.env = (false, eval e X.env) :: starEach es X.env := by rfl) : PA X (e :: es) (tCons te t) := by
  intro pos pins s σ H Q I h
  rw [hs]
  show wpAny _ _ (spliced ((false, eval e X.env) :: backTo pos (starEach es X.env))) _ _ s
  refine Calls.spliced_cons (thn (ha pins s σ H _ I h) fun u s1 ⟨x, H1, I1, r1, q1⟩ => ?_)
  exact thn (hr pos pins s1 σ H1 _ I1 q1) fun us s2 ⟨xs, H2, I2, r2, q2⟩ => ⟨x :: xs, H2, I2, .cons r1 r2, q2⟩
noncomputable def tTup (t : TA) : TE := fun σ H Q => t σ H fun xs H1 => xs.length ≤ sizeLine ∧ ∀ p, H1 p = none → Q (.ref p) (upd H1 p (.tup xs))
noncomputable def tLst (t : TA) : TE := fun σ H Q => t σ H fun xs H1 => xs.length ≤ sizeLine ∧ ∀ p, H1 p = none → Q (.ref p) (upd H1 p (.lst xs))
theorem pe_tup {x1} (h : PA X es t) : PE X (.Tuple es x1 pos) (tTup t) := by
  intro pins s σ H Q I hq
  refine wpAny_Tuple_spliced (thn (h pos pins s σ H _ I hq) fun us s1 ⟨xs, H1, I1, r, z, q⟩ => ⟨by rw [← r.length]; exact z, ?_⟩)
  have hf : H1 s1.heap.objs.size = none := I1.hok.fresh (Nat.le_refl _)
  refine ⟨.ref s1.heap.objs.size, upd H1 s1.heap.objs.size (.tup xs), I1.laid (t' := s1.toks) (fun b u e => Heap.get?_push_of_some _ e) (Nat.le_refl _) ?_, rfl, q _ hf⟩
  exact ⟨z, us, r, ⟨_, Heap.get?_push_size _ rfl, rfl, _, rfl⟩⟩
theorem pe_lst (h : PA X es t) : PE X (.List es pos) (tLst t) := by
  intro pins s σ H Q I hq
  refine wpAny_List_spliced (thn (h pos pins s σ H _ I hq) fun us s1 ⟨xs, H1, I1, r, z, q⟩ => ⟨by rw [← r.length]; exact z, ?_⟩)
  have hf : H1 s1.heap.objs.size = none := I1.hok.fresh (Nat.le_refl _)
  refine ⟨.ref s1.heap.objs.size, upd H1 s1.heap.objs.size (.lst xs), I1.laid (t' := s1.toks) (fun b u e => Heap.get?_push_of_some _ e) (Nat.le_refl _) ?_, rfl, q _ hf⟩
  exact ⟨z, us, 0, r, Heap.get?_push_size _ rfl⟩
end
noncomputable abbrev Sp := List V → Hp → VK → XK → Prop
noncomputable abbrev CXT := List Env → Hp → Shared → XK → Value → Shared → Prop
structure Env0 (P : Program) (w : World) (K : PySem.W.Frag) (mg : Str → Option Value) (base : Heap) (A : Around) (outer : List Env) (s : Shared) (H : Hp) : Prop where
  frames : A.frames = some outer
  mod : Mod K mg base
  bs : ∀ b o, base.get? b = some o → s.heap.get? b = some o ∧ H b = none
  bsz : base.objs.size ≤ s.heap.objs.size
  funs : s.heap.FunFrames base outer
  frf : ∀ b ∈ frs outer, H b = none
  hok : HOk P w H s.heap
  bare : AllBare s.gens
inductive CE (outer : List Env) (P : Program) (w : World) (H : Hp) (s : Shared) (Q : VK) (u : Value) (s' : Shared) : Prop
  | mk (v : V) (H' : Hp) (os : s'.os = s.os) (bare : AllBare s'.gens) (un : Un (frs outer) [] H H' s.heap s'.heap) (hok : HOk P w H' s'.heap) (rel : RelV v u) (q : Q v H') : CE outer P w H s Q u s'
noncomputable def CR (CX : CXT) (outer : List Env) (P : Program) (w : World) (H : Hp) (s : Shared) (Q : VK) (E : XK) (r : Result) (s' : Shared) : Prop :=
  match r with
  | .ok (.ret u) => CE outer P w H s Q u s'
  | .ok _ => False
  | .error e => CX outer H s E e s'
structure FnOk (P : Program) (w : World) (K : PySem.W.Frag) (mg : Str → Option Value) (base : Heap) (CX : CXT) (k : Nat) (f : Addr) (fd : FuncData) (ps : List Str) (sp : Sp) : Prop where
  len : ∀ vs H Q E, sp vs H Q E → vs.length = ps.length
  run : ∀ (A : Around) (outer : List Env) (s : Shared) (H : Hp) (args : Args) (us : List Value) (vs : List V) (Q : VK) (E : XK), Room k A → Env0 P w K mg base A outer s H → BindsTo s fd args (ps.zip us) → Vals vs us → sp vs H Q E →
    codeAny (model P w) A (.call (.ref f) args) (CR CX outer P w H s Q E) s
theorem FnOk.imp {P : Program} {w : World} {K : PySem.W.Frag} {mg : Str → Option Value} {base : Heap} {CX : CXT} {k : Nat} {f : Addr} {fd : FuncData} {ps : List Str} {sp sp' : Sp} (F : FnOk P w K mg base CX k f fd ps sp)
    (h : ∀ vs H Q E, sp' vs H Q E → sp vs H Q E) : FnOk P w K mg base CX k f fd ps sp' :=
  ⟨fun vs H Q E q => F.len vs H Q E (h _ _ _ _ q), fun A outer s H args us vs Q E hr he hb hv hs => F.run A outer s H args us vs Q E hr he hb hv (h _ _ _ _ hs)⟩
theorem Env0.make {P : Program} {w : World} {K : PySem.W.Frag} {mg : Str → Option Value} {base : Heap} {A : Around} {outer : List Env} {s : Shared} {H : Hp} (e : Env0 P w K mg base A outer s H) (C : Addr) (us : List Value) (kw : List (Str × Value)) :
    Env0 P w K mg base (A.under (.builtin "type.__call__" ⟨.ref C :: us, kw⟩)) outer s H := ⟨by first | exact e.frames | (simpa [Around.under, Code.envs, Code.isFrame, pushEnvs] using e.frames), e.mod, e.bs, e.bsz, e.funs, e.frf, e.hok, e.bare⟩
theorem Env0.in1 {P : Program} {w : World} {K : PySem.W.Frag} {mg : Str → Option Value} {base : Heap} {A : Around} {outer : List Env} {s : Shared} {H : Hp} (e : Env0 P w K mg base A outer s H) :
    Env0 P w K mg base A.in1 outer s H := ⟨e.frames, e.mod, e.bs, e.bsz, e.funs, e.frf, e.hok, e.bare⟩
section
variable {X : Cx} {pins : List (Addr × Obj)} {σ : St} {H : Hp} {s s' : Shared}
theorem Inv.env0 (I : Inv X pins σ H s) : Env0 X.prog X.w X.K X.mg X.base X.A X.stack s H :=
  ⟨I.ok.frames, I.ok.mod, I.bs, Nat.le_trans I.ok.bsz I.sz, I.stack, I.stkFree, I.hok, I.bare⟩
theorem Inv.after {Q : VK} {u : Value} (I : Inv X pins σ H s) (h : CE X.stack X.prog X.w H s Q u s') : EP X pins σ Q u s' := by
  obtain ⟨v, H', os, bare, un, hok, r, q⟩ := h
  obtain ⟨hh, g, d, t, os'⟩ := s'
  obtain rfl : os' = s.os := os
  exact ⟨v, H', I.call (h' := hh) (g' := g) (d' := d) (t' := t) (ch := []) un hok bare (fun b z => absurd z (by simp)), r, q⟩
end
noncomputable def tCall (sp : Sp) (dvs : List V) (E : XK) (t : TA) : TE := fun σ H Q => t σ H fun vs H1 => sp (vs ++ dvs) H1 Q E
noncomputable def tMeth (C : Addr) (m : Str) (sp : Sp) (dvs : List V) (E : XK) (ta : TE) (t : TA) : TE := fun σ H Q => ta σ H fun x H1 => ∃ a dx fs, x = .ref a ∧ H1 a = some (.ins C dx fs) ∧ fs.lookup m = none ∧
  t σ H1 fun vs H2 => sp (x :: (vs ++ dvs)) H2 Q E
noncomputable def tMake (C : Addr) (sp : Sp) (dvs : List V) (E : XK) (t : TA) : TE := fun σ H Q => t σ H fun vs H1 => ∀ x dx, H1 x = none → H1 dx = none → dx ≠ x →
  sp (.ref x :: (vs ++ dvs)) (upd (upd H1 dx (.own x)) x (.ins C dx [])) (fun v H2 => v = .non ∧ Q (.ref x) H2) E
noncomputable def Binds (K : PySem.W.Frag) (fd : FuncData) (ps : List Str) (ds : List Value) : Prop :=
  ∀ (s : Shared) (us : List Value), K.In s.heap → (us ++ ds).length = ps.length → BindsTo s fd ⟨us, []⟩ (ps.zip (us ++ ds))
theorem Binds.all {K : PySem.W.Frag} {fd : FuncData} {ps : List Str} (h : ∀ us : List Value, us.length = ps.length → bindArgs fd ⟨us, []⟩ = pure (ps.zip us)) : Binds K fd ps [] := fun s us _ hl => by
  rw [List.append_nil] at hl ⊢
  exact .of_eq (h us hl)
noncomputable def Passes (CX : CXT) (X : Cx) (E : XK) : Prop := ∀ (pins : List (Addr × Obj)) (σ : St) (H : Hp) (s : Shared) (e : Value) (s' : Shared), Inv X pins σ H s → CX X.stack H s E e s' → X.xe e s'
section
variable {X : Cx} {CX : CXT} {k : Nat} {f C : Addr} {fd : FuncData} {ps : List Str} {sp : Sp} {dvs : List V} {ds : List Value} {E : XK} {x m : Str} {p pos apos : Pos} {e o : Expr} {es : List Expr} {ta : TE} {t : TA}
theorem run_fn {pins : List (Addr × Obj)} {σ : St} {H : Hp} {s : Shared} {Q : VK} {us : List Value} {vs : List V} (F : FnOk X.prog X.w X.K X.mg X.base CX k f fd ps sp) (hr : Room k X.A) (hb : Binds X.K fd ps ds) (hd : Vals dvs ds) (hx : Passes CX X E)
    (I : Inv X pins σ H s) (r : Vals vs us) (h : sp (vs ++ dvs) H Q E) : wpAny (model X.prog X.w) X.A (call (.ref f) us) (EP X pins σ Q) X.xe s := by
  have r2 : Vals (vs ++ dvs) (us ++ ds) := r.append hd
  have hl : (us ++ ds).length = ps.length := by rw [← r2.length]; exact F.len _ _ _ _ h
  refine wpAny_call (codeAny_mono (F.run X.A X.stack s H ⟨us, []⟩ (us ++ ds) (vs ++ dvs) Q E hr I.env0 (hb s us I.kIn hl) r2 h) fun r s' hq => ?_)
  cases r with
  | error e => exact hx pins σ H s e s' I hq
  | ok fl =>
    cases fl with
    | ret u => exact I.after hq
    | next => exact False.elim hq
    | brk => exact False.elim hq
    | cont => exact False.elim hq
theorem pe_call (F : FnOk X.prog X.w X.K X.mg X.base CX k f fd ps sp) (hr : Room k X.A) (hg : Gl X x) (hm : X.mg x = some (.ref f)) (hk : PySem.W.keepIn X.K (.ref f) = true) (hb : Binds X.K fd ps ds) (hd : Vals dvs ds) (hx : Passes CX X E)
    (ha : PA X (e :: es) t) (hdb : (x == ("__debug__" : Str)) = false := by decide) (he : starEach (e :: es) X.env = (false, eval e X.env) :: starEach es X.env := by rfl) (hpl : (backTo pos (starEach es X.env)).any (·.1) = false := by rfl) :
    PE X (.Call (.Name x p) (e :: es) [] pos) (tCall sp dvs E t) := by
  intro pins s σ H Q I h
  refine wpAny_Call_Name_kw (ld_glob I hg hm ?_ hdb)
  refine PySem.W.callWith_K (h₀ := X.base) I.ok.mod.kin hk (thn (ha pos pins s σ H _ I h) fun us s1 ⟨vs, H1, I1, r, q⟩ => ⟨I1.kIn, ?_⟩) he hpl
  exact run_fn F hr hb hd hx I1 r q
theorem pe_call0 (F : FnOk X.prog X.w X.K X.mg X.base CX k f fd ps sp) (hr : Room k X.A) (hg : Gl X x) (hm : X.mg x = some (.ref f)) (hk : PySem.W.keepIn X.K (.ref f) = true) (hb : Binds X.K fd ps ds) (hd : Vals dvs ds) (hx : Passes CX X E)
    (hdb : (x == ("__debug__" : Str)) = false := by decide) : PE X (.Call (.Name x p) [] [] pos) (tCall sp dvs E tNil) := by
  intro pins s σ H Q I h
  refine wpAny_Call_Name_kw (ld_glob I hg hm ?_ hdb)
  exact PySem.W.callWith_K0 I.kIn hk (run_fn (us := []) F hr hb hd hx I .nil h)
theorem pe_meth {pl : Sem Bool} (he : PE X o ta) (c : Cls X.K C) (hm : Meth X.K C m f) (F : FnOk X.prog X.w X.K X.mg X.base CX k f fd ps sp) (hr : Room k X.A) (hb : Binds X.K fd ps ds) (hd : Vals dvs ds) (hx : Passes CX X E) (ha : PA X (e :: es) t)
    (hst : starEach (e :: es) X.env = (false, eval e X.env) :: starEach es X.env := by rfl) (hpl : (backTo pos (starEach es X.env)).any (·.1) = false := by rfl)
    (ht : eval (.Call (.Attribute o m apos) (e :: es) [] pos) X.env = (do
      let ov ← eval o X.env
      standAt apos.atName
      let (f, first) ← holding [ov] (getMethod ov m pl)
      callWith pos f first (backTo pos (starEach (e :: es) X.env)) (backToKw pos (keywordEach [] X.env))) := by rfl) :
    PE X (.Call (.Attribute o m apos) (e :: es) [] pos) (tMeth C m sp dvs E ta t) := by
  intro pins s σ H Q I h
  refine PySem.W.methodCall_KW (pl := pl) (thn (he pins s σ H _ I h) fun u s1 ⟨x, H1, I1, rx, a, dx, fs, ex, ea, l, q⟩ => ?_) ht
  subst ex
  obtain rfl : u = Value.ref a := rx
  refine getmeth_ok I1 ea c hm l ?_
  refine PySem.W.callWith_K (first := [.ref a]) (h₀ := X.base) I.ok.mod.kin hm.kp (thn (ha pos pins s1 σ H1 _ I1 q) fun us s2 ⟨vs, H2, I2, r, q2⟩ => ⟨I2.kIn, ?_⟩) hst hpl
  exact run_fn (us := .ref a :: us) (vs := .ref a :: vs) F hr hb hd hx I2 (.cons rfl r) q2
structure Mk (K : PySem.W.Frag) (C f : Addr) : Prop where
  makes : PySem.W.makesIn K C = true
  init : PySem.W.findIn K (.ref C) "__init__" = some (some (.ref f))
  fn : PySem.W.isFn K (.ref f) = true
  kp : PySem.W.keepIn K (.ref C) = true
theorem run_make {pins : List (Addr × Obj)} {σ : St} {H : Hp} {s : Shared} {Q : VK} {us : List Value} {vs : List V} (M : Mk X.K C f) (F : FnOk X.prog X.w X.K X.mg X.base CX k f fd ps sp) (hr : Room (k + 1) X.A) (hb : Binds X.K fd ps ds) (hd : Vals dvs ds)
    (hx : Passes CX X E) (I : Inv X pins σ H s) (r : Vals vs us)
    (h : ∀ x dx, H x = none → H dx = none → dx ≠ x → sp (.ref x :: (vs ++ dvs)) (upd (upd H dx (.own x)) x (.ins C dx [])) (fun v H2 => v = .non ∧ Q (.ref x) H2) E) :
    wpAny (model X.prog X.w) X.A (call (.ref C) us) (EP X pins σ Q) X.xe s := by
  have hq := h (s.heap.objs.size + 1) s.heap.objs.size (I.hok.fresh (Nat.le_succ _)) (I.hok.fresh (Nat.le_refl _)) (Nat.ne_of_lt (Nat.lt_succ_self _))
  have I2 := Inv.made (C := C) I
  have r2 : Vals (V.ref (s.heap.objs.size + 1) :: (vs ++ dvs)) (Value.ref (s.heap.objs.size + 1) :: (us ++ ds)) := .cons rfl (r.append hd)
  have hl : (Value.ref (s.heap.objs.size + 1) :: us ++ ds).length = ps.length := by
    have e := r2.length
    rw [F.len _ _ _ _ hq] at e
    exact e.symm
  refine wpAny_call (make_map (f := f) I.kIn M.makes M.init (beq_iff_eq.mp M.fn) (codeAny_mono (F.run _ X.stack _ _ ⟨Value.ref (s.heap.objs.size + 1) :: us, []⟩ (Value.ref (s.heap.objs.size + 1) :: (us ++ ds)) _ _ E (hr.make C us [])
    (I2.env0.make C us []) (hb _ (Value.ref (s.heap.objs.size + 1) :: us) I2.kIn hl) r2 hq) fun r s' hq' => ?_))
  cases r with
  | error e => exact hx pins σ _ _ e s' I2 hq'
  | ok fl =>
    cases fl with
    | ret u =>
      obtain ⟨v, H', I3, rv, ev, q3⟩ := I2.after hq'
      subst ev
      exact ⟨rv, ⟨V.ref (s.heap.objs.size + 1), H', I3, rfl, q3⟩⟩
    | next => exact False.elim hq'
    | brk => exact False.elim hq'
    | cont => exact False.elim hq'
theorem pe_make (M : Mk X.K C f) (F : FnOk X.prog X.w X.K X.mg X.base CX k f fd ps sp) (hr : Room (k + 1) X.A) (hg : Gl X x) (hm : X.mg x = some (.ref C)) (hb : Binds X.K fd ps ds) (hd : Vals dvs ds) (hx : Passes CX X E)
    (ha : PA X (e :: es) t) (hdb : (x == ("__debug__" : Str)) = false := by decide) (he : starEach (e :: es) X.env = (false, eval e X.env) :: starEach es X.env := by rfl) (hpl : (backTo pos (starEach es X.env)).any (·.1) = false := by rfl) :
    PE X (.Call (.Name x p) (e :: es) [] pos) (tMake C sp dvs E t) := by
  intro pins s σ H Q I h
  refine wpAny_Call_Name_kw (ld_glob I hg hm ?_ hdb)
  refine PySem.W.callWith_K (h₀ := X.base) I.ok.mod.kin M.kp (thn (ha pos pins s σ H _ I h) fun us s1 ⟨vs, H1, I1, r, q⟩ => ⟨I1.kIn, ?_⟩) he hpl
  exact run_make M F hr hb hd hx I1 r q
end
noncomputable def PK (X : Cx) (kws : List Keyword) (t : TA) : Prop :=
  ∀ (pos : Pos) (pins : List (Addr × Obj)) (s : Shared) (σ : St) (H : Hp) (Q : List V → Hp → Prop), Inv X pins σ H s → t σ H Q → wpAny (model X.prog X.w) X.A (evalAll ((backToKw pos (keywordEach kws X.env)).map (·.2))) (AP X pins σ Q) X.xe s
section
variable {X : Cx} {CX : CXT} {k : Nat} {f C : Addr} {fd : FuncData} {ps ks : List Str} {sp : Sp} {E : XK} {x m : Str} {p pos apos kpos : Pos} {e o : Expr} {es : List Expr} {kws : List Keyword} {te ta : TE} {t tk : TA} {nm : Option Str}
theorem pk_nil : PK X [] tNil := fun _ _ _ _ H Q I h => wpAny_evalAll_nil ⟨[], H, I, .nil, h⟩
theorem pk_cons (ha : PE X e te) (hr : PK X kws t) : PK X (⟨nm, e, kpos⟩ :: kws) (tCons te t) := by
  intro pos pins s σ H Q I h
  show wpAny _ _ (evalAll ((do let v ← eval e X.env; standAt pos; pure v) :: (backToKw pos (keywordEach kws X.env)).map (·.2))) _ _ s
  refine wpAny_evalAll_cons (wpAny_bind (thn (ha pins s σ H _ I h) fun u s1 ⟨x, H1, I1, r1, q1⟩ => wpAny_bind (wpAny_standAt (wpAny_pure ?_))))
  exact thn (hr pos pins s1 σ H1 _ I1 q1) fun us s2 ⟨xs, H2, I2, r2, q2⟩ => ⟨x :: xs, H2, I2, .cons r1 r2, q2⟩
structure KBinds (K : PySem.W.Frag) (fd : FuncData) (ps ks : List Str) (g : List Value → List Value → List Value) (gV : List V → List V → List V) : Prop where
  to : ∀ (s : Shared) (us ws : List Value), K.In s.heap → (g us ws).length = ps.length → BindsTo s fd ⟨us, ks.zip ws⟩ (ps.zip (g us ws))
  rel : ∀ {vs : List V} {us : List Value} {zs : List V} {ws : List Value}, Vals vs us → Vals zs ws → Vals (gV vs zs) (g us ws)
variable {g : List Value → List Value → List Value} {gV : List V → List V → List V}
end
structure FnScope (N P : List Str) (sc : Scope) : Prop where
  kind : sc.kind = .function
  co : sc.isCoroutine = false
  gen : sc.isGenerator = false
  nd : N.Nodup
  pre : N.take P.length = P
  par : ∀ x ∈ P, sc.names.lookup x = some .local ∨ sc.names.lookup x = some .cell
  nofree : ∀ y ∈ sc.names, y.2 ≠ .free
theorem bindL_out {kindOf : Str → Option NameKind} {x : Str} : ∀ {binds : List (Str × Value)} {m : Str → Option Value}, (∀ v, (x, v) ∉ binds) → bindL kindOf binds m x = m x
  | [], _, _ => rfl
  | (n, v) :: r, m, h => by
    unfold bindL
    rw [bindL_out fun w hw => h w (List.mem_cons_of_mem _ hw)]
    split
    · have : x ≠ n := by rintro rfl; exact h v List.mem_cons_self
      simp [this]
    · rfl
theorem bindC_out {kindOf : Str → Option NameKind} {x : Str} : ∀ {binds : List (Str × Value)} {m : Str → Option Value}, (∀ v, (x, v) ∉ binds) → bindC kindOf binds m x = m x
  | [], _, _ => rfl
  | (n, v) :: r, m, h => by
    unfold bindC
    rw [bindC_out fun w hw => h w (List.mem_cons_of_mem _ hw)]
    split
    · rfl
    · have : x ≠ n := by rintro rfl; exact h v List.mem_cons_self
      simp [this]
theorem bindL_get {kindOf : Str → Option NameKind} {x : Str} {v : Value} : ∀ {P : List Str} {vs : List Value} {i : Nat} {m : Str → Option Value}, P.Nodup → P[i]? = some x → vs[i]? = some v → kindOf x = some .local →
    bindL kindOf (P.zip vs) m x = some v
  | [], _, _, _, _, h, _, _ => by simp at h
  | _ :: _, [], _, _, _, _, h, _ => by simp at h
  | p :: P, w :: vs, 0, m, nd, h1, h2, hk => by
    simp at h1 h2; subst h1; subst h2
    show bindL kindOf ((p, w) :: P.zip vs) m p = _
    unfold bindL
    rw [bindL_out fun v hv => (List.nodup_cons.mp nd).1 (List.of_mem_zip hv).1, if_pos hk]
    simp
  | p :: P, w :: vs, i + 1, m, nd, h1, h2, hk => by
    show bindL kindOf ((p, w) :: P.zip vs) m x = _
    unfold bindL
    exact bindL_get (i := i) (List.nodup_cons.mp nd).2 (by simpa using h1) (by simpa using h2) hk
theorem bindC_get {kindOf : Str → Option NameKind} {x : Str} {v : Value} : ∀ {P : List Str} {vs : List Value} {i : Nat} {m : Str → Option Value}, P.Nodup → P[i]? = some x → vs[i]? = some v → kindOf x ≠ some .local →
    bindC kindOf (P.zip vs) m x = some v
  | [], _, _, _, _, h, _, _ => by simp at h
  | _ :: _, [], _, _, _, _, h, _ => by simp at h
  | p :: P, w :: vs, 0, m, nd, h1, h2, hk => by
    simp at h1 h2; subst h1; subst h2
    show bindC kindOf ((p, w) :: P.zip vs) m p = _
    unfold bindC
    rw [bindC_out fun v hv => (List.nodup_cons.mp nd).1 (List.of_mem_zip hv).1, if_neg hk]
    simp
  | p :: P, w :: vs, i + 1, m, nd, h1, h2, hk => by
    show bindC kindOf ((p, w) :: P.zip vs) m x = _
    unfold bindC
    exact bindC_get (i := i) (List.nodup_cons.mp nd).2 (by simpa using h1) (by simpa using h2) hk
noncomputable def start (N : List Str) (vs : List V) : St := vs.map some ++ List.replicate (N.length - vs.length) none
noncomputable def cxOf (CX : CXT) (P : Program) (w : World) (K : PySem.W.Frag) (mg : Str → Option Value) (base : Heap) (N : List Str) (qual : Str) (scope : Scope) (f : Addr) (cd : Value) (A : Around) (outer : List Env) (s : Shared) (H : Hp) (E : XK) : Cx where
  prog := P
  w := w
  K := K
  mg := mg
  base := base
  A := A.deeper (envOfC qual scope s.heap.objs.size f cd)
  N := N
  s₀ := s
  H₀ := H
  env := envOfC qual scope s.heap.objs.size f cd
  outer := outer
  stack := envOfC qual scope s.heap.objs.size f cd :: outer
  ex := []
  calm := true
  fn := fun _ => true
  pn := []
  xe := fun e s' => wpAny (model P w) (A.deeper (envOfC qual scope s.heap.objs.size f cd)) (leaving (envOfC qual scope s.heap.objs.size f cd) e) (fun _ s'' => CX outer H s E e s'') (fun e' s'' => CX outer H s E e' s'') s'
theorem cell_has {sc : Scope} {n : Nat} {x : Str} (h : sc.names.lookup x = some .cell) : ∃ c, (cellsFrom n sc.names []).lookup x = some c := by
  have q := PySem.W.cellsFrom_some sc.names n [] (.inl h)
  exact Option.isSome_iff_exists.mp q
theorem inv_start {CX : CXT} {P : Program} {w : World} {K : PySem.W.Frag} {mg : Str → Option Value} {base : Heap} {N ps : List Str} {qual : Str} {scope : Scope} {f : Addr} {cd : Value} {A : Around} {outer : List Env} {s s1 : Shared} {H : Hp} {E : XK} {us : List Value} {vs : List V}
    (S : FnScope N ps scope) (hd : A.handled = none) (e0 : Env0 P w K mg base A outer s H) (hl : vs.length = ps.length) (r : Vals vs us)
    (x : InCallC s s.heap.objs.size (bindL (envOfC qual scope s.heap.objs.size f cd).kindOf (ps.zip us) fun _ => none) (cellsFrom (s.heap.objs.size + 1) scope.names []) (bindC (envOfC qual scope s.heap.objs.size f cd).kindOf (ps.zip us) fun _ => none) s1) :
    Inv (cxOf CX P w K mg base N qual scope f cd A outer s H E) [] (start N vs) H s1 := by
  have hpl : ps.length ≤ N.length := by have := congrArg List.length S.pre; rw [List.length_take] at this; omega
  obtain ⟨h1, tk, rfl, hk⟩ := x.done
  have noA : ∀ b : Addr, b ∉ (cxOf CX P w K mg base N qual scope f cd A outer s H E).ex := fun b z => absurd (show b ∈ ([] : List Addr) from z) (by simp)
  refine ⟨⟨e0.mod, S.kind, rfl, rfl, Nat.le_refl _, fun y z c h1 h2 => ?_, fun y hy => ?_, fun y c _ h => ?_, fun _ => hd, Around.frames_deeper e0.frames, .inr ⟨rfl, rfl⟩, fun b z => absurd z (noA b), e0.bs, e0.bsz, fun b _ _ => noA b, fun b z => absurd z (noA b), e0.funs, e0.frf⟩,
    rfl, e0.bare, Un.kept hk, ⟨_, x.toInCall.ns, fun i y v h1 h2 h3 => ?_⟩, fun y c h => ⟨_, x.cell y c h⟩, e0.hok.fresh (Nat.le_refl _), fun y c h => ?_, fun p hp => absurd (show p ∈ ([] : List (Addr × Obj)) from hp) (by simp), e0.hok.kept hk, ?_⟩
  · exact name_of_addr x.apart (PySem.mem_of_lookup h1) (PySem.mem_of_lookup h2)
  · have hy : scope.names.lookup y = some .cell ∨ scope.names.lookup y = some .free := hy
    rcases hy with hy | hy
    · exact cell_has hy
    · exact absurd rfl (S.nofree _ (PySem.mem_of_lookup hy))
  · exact Nat.le_of_lt (x.above y c (PySem.mem_of_lookup h))
  · have hi : i < vs.length := by
      unfold start at h2
      by_cases hi : i < vs.length
      · exact hi
      · rw [List.getElem?_append_right (by simpa using hi)] at h2
        rw [List.getElem?_replicate] at h2
        split at h2 <;> cases h2
    have ha : vs[i]? = some v := by
      unfold start at h2
      rw [List.getElem?_append_left (by simpa using hi), List.getElem?_map] at h2
      cases e : vs[i]? with
      | none => rw [e] at h2; cases h2
      | some a => rw [e] at h2; cases h2; rfl
    obtain ⟨u, hu, rv⟩ := r.get ha
    have hp : ps[i]? = some y := by
      rw [← S.pre, List.getElem?_take_of_lt (by omega)]; exact h1
    have ndP : ps.Nodup := by rw [← S.pre]; exact S.nd.sublist (List.take_sublist _ _)
    refine ⟨u, rv, ?_⟩
    rcases S.par y (List.mem_of_getElem? hp) with k | k
    · exact .inl ⟨k, bindL_get ndP hp hu k⟩
    · obtain ⟨c, e⟩ := cell_has (n := s.heap.objs.size + 1) k
      refine .inr ⟨.inl k, c, e, ?_⟩
      have q := x.cell y c e
      rw [bindC_get ndP hp hu (by show scope.names.lookup y ≠ _; rw [k]; decide)] at q
      exact q
  · exact e0.hok.fresh (Nat.le_of_lt (x.above y c (PySem.mem_of_lookup h)))
  · unfold start
    show _ = N.length
    rw [List.length_append, List.length_map, List.length_replicate]
    omega
theorem fn_of {CX : CXT} {P : Program} {w : World} {K : PySem.W.Frag} {mg : Str → Option Value} {base : Heap} {k : Nat} {f : Addr} {name qual : Str} {params : Arguments} {body : List Stmt} {scope : Scope} {dV kV doc pm cdv ct oc : Value} {an od : Option Addr}
    {osl : Array (Option Value)} {N ps : List Str} {sp : Sp} (lk : K.lookup f = some ⟨oc, od, .func (PySem.W.fnOf name qual params body scope dV kV doc pm an cdv ct), osl⟩) (hcd : PySem.W.codeIn K cdv qual = true) (S : FnScope N ps scope)
    (len : ∀ vs H Q E, sp vs H Q E → vs.length = ps.length)
    (hbody : ∀ (A : Around) (outer : List Env) (s : Shared) (H : Hp) (vs : List V) (Q : VK) (E : XK), Room k (A.deeper (envOfC qual scope s.heap.objs.size f cdv)) → sp vs H Q E →
      ∃ t, PSs (cxOf CX P w K mg base N qual scope f cdv A outer s H E) body t ∧ t { nx := fun _ H' => Q .non H', rt := Q } (start N vs) H) :
    FnOk P w K mg base CX (k + 1) f (PySem.W.fnOf name qual params body scope dV kV doc pm an cdv ct) ps sp := by
  refine ⟨len, fun A outer s H args us vs Q E hr e0 hb r hsp => ?_⟩
  have hl := len _ _ _ _ hsp
  have KX : K.In s.heap := e0.mod.kin.keeps fun b o e => (e0.bs b o e).1
  have lim : s.heap.NoLimit := e0.mod.nolimit.keeps fun b o e => (e0.bs b o e).1
  have hkind : ∀ y ∈ ps.zip us, scope.names.lookup y.1 = some .local ∨ (scope.names.lookup y.1 = some .cell ∧ ((cellsFrom (s.heap.objs.size + 1) scope.names []).lookup y.1).isSome = true) := fun ⟨n, v⟩ hy => by
    rcases S.par n (List.of_mem_zip hy).1 with q | q
    · exact .inl q
    · exact .inr ⟨q, PySem.W.cellsFrom_some _ _ _ (.inl q)⟩
  refine codeAny_call_function hr.depth (KX _ _ lk) rfl S.co S.gen rfl (PySem.W.codeRec_of KX hcd) (hb _ _ _ _ ?_)
  refine wpAny_newFunctionEnv_cells S.kind hkind fun env he s1 x => ?_
  subst he
  refine ⟨lim.keeps x.toInCall.keep, codeAny_func ?_⟩
  obtain ⟨t, ht, hq⟩ := hbody A outer s H vs Q E (hr.deeper _) hsp
  have I : Inv (cxOf CX P w K mg base N qual scope f cdv A outer s H E) [] (start N vs) H s1 := inv_start S hr.hd e0 hl r x
  refine wpAny_mono (ht [] s1 (start N vs) H _ I hq) (fun fl s' hs => ?_) fun e s' hs => hs
  have fin : ∀ {σ' : St} {H' : Hp} {v : V} {u : Value}, Inv (cxOf CX P w K mg base N qual scope f cdv A outer s H E) [] σ' H' s' → RelV v u → Q v H' → CE outer P w H s Q u s' :=
    fun {σ' H' v u} J rv q => ⟨v, H', J.os, J.bare, J.base, J.hok, rv, q⟩
  cases fl with
  | ret u =>
    obtain ⟨v, σ', H', J, rv, q⟩ := hs
    exact fin J rv q
  | next =>
    obtain ⟨σ', H', J, q⟩ := hs
    exact fin (v := V.non) (u := Value.none) J rfl q
  | brk =>
    obtain ⟨_, _, _, q⟩ := hs
    exact False.elim q
  | cont =>
    obtain ⟨_, _, _, q⟩ := hs
    exact False.elim q
end L2
namespace L2
open PySem PySem.Spec PyProof.Rows
section
variable {X : Cx} {x : Str} {p pos : Pos} {e : Expr} {es : List Expr} {t : TA} {id T : String} {r : List V → Hp → VK → Prop}
noncomputable def tCB (r : List V → Hp → VK → Prop) (t : TA) : TE := fun σ H Q => t σ H fun vs H1 => r vs H1 Q
theorem pe_callB (hc : CallR X (.builtin id) r) (hg : Gl X x) (hm : X.mg x = none) (hv : bootBuiltins x = some (.builtin id)) (ha : PA X (e :: es) t) (hn : x ≠ "__name__" := by decide) (hdb : (x == ("__debug__" : Str)) = false := by decide)
    (he : starEach (e :: es) X.env = (false, eval e X.env) :: starEach es X.env := by rfl) (hpl : (backTo pos (starEach es X.env)).any (·.1) = false := by rfl) : PE X (.Call (.Name x p) (e :: es) [] pos) (tCB r t) := by
  intro pins s σ H Q I h
  refine wpAny_Call_Name_kw (ld_blt I hg hm hv ?_ hn hdb)
  exact PyProof.Rows.callWith_builtin1 (thn (ha pos pins s σ H _ I h) fun us s1 ⟨vs, H1, I1, r1, q1⟩ => hc pins s1 σ H1 vs us Q I1 r1 q1) he hpl
theorem pe_callTy (hc : CallR X (.type T) r) (hg : Gl X x) (hm : X.mg x = none) (hv : bootBuiltins x = some (.type T)) (ha : PA X (e :: es) t) (hn : x ≠ "__name__" := by decide) (hdb : (x == ("__debug__" : Str)) = false := by decide)
    (he : starEach (e :: es) X.env = (false, eval e X.env) :: starEach es X.env := by rfl) (hpl : (backTo pos (starEach es X.env)).any (·.1) = false := by rfl) : PE X (.Call (.Name x p) (e :: es) [] pos) (tCB r t) := by
  intro pins s σ H Q I h
  refine wpAny_Call_Name_kw (ld_blt I hg hm hv ?_ hn hdb)
  exact PyProof.Rows.callWith_type1 (thn (ha pos pins s σ H _ I h) fun us s1 ⟨vs, H1, I1, r1, q1⟩ => hc pins s1 σ H1 vs us Q I1 r1 q1) he hpl
end
end L2
namespace HT
open PySem PyProof.Rows
section
open PySem.SeqAt
open PySem.AutoSeq1 (wpAny_loadPart')
open PySem.MeetsSeq PySem.MeetsSeq2 PySem.MeetsSeq3
end
section
variable {prog : Program} {w : World} {A : Around} {E : Value → Shared → Prop} {s : Shared}
noncomputable def sIx (n d : Nat) : Option Int → Nat
  | none => d
  | some v => if v < 0 then (v + (n : Int)).toNat else min v.toNat n
theorem sIx_none (n d : Nat) : sIx n d none = d := rfl
theorem sIx_nat (n d k : Nat) : sIx n d (some (k : Int)) = min k n := by
  show (if (k : Int) < 0 then ((k : Int) + (n : Int)).toNat else min (k : Int).toNat n) = min k n
  rw [if_neg (by omega), Int.toNat_natCast]
theorem sIx_le (n d : Nat) (hd : d ≤ n) (o : Option Int) : sIx n d o ≤ n := by
  cases o with
  | none => exact hd
  | some v =>
    show (if v < 0 then (v + (n : Int)).toNat else min v.toNat n) ≤ n
    by_cases hv : v < 0
    · rw [if_pos hv]; omega
    · rw [if_neg hv]; exact Nat.min_le_right _ _
end
end HT
namespace L2
open PySem PySem.Spec PyProof.Rows
noncomputable abbrev TO := St → Hp → (Option Int → Hp → Prop) → Prop
noncomputable def PO (X : Cx) (e : Option Expr) (t : TO) : Prop :=
  ∀ (pins : List (Addr × Obj)) (s : Shared) (σ : St) (H : Hp) (Q : Option Int → Hp → Prop), Inv X pins σ H s → t σ H Q →
    wpAny (model X.prog X.w) X.A (evalPart e X.env) (fun u s' => ∃ o H', Inv X pins σ H' s' ∧ IsPart u o ∧ Q o H') X.xe s
noncomputable def tNoPart : TO := fun _ H Q => Q none H
noncomputable def tPart (t : TE) : TO := fun σ H Q => t σ H fun x H1 => ∃ i, x = .int i ∧ Q (some i) H1
section
variable {X : Cx} {e : Expr} {te : TE} {lo hi : Option Expr} {tl th : TO} {pos p2 : Pos}
theorem po_none : PO X none tNoPart := by
  intro pins s σ H Q I h
  rw [evalPart_none]
  exact wpAny_pure ⟨none, H, I, .none, h⟩
theorem po_some (h : PE X e te) : PO X (some e) (tPart te) := by
  intro pins s σ H Q I hw
  rw [evalPart_some]
  refine thn (h pins s σ H _ I hw) fun u s1 ⟨x, H1, I1, r1, q1⟩ => ?_
  obtain ⟨i, rfl, q⟩ := q1
  obtain ⟨t, rfl⟩ := r1
  exact ⟨some i, H1, I1, .int i t, q⟩
noncomputable def SlR (X : Cx) (r : V → Option Int → Option Int → Hp → VK → Prop) : Prop :=
  ∀ (pins : List (Addr × Obj)) (s : Shared) (σ : St) (H : Hp) (x : V) (v vl vu : Value) (lo hi : Option Int) (sl : Addr) (Q : VK), Inv X pins σ H s → RelV x v → s.heap.IsSliceOf sl vl vu .none → IsPart vl lo → IsPart vu hi → r x lo hi H Q →
    ∃ T id, typeLookup (.type T) "__getitem__" = pure (some (.builtin id)) ∧ s.TypeIs v T ∧ wpAny (model X.prog X.w) X.A (getItem v (.ref sl)) (EP X pins σ Q) X.xe s
noncomputable def tSl (r : V → Option Int → Option Int → Hp → VK → Prop) (te : TE) (tl th : TO) : TE := fun σ H Q => te σ H fun x H1 => tl σ H1 fun l H2 => th σ H2 fun u H3 => r x l u H3 Q
theorem pe_slice {r : V → Option Int → Option Int → Hp → VK → Prop} (hr : SlR X r) (he : PE X e te) (hl : PO X lo tl) (hu : PO X hi th) : PE X (.Subscript e (.Slice lo hi none p2) pos) (tSl r te tl th) := by
  intro pins s σ H Q I h
  refine Subscript_ (thn (he pins s σ H _ I h) fun v s1 ⟨x, H1, I1, r1, q1⟩ => ?_)
  refine wpAny_Slice (thn (hl pins s1 σ H1 _ I1 q1) fun vl s2 ⟨l, H2, I2, pl, q2⟩ => thn (hu pins s2 σ H2 _ I2 q2) fun vu s3 ⟨u, H3, I3, pu, q3⟩ => ?_)
  rw [evalPart_none]
  refine wpAny_pure ?_
  have I4 : Inv X pins σ H3 { s3 with heap := s3.heap.push { cls := .type "slice", data := .fields #[vl, vu, .none] } } := I3.kept (t' := s3.toks) fun b ob q => Heap.get?_push_of_some _ q
  obtain ⟨T, id, hT, ht, hg⟩ := hr pins { s3 with heap := s3.heap.push { cls := .type "slice", data := .fields #[vl, vu, .none] } } σ H3 x v vl vu l u s3.heap.objs.size Q I4 r1 (Heap.IsSliceOf.new ..) pl pu q3
  show wpAny (model X.prog X.w) X.A (subscriptTail e (.Slice lo hi none p2) v (.ref s3.heap.objs.size)) (EP X pins σ Q) X.xe { s3 with heap := s3.heap.push { cls := .type "slice", data := .fields #[vl, vu, .none] } }
  exact tail_any (ops := [.ref s3.heap.objs.size, v]) ht hT hg (by with_unfolding_all rfl)
noncomputable def cutV (xs : List V) (lo hi : Option Int) : List V := (xs.drop (HT.sIx xs.length 0 lo)).take (HT.sIx xs.length xs.length hi - HT.sIx xs.length 0 lo)
theorem cutV_length (xs : List V) (lo hi : Option Int) : (cutV xs lo hi).length ≤ xs.length := by
  unfold cutV
  rw [List.length_take, List.length_drop]
  omega
end
end L2
namespace L2
open PySem PySem.Spec PyProof.Rows
noncomputable def ixN (n : Nat) (i : Int) : Option Nat := if 0 ≤ i then (if i < n then some i.toNat else none) else if -(n : Int) ≤ i then some (i + n).toNat else none
noncomputable def atI {α : Type} (xs : List α) (i : Int) : Option α := (ixN xs.length i).bind fun j => xs[j]?
theorem ixN_seq {n : Nat} {i : Int} {j : Nat} (h : ixN n i = some j) : seqIndex? i n = some j ∧ j < n ∧ -(n : Int) ≤ i ∧ i < n := by
  unfold ixN at h
  by_cases h0 : 0 ≤ i
  · rw [if_pos h0] at h
    by_cases h1 : i < n
    · rw [if_pos h1] at h
      have e : i.toNat = j := Option.some.inj h
      exact ⟨by rw [seqIndex_of h0 h1, e], by omega, by omega, h1⟩
    · rw [if_neg h1] at h; cases h
  · rw [if_neg h0] at h
    by_cases h1 : -(n : Int) ≤ i
    · rw [if_pos h1] at h
      have e : (i + n).toNat = j := Option.some.inj h
      exact ⟨by rw [seqIndex_neg (by omega) h1, e], by omega, h1, by omega⟩
    · rw [if_neg h1] at h; cases h
theorem atI_get {α : Type} {xs : List α} {i : Int} {v : α} (h : atI xs i = some v) : ∃ j, seqIndex? i xs.length = some j ∧ xs[j]? = some v ∧ j < xs.length ∧ -(xs.length : Int) ≤ i ∧ i < xs.length := by
  unfold atI at h
  cases e : ixN xs.length i with
  | none => rw [e] at h; cases h
  | some j =>
    rw [e] at h
    obtain ⟨h1, h2, h3, h4⟩ := ixN_seq e
    exact ⟨j, h1, h, h2, h3, h4⟩
noncomputable def PlainIx (b : Expr) : Prop := ∀ o i, subscripted b false o i = operate [o, i] (getItem o i)
noncomputable def IxR (X : Cx) (r : R2) : Prop :=
  ∀ (value slice : Expr) (pins : List (Addr × Obj)) (s : Shared) (σ : St) (H : Hp) (x y : V) (v u : Value) (Q : VK), Inv X pins σ H s → RelV x v → RelV y u → r x y H Q →
    subscripted slice false v u = operate [v, u] (getItem v u) → wpAny (model X.prog X.w) X.A (subscriptTail value slice v u) (EP X pins σ Q) X.xe s
noncomputable def MtR (X : Cx) (id : String) (r : V → List V → Hp → VK → Prop) : Prop :=
  ∀ (pins : List (Addr × Obj)) (s : Shared) (σ : St) (H : Hp) (x : V) (xs : List V) (v : Value) (us : List Value) (Q : VK), Inv X pins σ H s → RelV x v → Vals xs us → r x xs H Q →
    wpAny (model X.prog X.w) X.A (call (.builtin id) (v :: us)) (EP X pins σ Q) X.xe s
section
variable {X : Cx} {a b : Expr} {ta tb : TE} {pos : Pos}
theorem pe_ix {r : R2} (hr : IxR X r) (ha : PE X a ta) (hb : PE X b tb) (hs : PlainIx b) : PE X (.Subscript a b pos) (tOp r ta tb) := by
  intro pins s σ H Q I h
  exact Subscript_ (binT ha hb I h fun v u s2 x y H2 I2 rx ry q => hr a b pins s2 σ H2 x y v u Q I2 rx ry q (hs _ _))
noncomputable def rIxL (K : PySem.W.Frag) : R2 := fun x y H Q => ∃ p xs i v, x = .ref p ∧ y = .int i ∧ SqL K H p xs ∧ atI xs i = some v ∧ Q v H
noncomputable def rIxT (K : PySem.W.Frag) : R2 := fun x y H Q => ∃ p xs i v, x = .ref p ∧ y = .int i ∧ SqT K H p xs ∧ atI xs i = some v ∧ Q v H
noncomputable def rIxS : R2 := fun x y H Q => ∃ z i c, x = .str z ∧ y = .int i ∧ z.length ≤ sizeLine ∧ atI z.cps.toList i = some c ∧ Q (.str ⟨#[c]⟩) H
theorem ix_list : IxR X (rIxL X.K) := by
  intro value slice pins s σ H x y v u Q I rx ry h hs
  obtain ⟨p, xs, i, z, rfl, rfl, hq, he, q⟩ := h
  cases rx
  obtain ⟨t, rfl⟩ := ry
  obtain ⟨its, r, pl, hz⟩ := I.list hq
  obtain ⟨j, h1, h2, h3, h4, h5⟩ := atI_get he
  obtain ⟨w, ew, rw'⟩ := r.get h2
  have hl := r.length
  have hn := line63
  have fin : EP X pins σ Q w s := ⟨z, H, I, rw', q⟩
  by_cases h0 : 0 ≤ i
  · have hj : i.toNat = j := by
      rw [seqIndex_of h0 h5] at h1
      exact Option.some.inj h1
    exact item_listR pl.isList h0 (by omega) (by rw [hj]; simpa using ew) fin hs
  · have hj : (i + (its.toArray.size : Int)).toNat = j := by
      rw [seqIndex_neg (by omega) h4] at h1
      rw [List.size_toArray, ← hl]
      exact Option.some.inj h1
    exact subscriptTail_builtinR (x := w) pl.isList.typeIs slot_list_getitem.lookup
      (wpAny_getItem_list_neg (Q := fun r s' => r = w ∧ EP X pins σ Q r s') pl.isList (by omega) (by rw [List.size_toArray] <;> omega) (by omega) (by rw [hj]; simpa using ew) ⟨rfl, fin⟩) hs
theorem ix_tup : IxR X (rIxT X.K) := by
  intro value slice pins s σ H x y v u Q I rx ry h hs
  obtain ⟨p, xs, i, z, rfl, rfl, hq, he, q⟩ := h
  cases rx
  obtain ⟨t, rfl⟩ := ry
  obtain ⟨its, r, pl, hz⟩ := I.tuple hq
  obtain ⟨j, h1, h2, h3, h4, h5⟩ := atI_get he
  obtain ⟨w, ew, rw'⟩ := r.get h2
  have hl := r.length
  have hn := line63
  have fin : EP X pins σ Q w s := ⟨z, H, I, rw', q⟩
  exact subscriptTail_builtinR (x := w) pl.typeIs slot_tuple_getitem.lookup
    (getItem_tuple (j := j) (Q := fun r s' => r = w ∧ EP X pins σ Q r s') pl (by omega) (by omega) (by rw [List.size_toArray, ← hl]; exact h1) (by simpa using ew) ⟨rfl, fin⟩) hs
theorem ix_str : IxR X rIxS := by
  intro value slice pins s σ H x y v u Q I rx ry h hs
  obtain ⟨z, i, c, rfl, rfl, hz, he, q⟩ := h
  obtain ⟨t, rfl⟩ := rx
  obtain ⟨t', rfl⟩ := ry
  obtain ⟨j, h1, h2, h3, h4, h5⟩ := atI_get he
  have hl : z.cps.toList.length = z.length := by simp [Str.length]
  rw [hl] at h1 h4 h5
  have hn := line63
  exact tail_any (typeIs_str s z t) slot_str_getitem.lookup (getItem_str (c := c) (by
    have e1 : decide (i < -(2 ^ 63 : Int)) = false := decide_eq_false (by omega)
    have e2 : decide (i ≥ 2 ^ 63) = false := decide_eq_false (by omega)
    rw [e1, e2, Bool.or_false]) (by rw [h1]; simpa using h2) ⟨.str ⟨#[c]⟩, H, I.tok _, ⟨_, rfl⟩, q⟩) hs
theorem slice_bounds (lo hi : Option Int) (n : Nat) : (sliceBounds lo hi none n).1 = ((HT.sIx n 0 lo : Nat) : Int) ∧ (sliceBounds lo hi none n).2.1 = ((HT.sIx n n hi : Nat) : Int) ∧ (sliceBounds lo hi none n).2.2 = 1 := by
  refine ⟨?_, ?_, rfl⟩
  · cases lo with
    | none => simp [sliceBounds, HT.sIx]
    | some i =>
      simp only [sliceBounds, HT.sIx, Option.getD_none, show (1 : Int) > 0 by decide, if_true]
      by_cases h : i < 0
      · simp only [h, if_true] <;> omega
      · simp only [h, if_false] <;> omega
  · cases hi with
    | none => simp [sliceBounds, HT.sIx]
    | some i =>
      simp only [sliceBounds, HT.sIx, Option.getD_none, show (1 : Int) > 0 by decide, if_true]
      by_cases h : i < 0
      · simp only [h, if_true] <;> omega
      · simp only [h, if_false] <;> omega
theorem slicePick_cut (its : List Value) (lo hi : Option Int) : slicePick its.toArray lo hi none = ((its.drop (HT.sIx its.length 0 lo)).take (HT.sIx its.length its.length hi - HT.sIx its.length 0 lo)).toArray := by
  obtain ⟨h1, h2, h3⟩ := slice_bounds lo hi its.toArray.size
  unfold slicePick
  rw [h1, h2, h3]
  simp only [sliceRange_one, pick_run, List.size_toArray] <;> rfl
noncomputable def rSlL (K : PySem.W.Frag) : V → Option Int → Option Int → Hp → VK → Prop := fun x lo hi H Q => ∃ a xs, x = .ref a ∧ SqL K H a xs ∧ ∀ p, H p = none → Q (.ref p) (upd H p (.lst (cutV xs lo hi)))
theorem sl_list : SlR X (rSlL X.K) := by
  intro pins s σ H x v vl vu lo hi sl Q I rx hs pl pu h
  obtain ⟨a, xs, rfl, hx, q⟩ := h
  cases rx
  obtain ⟨its, r, ht, hz⟩ := I.list hx
  have hlen := r.length
  refine ⟨"list", _, slot_list_getitem.lookup, ht.isList.typeIs, ?_⟩
  refine wpAny_getItem_list_slice ht.isList hs pl pu .none (by simp) ?_ (by rw [List.size_toArray] <;> omega)
  rw [slicePick_cut, ← hlen]
  refine ⟨.ref s.heap.objs.size, _, I.laid (t' := s.toks) (o := .lst (cutV xs lo hi)) (fun b ob q => Heap.get?_push_of_some _ q) (Nat.le_refl _) ?_, rfl, q _ (I.hok.fresh (Nat.le_refl _))⟩
  exact ⟨Nat.le_trans (cutV_length xs lo hi) hz, _, 0, (r.drop (HT.sIx xs.length 0 lo)).take (HT.sIx xs.length xs.length hi - HT.sIx xs.length 0 lo), Heap.get?_push_size _ rfl⟩
theorem call_len_seq : CallR X (.builtin "len") (fun xs H Q => ∃ p ys, xs = [.ref p] ∧ (SqL X.K H p ys ∨ SqT X.K H p ys) ∧ Q (.int ys.length) H) := by
  intro pins s σ H xs us Q I r h
  obtain ⟨p, ys, rfl, hq, q⟩ := h
  obtain ⟨u, rfl, rx⟩ := vals1 r
  cases rx
  have hn := line63
  rcases hq with hq | hq
  · obtain ⟨its, r', pl, hz⟩ := I.list hq
    have hlen := r'.length
    exact Calls.call_len_list pl.isList (by simp only [List.size_toArray] <;> omega) ⟨.int ys.length, H, I.tok _, ⟨s.toks + 1, by rw [List.size_toArray, hlen]⟩, q⟩
  · obtain ⟨its, r', pl, hz⟩ := I.tuple hq
    have hlen := r'.length
    exact len_tuple pl (by simp only [List.size_toArray] <;> omega) ⟨.int ys.length, H, I.tok _, ⟨s.toks + 1, by rw [List.size_toArray, hlen]⟩, q⟩
theorem call_len_str : CallR X (.builtin "len") (fun xs H Q => ∃ z, xs = [.str z] ∧ z.length ≤ sizeLine ∧ Q (.int z.length) H) := by
  intro pins s σ H xs us Q I r h
  obtain ⟨z, rfl, hz, q⟩ := h
  obtain ⟨u, rfl, t, rfl⟩ := vals1 r
  have hn := line63
  exact len_str (by omega) ⟨.int z.length, H, I.tok _, ⟨_, rfl⟩, q⟩
theorem call_list_of : CallR X (.type "list") (fun xs H Q => ∃ p ys, xs = [.ref p] ∧ (SqL X.K H p ys ∨ SqT X.K H p ys) ∧ ∀ l, H l = none → Q (.ref l) (upd H l (.lst ys))) := by
  intro pins s σ H xs us Q I r h
  obtain ⟨p, ys, rfl, hq, q⟩ := h
  obtain ⟨u, rfl, rx⟩ := vals1 r
  cases rx
  have fin : ∀ (its : List Value), Vals ys its → ys.length ≤ sizeLine → ∀ (h' : Heap) (c' : Nat), (∀ b o', s.heap.get? b = some o' → h'.get? b = some o') →
      h'.get? s.heap.objs.size = some { cls := .type "list", dict := none, data := .seq its.toArray c', slots := #[] } → EP X pins σ Q (.ref s.heap.objs.size) { s with heap := h' } := fun its r' hz h' c' kp e =>
    ⟨.ref s.heap.objs.size, _, I.laid (t' := s.toks) kp (Nat.le_refl _) (show ObjOk X.prog X.w _ h' _ (.lst ys) from ⟨hz, its, c', r', e⟩), rfl, q _ (I.hok.fresh (Nat.le_refl _))⟩
  rcases hq with hq | hq
  · obtain ⟨its, r', pl, hz⟩ := I.list hq
    have hlen := r'.length
    obtain ⟨o, ho, hc, n, hd⟩ := pl.isList
    exact call_list_seq p (.inl rfl) ho hc hd (fun h' c' kp e => fin its r' hz h' c' kp e) (by simp only [List.size_toArray] <;> omega)
  · obtain ⟨its, r', pl, hz⟩ := I.tuple hq
    have hlen := r'.length
    obtain ⟨o, ho, hc, n, hd⟩ := pl
    exact call_list_seq p (.inr rfl) ho hc hd (fun h' c' kp e => fin its r' hz h' c' kp e) (by simp only [List.size_toArray] <;> omega)
noncomputable def tyV (K : PySem.W.Frag) (T : String) (x : V) (H : Hp) : Prop := match x with
  | .str _ => T = "str"
  | .int _ => T = "int"
  | .ref p => (T = "list" ∧ ∃ xs, SqL K H p xs) ∨ (T = "tuple" ∧ ∃ o, K.lookup p = some o ∧ o.cls = .type "tuple" ∧ o.dict = none) ∨
      (T = "dict" ∧ ((∃ kvs, H p = some (.dK kvs)) ∨ ∃ kvs, H p = some (.dT kvs))) ∨ (T = "set" ∧ ∃ S n, H p = some (.set S n))
  | _ => False
theorem tyV_is {pins : List (Addr × Obj)} {σ : St} {H : Hp} {s : Shared} {T : String} {x : V} {v : Value} (I : Inv X pins σ H s) (r : RelV x v) (ty : tyV X.K T x H) :
    s.TypeIs v T ∧ ∀ a, v = .ref a → ∃ ob, s.heap.get? a = some ob ∧ ob.dict = none := by
  cases x with
  | str z =>
    obtain ⟨t, rfl⟩ := r
    cases (show T = "str" from ty)
    exact ⟨typeIs_str s z t, fun _ e => nomatch e⟩
  | int i =>
    obtain ⟨t, rfl⟩ := r
    cases (show T = "int" from ty)
    exact ⟨typeIs_int s i t, fun _ e => nomatch e⟩
  | ref p =>
    cases r
    rcases ty with ⟨rfl, xs, hq⟩ | ⟨rfl, o, hk, hc, hd⟩ | ⟨rfl, hk⟩ | ⟨rfl, S, n, hk⟩
    · obtain ⟨its, _, pl, _⟩ := I.list hq
      refine ⟨pl.isList.typeIs, fun a e => ?_⟩
      cases e
      obtain ⟨o, n, e, c, hd, _⟩ := pl
      exact ⟨o, e, hd⟩
    · refine ⟨⟨o, I.kIn p o hk, hc⟩, fun a e => ?_⟩
      cases e
      exact ⟨o, I.kIn _ o hk, hd⟩
    · have z : ∃ o, s.heap.get? p = some o ∧ o.ExactDict := by
        rcases hk with ⟨kvs, hk⟩ | ⟨kvs, hk⟩
        · obtain ⟨_, _, _, _, o, _, _, e, ex, _⟩ := I.hok p _ hk
          exact ⟨o, e, ex⟩
        · obtain ⟨_, _, _, _, o, _, _, e, ex, _⟩ := I.hok p _ hk
          exact ⟨o, e, ex⟩
      obtain ⟨o, e, ex⟩ := z
      refine ⟨⟨o, e, ex.1⟩, fun a e2 => ?_⟩
      cases e2
      exact ⟨o, e, ex.2.1⟩
    · obtain ⟨o, _, _, _, e, ex, _⟩ := I.hok p _ hk
      refine ⟨⟨o, e, ex.1⟩, fun a e2 => ?_⟩
      cases e2
      exact ⟨o, e, ex.2.1⟩
  | _ => exact False.elim ty
noncomputable def tBM (K : PySem.W.Frag) (T : String) (r : V → List V → Hp → VK → Prop) (to : TE) (t : TA) : TE := fun σ H Q => to σ H fun x H1 => tyV K T x H1 ∧ t σ H1 fun xs H2 => r x xs H2 Q
variable {o e : Expr} {es : List Expr} {to : TE} {t : TA} {name : Str} {apos cpos : Pos} {T id : String} {r : V → List V → Hp → VK → Prop}
theorem pe_bm (pa : PlainAttrs T) (slot : Slot T name id) (hty : typeOf (.builtin id) = pure (.type "method_descriptor")) (hm : MtR X id r) (ho : PE X o to) (ha : PA X (e :: es) t)
    (hbase : attributeBase o name X.env (eval o X.env) = eval o X.env := by rfl)
    (hfew : ((backTo cpos (starEach (e :: es) X.env)).all (fun x => !x.1) && (backToKw cpos (keywordEach [] X.env)).all (fun x => x.1.isSome)
      && decide ((e :: es).length + ([] : List Keyword).length + (if ([] : List Keyword).isEmpty then 0 else 1) < 30)) = true := by rfl)
    (hline : (apos.endLine == cpos.line) = true := by rfl) (hs : starEach (e :: es) X.env = (false, eval e X.env) :: starEach es X.env := by rfl) (hplain : (backTo cpos (starEach es X.env)).any (·.1) = false := by rfl) :
    PE X (.Call (.Attribute o name apos) (e :: es) [] cpos) (tBM X.K T r to t) := by
  intro pins s σ H Q I h
  refine wpAny_Call_method_late hbase hfew hline rfl (thn (ho pins s σ H _ I h) fun v s1 ⟨x, H1, I1, r1, ty, q1⟩ => ?_)
  obtain ⟨h1, h2⟩ := tyV_is I1 r1 ty
  refine ⟨T, id, pa, slot, hty, h1, h2, ?_⟩
  have hA := ha cpos pins s1 σ H1 _ I1 q1
  rw [hs] at hA ⊢
  refine Calls.callWith_builtin (by show (false || (backTo cpos (starEach es X.env)).any (·.1)) = false; rw [hplain] <;> rfl) (Calls.evalArgs_plain ?_)
  exact thn hA fun us s2 ⟨vs, H2, I2, r2, q2⟩ => hm pins s2 σ H2 x vs v us Q I2 r1 r2 q2
end
end L2
namespace L2
open PySem PySem.Spec PyProof.Rows
noncomputable def MtM (X : Cx) (id : String) (r : V → List V → Hp → VK → Prop) : Prop :=
  ∀ (pins : List (Addr × Obj)) (s : Shared) (σ : St) (H : Hp) (x : V) (xs : List V) (v : Value) (us : List Value) (Q : VK), Inv X pins σ H s → RelV x v → Vals xs us → r x xs H Q →
    wpAny (model X.prog X.w) X.A (call (.builtin id) (v :: us)) (EP X pins σ Q) X.xe s
theorem Vals.one : ∀ {x : V} {us : List Value}, Vals [x] us → ∃ u, us = [u] ∧ RelV x u
  | _, _, .cons r .nil => ⟨_, rfl, r⟩
theorem Vals.two : ∀ {x y : V} {us : List Value}, Vals [x, y] us → ∃ u v, us = [u, v] ∧ RelV x u ∧ RelV y v
  | _, _, _, .cons r (.cons q .nil) => ⟨_, _, rfl, r, q⟩
theorem Vals.zero : ∀ {us : List Value}, Vals [] us → us = []
  | _, .nil => rfl
theorem Vals.reverse {xs : List V} {us : List Value} (h : Vals xs us) : Vals xs.reverse us.reverse := by
  induction h with
  | nil => exact .nil
  | cons r t ih => rw [List.reverse_cons, List.reverse_cons]; exact Vals.append ih (.cons r .nil)
section
variable {X : Cx} {pins : List (Addr × Obj)} {σ : St} {H : Hp} {s : Shared} {l b : Addr} {xs ys zs : List V}
theorem Inv.lset {its its' : List Value} {n : Nat} {f : Array Value → Array Value} {t' : Nat} (I : Inv X pins σ H s) (hH : H l = some (.lst xs))
    (e : s.heap.get? l = some { cls := .type "list", data := .seq its.toArray n }) (hf : f its.toArray = its'.toArray) (hv : Vals ys its') (hz : ys.length ≤ sizeLine) :
    Inv X pins σ (upd H l (.lst ys)) { s with heap := s.heap.update l (Obj.mapSeq f), toks := t' } := by
  have q := PySem.IsL.update e f
  rw [hf] at q
  refine I.write (x := l) (e := l) (by rw [hH]; exact trivial) (.inl rfl) (fun b' u hb hu => (Heap.get?_update_other s.heap (Obj.mapSeq f) (Ne.symm hb)).trans hu) ⟨_, q⟩ ?_
  exact ⟨hz, its', _, hv, q⟩
theorem Inv.lnew {its : List Value} {t' : Nat} (I : Inv X pins σ H s) (hv : Vals ys its) (hz : ys.length ≤ sizeLine) :
    Inv X pins σ (upd H s.heap.objs.size (.lst ys)) { s with heap := s.heap.push { cls := .type "list", data := .seq its.toArray }, toks := t' } :=
  I.laid (fun _ _ q => Heap.get?_push_of_some _ q) (Nat.le_refl _) ⟨hz, its, 0, hv, Heap.get?_push_size _ rfl⟩
theorem Inv.fresh (I : Inv X pins σ H s) : H s.heap.objs.size = none := I.hok.fresh (Nat.le_refl _)
theorem Inv.lstM (I : Inv X pins σ H s) (hH : H l = some (.lst xs)) : xs.length ≤ sizeLine ∧ ∃ (its : List Value) (n : Nat), Vals xs its ∧ xs.length = its.length ∧ s.heap.get? l = some { cls := .type "list", data := .seq its.toArray n } := by
  obtain ⟨z, its, n, r, e⟩ := I.hok l _ hH
  exact ⟨z, its, n, r, r.length, e⟩
end
section
variable {X : Cx}
noncomputable def rAppend : V → List V → Hp → VK → Prop := fun x vs H Q => ∃ l xs y, x = .ref l ∧ vs = [y] ∧ H l = some (.lst xs) ∧ xs.length < sizeLine ∧ Q .non (upd H l (.lst (xs ++ [y])))
theorem mt_append : MtM X "list.append" rAppend := by
  intro pins s σ H x vs v us Q I rx rv h
  obtain ⟨l, xs, y, rfl, rfl, hH, hz, q⟩ := h
  cases rx
  obtain ⟨u, rfl, ru⟩ := rv.one
  obtain ⟨z, its, n, r, hl, e⟩ := I.lstM hH
  refine call_meets F.slot_list_append ⟨_, e, rfl⟩ F.entry_list_append (F.args_list_append_2 _ _) (PySem.list_append l its.toArray n u (by rw [List.size_toArray]; omega)) ⟨e, ?_⟩
  refine ⟨.non, _, I.lset (its' := its ++ [u]) hH e (by simp) (r.append (.cons ru .nil)) ?_, rfl, q⟩
  rw [List.length_append, List.length_singleton]
  omega
end
section
variable {prog : Program} {w : World} {A : Around} {E : Value → Shared → Prop} {s : Shared}
end
section
variable {X : Cx}
end
end L2
namespace Att
open PySem PySem.W PySem.Calls PyProof.Rows
theorem ints_of_wellAll {P : Params} {h : Heap} : ∀ (ns : List Int) (vs : List Value), WellAll P h vs (ns.map WData.int) → IntsAre vs ns := by
  intro ns
  induction ns with
  | nil =>
    intro vs w
    rw [List.map_nil] at w
    cases w
    exact .nil
  | cons n ns ih =>
    intro vs w
    rw [List.map_cons] at w
    cases w with
    | cons a b =>
      cases a
      exact .cons _ _ (ih _ b)
theorem script_of {l : OpenLaw} {n : Nat} (hn : l.most = some n) {P : Params} {h : Heap} {args : List WData} {vals : List Value}
    (hpre : l.row.toRowW.claim.pre args = true) (hwl : WellAll P h vals args) :
    ∃ a vs ns, vals = [Value.ref a] ∧ args = [WData.list (ns.map WData.int)] ∧ h.get? a = some { cls := .type "list", data := .seq vs.toArray } ∧ IntsAre vs ns ∧ ns.length ≤ n := by
  have hsh : WShape.hasAll [] args [.list .int] = true := (pre_splitW hpre).1
  have hc : l.pre.holds [] { args := args } = true := (pre_splitW hpre).2
  obtain ⟨d, r, rfl, h1, h2⟩ := hasAllW_cons hsh
  obtain rfl := hasAllW_nil h2
  obtain ⟨xs, rfl, h3⟩ := hasW_list h1
  obtain ⟨ns, rfl⟩ := items_int h3
  have hlen : ns.length ≤ n := by
    unfold OpenLaw.pre at hc
    have h4 : (WTm.not (.lt (.lit (.int (n : Int))) (.len (.arg 0)))).holds [] { args := [.list (ns.map .int)] } = true := by
      have h4 := (holds_andW hc).1
      rw [hn] at h4
      exact h4
    have h5 := condW_of h4 (w_not (w_lt w_lit (w_len_list (w_arg rfl))))
    rw [List.length_map] at h5
    refine Nat.le_of_not_lt fun q => ?_
    have q' : (n : Int) < ((ns.length : Nat) : Int) := by omega
    first
      | (rw [decide_eq_true q'] at h5; exact absurd h5 (by decide))
      | (simp at h5; omega)
  cases hwl with
  | cons w1 w2 =>
    cases w2
    cases w1 with
    | list ho hall => exact ⟨_, _, ns, rfl, rfl, ho, ints_of_wellAll ns _ hall, hlen⟩
theorem post_true (l : OpenLaw) (args : List WData) : l.row.toRowW.claim.post args (.bool true) args = true :=
  postW_of (r := l.row.toRowW) (X := (true == true))
    (show WShape.has [] (.bool true) .bool = true by first | rfl | decide | simp [WShape.has, WShape.arms, WShape.armsAll])
    (show (WTm.eq .res (.lit (.bool true))).value [] { args := args, res := some (.bool true), after := args } = some (.bool (true == true)) from w_eq_bool (w_res rfl) w_lit) rfl
theorem attach_call {l : OpenLaw} {n : Nat} {q : Program} {loose : List Str} {XP : (Str → Option Value) → Heap → Prop} {YP : World → Heap → Prop} {d : DefRec}
    (hn : l.most = some n) (hdf : d.params.defaults = [])
    (call : ∀ (w : World) (s₀ s₁ : Shared) (mg mb : Str → Option Value) (fa : Addr) (o : Obj) (pm cd doc : Value) (a : Addr) (vs : List Value) (ns : List Int),
      Ground q loose [] XP w s₀ mg mb s₁.heap → YP w s₁.heap →
      s₁.heap.get? fa = some o → o.data = .func (docDef d.name d.params d.body d.scope pm cd doc) → s₁.heap.CodeRec cd d.name → mg d.name = some (.ref fa) →
      s₁.heap.get? a = some { cls := .type "list", data := .seq vs.toArray } → IntsAre vs ns → ns.length ≤ n → s₁.gens = #[] →
      codeAny (model l.prog w) callerA (.call (.ref fa) ⟨[.ref a], []⟩) (fun r s' => r = .ok (.ret (.bool true)) ∧ OldK s₁.heap s'.heap ∧ s'.os = s₁.os ∧ AllBare s'.gens) s₁) :
    WalkO q loose XP YP l.row.toRowW d [] (fun f vs => PySem.call f vs) := by
  intro w s₀ s₁ mg mb G Y fa o pm cd doc dV kV ho hd hcd hD hmg hg args vals as hpre hlay hrd hwl hlo
  obtain rfl : dV = .none := Dflts.none hD hdf
  obtain rfl : kV = .none := Dflts.noKw hD
  obtain ⟨a, vs, ns, rfl, rfl, hobj, hints, hlen⟩ := script_of hn hpre hwl
  refine enter_call (codeAny_mono (call w s₀ s₁ mg mb fa o pm cd doc a vs ns G Y ho (fd_plain hd) hcd hmg hobj hints hlen hg) fun r s' hq => ?_)
  obtain ⟨rfl, h2, h3, h4⟩ := hq
  exact ⟨.inl ⟨.bool true, .bool true, [], rfl, fun _ => rfl, .bool true, post_true l _, fun _ => ⟨List.Pairwise.nil, fun _ hm => (nomatch hm)⟩⟩, h2, h3, h4⟩
section
variable {prog : Program} {w : World} {A : Around} {E : Value → Shared → Prop} {s : Shared} {K : Frag}
end
end Att
namespace L2
open PySem PySem.Spec PyProof.Rows
theorem vals_ints : ∀ {vs : List Value} {ns : List Int}, IntsAre vs ns → Vals (ns.map V.int) vs
  | _, _, .nil => .nil
  | _, _, .cons n t h => .cons ⟨t, rfl⟩ (vals_ints h)
noncomputable def Only (H : Hp) : Prop := ∀ b, H b = none ∨ ∃ o xs, H b = some (.frz o (.lst xs))
theorem law_call {P : Program} {w : World} {K : PySem.W.Frag} {mg mb : Str → Option Value} {CX : CXT} {k : Nat} {fa a : Addr} {fd : FuncData} {x : Str} {sp : Sp} {s₁ : Shared} {vs : List Value} {ns : List Int}
    (KX : K.In s₁.heap) (hns : s₁.heap.Ns mainGlobals mg) (hb : s₁.heap.Ns builtinsNs mb) (hbb : ∀ x : Str, x ≠ "__name__" → mb x = bootBuiltins x) (hlim : s₁.heap.NoLimit) (hg : s₁.gens = #[])
    (ha : s₁.heap.get? a = some { cls := .type "list", data := .seq vs.toArray }) (hi : IntsAre vs ns) (hl : ns.length ≤ sizeLine) (hr : Room k callerA)
    (F : ∀ base : Heap, K.In base → base.Ns mainGlobals mg → FnOk P w K mg base CX k fa fd [x] sp) (hbind : ∀ (s : Shared) (u : Value), BindsTo s fd ⟨[u], []⟩ [(x, u)])
    (hsp : ∀ H : Hp, Only H → SqL K H a (ns.map V.int) → sp [.ref a] H (fun v _ => v = .bl true) fun _ _ _ => False)
    (hCX : ∀ H e s', CX [] H s₁ (fun _ _ _ => False) e s' → False) :
    codeAny (model P w) callerA (.call (.ref fa) ⟨[.ref a], []⟩) (fun r s' => r = .ok (.ret (.bool true)) ∧ OldK s₁.heap s'.heap ∧ s'.os = s₁.os ∧ AllBare s'.gens) s₁ := by
  have rv := vals_ints hi
  have lenV := hi.length
  have core : ∀ H : Hp, Only H → SqL K H a (ns.map V.int) → HOk P w H s₁.heap → (∀ b, H b ≠ none → b = a) → (H a ≠ none → K.lookup a = none) →
      codeAny (model P w) callerA (.call (.ref fa) ⟨[.ref a], []⟩) (fun r s' => r = .ok (.ret (.bool true)) ∧ OldK s₁.heap s'.heap ∧ s'.os = s₁.os ∧ AllBare s'.gens) s₁ := by
    intro H hO hS hok hA hK
    have base_of : ∀ {b : Addr} {o : Obj}, s₁.heap.get? b = some o → H b = none → (hidT s₁.heap H).get? b = some o := fun e n => hidT_get e n
    have noA : ∀ {b : Addr} {o : Obj} {es : Array DictEntry} {ep : Nat}, s₁.heap.get? b = some o → o.data = .dict es ep → H b = none := fun {b o es ep} e d => by
      cases q : H b with
      | none => rfl
      | some u =>
        have e' : b = a := hA b (by rw [q]; simp)
        subst e'
        rw [ha] at e; cases e
        have d' : Data.seq vs.toArray _ = Data.dict es ep := d
        cases d'
    have nsK : ∀ {b : Addr} {m : Str → Option Value}, s₁.heap.Ns b m → (hidT s₁.heap H).Ns b m := fun {b m} ⟨o, es, ep, e, d, r⟩ => ⟨o, es, ep, base_of e (noA e d), d, r⟩
    have hKb : K.In (hidT s₁.heap H) := fun b o e => base_of (KX b o e) (by
      cases q : H b with
      | none => rfl
      | some u =>
        have e' : b = a := hA b (by rw [q]; simp)
        subst e'
        rw [hK (by rw [q]; simp)] at e; cases e)
    have hM : Mod K mg (hidT s₁.heap H) := ⟨hKb, nsK hns, ⟨mb, nsK hb, hbb⟩, let ⟨mc, h1, h2⟩ := hlim; ⟨mc, nsK h1, h2⟩⟩
    have e0 : Env0 P w K mg (hidT s₁.heap H) callerA [] s₁ H := ⟨rfl, hM, fun b o e => of_hidT e, Nat.le_of_eq (hidT_size _ _), trivial, fun b hb => absurd (show b ∈ ([] : List Addr) from hb) (by simp), hok, .of_eq hg⟩
    refine codeAny_mono ((F _ hKb (nsK hns)).run callerA [] s₁ H ⟨[.ref a], []⟩ [.ref a] [.ref a] _ _ hr e0 (hbind s₁ (.ref a)) (.cons rfl .nil) (hsp H hO hS)) fun r s' h => ?_
    cases r with
    | error e => exact (hCX H e s' h).elim
    | ok fl =>
      cases fl with
      | next => exact False.elim h
      | brk => exact False.elim h
      | cont => exact False.elim h
      | ret u =>
        obtain ⟨v, H', os, bare, un, hok', r', q⟩ := h
        have q' : v = .bl true := q
        subst q'
        obtain rfl : u = Value.bool true := r'
        refine ⟨rfl, OldK.of_keep fun b o e => ?_, os, bare⟩
        cases q : H b with
        | none => exact un.keep b o e q (by intro z; exact absurd (show b ∈ ([] : List Addr) from z) (by simp)) (by simp)
        | some u =>
          rcases hO b with z | ⟨ob, xs, z⟩
          · rw [q] at z; cases z
          · have z2 := un.frzs b ob _ z
            obtain ⟨e1, _⟩ := hok b _ z
            obtain ⟨e2, _⟩ := hok' b _ z2
            rw [e] at e1; cases e1
            exact e2
  cases hk : K.lookup a with
  | some o =>
    have e := KX a o hk
    rw [ha] at e
    cases e
    refine core (fun _ => none) (fun _ => .inl rfl) (.inr ⟨_, vs.toArray, _, hk, rfl, rfl, rfl, by rw [List.size_toArray, lenV]; exact hl, by simpa using rv⟩) (fun b u z => by have z' : (none : Option HO) = some u := z; cases z') (fun b z => absurd rfl z) fun z => absurd rfl z
  | none =>
    refine core (fun b => if b = a then some (.frz { cls := .type "list", data := .seq vs.toArray } (.lst (ns.map V.int))) else none) (fun b => ?_) (.inl (.inr ⟨{ cls := .type "list", data := .seq vs.toArray }, if_pos rfl⟩)) (fun b u z => ?_) (fun b z => ?_) fun _ => hk
    · by_cases hb : b = a
      · exact .inr ⟨_, _, if_pos hb⟩
      · exact .inl (if_neg hb)
    · by_cases hb : b = a
      · have z' := (if_pos hb).symm.trans z
        cases z'
        subst hb
        exact ⟨ha, by rw [List.length_map]; exact hl, vs, _, rv, ha⟩
      · have z' := (if_neg hb).symm.trans z
        cases z'
    · by_cases hb : b = a
      · exact hb
      · exact absurd (if_neg hb) z
end L2
namespace L2
open PySem PySem.Spec PyProof.Rows
theorem walk_of {l : PySem.W.OpenLaw} {n k : Nat} {q : Program} {loose : List Str} {XP : (Str → Option Value) → Heap → Prop} {YP : World → Heap → Prop} {d : DefRec} {K : Params → PySem.W.Frag} {CX : World → CXT} {sp : World → Sp} {x : Str}
    (hn : l.most = some n) (hn2 : n ≤ sizeLine) (hdf : d.params.defaults = []) (hr : Room k callerA)
    (hY : ∀ (w : World) (h : Heap), YP w h → (K w.params).In h)
    (F : ∀ (w : World) (mg : Str → Option Value) (fa : Addr) (h : Heap), (K w.params).In h → h.Ns mainGlobals mg → mg d.name = some (.ref fa) →
      ∃ fd : FuncData, (∀ (s : Shared) (u : Value), BindsTo s fd ⟨[u], []⟩ [(x, u)]) ∧
        ∀ base : Heap, (K w.params).In base → base.Ns mainGlobals mg → FnOk l.prog w (K w.params) mg base (CX w) k fa fd [x] (sp w))
    (hsp : ∀ (w : World) (H : Hp) (a : Addr) (ns : List Int), ns.length ≤ n → Only H → SqL (K w.params) H a (ns.map V.int) → sp w [.ref a] H (fun v _ => v = .bl true) fun _ _ _ => False)
    (hCX : ∀ (w : World) (H : Hp) (s : Shared) (e : Value) (s' : Shared), CX w [] H s (fun _ _ _ => False) e s' → False) :
    PySem.W.WalkO q loose XP YP l.row.toRowW d [] (fun f vs => PySem.call f vs) := by
  refine Att.attach_call hn hdf fun w s₀ s₁ mg mb fa o pm cd doc a vs ns G Y ho hd hcd hmg hobj hints hlen hg => ?_
  have KX := hY w _ Y
  obtain ⟨fd, hb, hF⟩ := F w mg fa _ KX G.T.g hmg
  exact law_call KX G.T.g G.T.b G.T.builtins G.T.nolimit hg hobj hints (Nat.le_trans hlen hn2) hr hF hb (fun H hO hS => hsp w H a ns hlen hO hS) fun H e s' => hCX w H s₁ e s'
end L2
namespace L2
open PySem PySem.Spec PyProof.Rows
noncomputable def inClass (s : Stmt) (j : Nat) : Stmt := match s with
  | .ClassDef _ _ _ body _ _ _ _ _ _ _ => body.getD j (.Pass ⟨0, 0, 0, 0⟩)
  | _ => .Pass ⟨0, 0, 0, 0⟩
noncomputable def defArgs (s : Stmt) : Arguments := match s with
  | .FunctionDef _ a _ _ _ _ _ _ _ _ => a
  | _ => { posonlyargs := [], args := [], vararg := none, kwonlyargs := [], kw_defaults := [], kwarg := none, defaults := [] }
noncomputable def defBody (s : Stmt) : List Stmt := match s with
  | .FunctionDef _ _ b _ _ _ _ _ _ _ => b
  | _ => []
noncomputable def defScope (s : Stmt) : Scope := match s with
  | .FunctionDef _ _ _ _ _ _ sc _ _ _ => sc
  | _ => { kind := .function, names := [], isGenerator := false, isCoroutine := false }
noncomputable abbrev CX0 : CXT := fun _ _ _ _ _ _ => False
noncomputable abbrev E0 : XK := fun _ _ _ => False
theorem pass0 {X : Cx} : Passes CX0 X E0 := fun _ _ _ _ _ _ _ h => h.elim
structure Fun (K : PySem.W.Frag) (x qual : Str) (st : Stmt) (f : Addr) (fd : FuncData) : Prop where
  ex : ∃ (oc : Value) (od : Option Addr) (kV doc pm : Value) (an : Option Addr) (cdv ct : Value) (osl : Array (Option Value)),
    fd = PySem.W.fnOf x qual (defArgs st) (defBody st) (defScope st) .none kV doc pm an cdv ct ∧ K.lookup f = some ⟨oc, od, .func fd, osl⟩ ∧ PySem.W.codeIn K cdv qual = true
  kp : PySem.W.keepIn K (.ref f) = true
section
variable {P : Program} {w : World} {K : PySem.W.Frag} {mg : Str → Option Value} {base : Heap}
theorem Fun.ok {x qual : Str} {st : Stmt} {f : Addr} {fd : FuncData} {N ps : List Str} {k : Nat} {sp : Sp} (F : Fun K x qual st f fd) (S : FnScope N ps (defScope st)) (len : ∀ vs H Q E, sp vs H Q E → vs.length = ps.length)
    (hbody : ∀ (cdv : Value) (A : Around) (outer : List Env) (s : Shared) (H : Hp) (vs : List V) (Q : VK) (E : XK), Room k (A.deeper (envOfC qual (defScope st) s.heap.objs.size f cdv)) → sp vs H Q E →
      ∃ t, PSs (cxOf CX0 P w K mg base N qual (defScope st) f cdv A outer s H E).nox (defBody st) t ∧ t { nx := fun _ H' => Q .non H', rt := Q } (start N vs) H) : FnOk P w K mg base CX0 (k + 1) f fd ps sp := by
  obtain ⟨oc, od, kV, doc, pm, an, cdv, ct, osl, rfl, lk, hcd⟩ := F.ex
  refine fn_of lk hcd S len fun A outer s H vs Q E hr hsp => ?_
  obtain ⟨t, h, q⟩ := hbody cdv A outer s H vs Q E hr hsp
  exact ⟨t, h.nox, q⟩
theorem Fun.binds {x qual : Str} {st : Stmt} {f : Addr} {fd : FuncData} {ps : List Str} (F : Fun K x qual st f fd)
    (h : ∀ (kV doc pm : Value) (an : Option Addr) (cdv ct : Value) (us : List Value), us.length = ps.length → bindArgs (PySem.W.fnOf x qual (defArgs st) (defBody st) (defScope st) .none kV doc pm an cdv ct) ⟨us, []⟩ = pure (ps.zip us)) : Binds K fd ps [] := by
  obtain ⟨oc, od, kV, doc, pm, an, cdv, ct, osl, rfl, lk, hcd⟩ := F.ex
  exact .all (h kV doc pm an cdv ct)
theorem fun_mk {x qual : Str} {st : Stmt} {f : Addr} {oc : Value} {od an : Option Addr} {osl : Array (Option Value)} {kV doc pm cdv ct : Value} (l : K.lookup f = some ⟨oc, od, .func (PySem.W.fnOf x qual (defArgs st) (defBody st) (defScope st) .none kV doc pm an cdv ct), osl⟩)
    (c : PySem.W.codeIn K cdv qual = true) (k : PySem.W.keepIn K (.ref f) = true) : Fun K x qual st f (PySem.W.fnOf x qual (defArgs st) (defBody st) (defScope st) .none kV doc pm an cdv ct) := ⟨⟨oc, od, kV, doc, pm, an, cdv, ct, osl, rfl, l, c⟩, k⟩
end
theorem small1000 {n : Nat} (h : n ≤ 1000) : n < sizeLine := Nat.lt_of_le_of_lt h (by decide)
section
variable {X : Cx}
end
noncomputable def Same (H H' : Hp) : Prop := ∀ b o, H b = some o → H' b = some o
theorem Same.refl (H : Hp) : Same H H := fun _ _ h => h
theorem Same.trans {H H1 H2 : Hp} (a : Same H H1) (b : Same H1 H2) : Same H H2 := fun c o h => b c o (a c o h)
theorem Same.seq {K : PySem.W.Frag} {H H' : Hp} {a : Addr} {xs : List V} (e : Same H H') (h : SqL K H a xs) : SqL K H' a xs := by
  rcases h with (h | ⟨o, h⟩) | h
  · exact .inl (.inl (e _ _ h))
  · exact .inl (.inr ⟨o, e _ _ h⟩)
  · exact .inr h
end L2
namespace MQ
open PySem PySem.Spec PyProof.Rows L2
inductive Dv where
  | non | bl (b : Bool) | int (i : Int) | str (x : Str) | tup (ds : List Dv) | lst (ds : List Dv) | scr (ns : List Int) | ref (a : Addr)
noncomputable def SqR (K : PySem.W.Frag) (H : Hp) (a : Addr) (xs : List V) : Prop :=
  (∃ o, H a = some (.frz o (.lst xs))) ∨
    ∃ (o : Obj) (its : Array Value) (n : Nat), K.lookup a = some o ∧ o.cls = .type "list" ∧ o.dict = none ∧ o.data = .seq its n ∧ its.size ≤ sizeLine ∧ Vals xs its.toList
theorem SqR.sq {K : PySem.W.Frag} {H : Hp} {a : Addr} {xs : List V} (h : SqR K H a xs) : SqL K H a xs := by
  rcases h with ⟨o, h⟩ | h
  · exact .inl (.inr ⟨o, h⟩)
  · exact .inr h
noncomputable def TupAt (K : PySem.W.Frag) (H : Hp) (a : Addr) (vs : List V) : Prop := H a = some (.tup vs) ∨ (SqT K H a vs ∧ vs = [.int 0, .int 0])
theorem TupAt.sq {K : PySem.W.Frag} {H : Hp} {a : Addr} {vs : List V} (h : TupAt K H a vs) : SqT K H a vs := h.elim (fun z => .inl (.inl z)) fun z => z.1
mutual
noncomputable def den (K : PySem.W.Frag) (H : Hp) : Dv → V → Prop
  | .non, v => v = .non
  | .bl b, v => v = .bl b
  | .int i, v => v = .int i
  | .str x, v => v = .str x
  | .tup ds, v => ∃ a vs, v = .ref a ∧ TupAt K H a vs ∧ dens K H ds vs
  | .lst ds, v => ∃ a o vs, v = .ref a ∧ H a = some (.frz o (.lst vs)) ∧ dens K H ds vs
  | .scr ns, v => ∃ a, v = .ref a ∧ SqR K H a (ns.map V.int)
  | .ref a, v => v = .ref a
noncomputable def dens (K : PySem.W.Frag) (H : Hp) : List Dv → List V → Prop
  | [], vs => vs = []
  | d :: ds, vs => ∃ v r, vs = v :: r ∧ den K H d v ∧ dens K H ds r
end
structure Ext (H H' : Hp) : Prop where
  tup : ∀ a xs, H a = some (.tup xs) → H' a = some (.tup xs)
  frz : ∀ a o u, H a = some (.frz o u) → H' a = some (.frz o u)
theorem Ext.refl (H : Hp) : Ext H H := ⟨fun _ _ h => h, fun _ _ _ h => h⟩
theorem Ext.trans {H H1 H2 : Hp} (a : Ext H H1) (b : Ext H1 H2) : Ext H H2 := ⟨fun c xs h => b.tup c xs (a.tup c xs h), fun c o u h => b.frz c o u (a.frz c o u h)⟩
theorem ext_same {H H' : Hp} (s : Same H H') : Ext H H' := ⟨fun a xs h => s a _ h, fun a o u h => s a _ h⟩
theorem Ext.sqT {K : PySem.W.Frag} {H H' : Hp} {a : Addr} {xs : List V} (e : Ext H H') (h : SqT K H a xs) : SqT K H' a xs := by
  rcases h with (h | ⟨o, h⟩) | h
  · exact .inl (.inl (e.tup _ _ h))
  · exact .inl (.inr ⟨o, e.frz _ _ _ h⟩)
  · exact .inr h
theorem Ext.tupAt {K : PySem.W.Frag} {H H' : Hp} {a : Addr} {xs : List V} (e : Ext H H') (h : TupAt K H a xs) : TupAt K H' a xs := h.elim (fun z => .inl (e.tup _ _ z)) fun z => .inr ⟨e.sqT z.1, z.2⟩
theorem Ext.sqR {K : PySem.W.Frag} {H H' : Hp} {a : Addr} {xs : List V} (e : Ext H H') (h : SqR K H a xs) : SqR K H' a xs := by
  rcases h with ⟨o, h⟩ | h
  · exact .inl ⟨o, e.frz _ _ _ h⟩
  · exact .inr h
mutual
theorem den_ext {K : PySem.W.Frag} {H H' : Hp} (e : Ext H H') : ∀ (d : Dv) (v : V), den K H d v → den K H' d v
  | .non, _, h => h
  | .bl _, _, h => h
  | .int _, _, h => h
  | .str _, _, h => h
  | .tup ds, v, h => by
    obtain ⟨a, vs, h1, h2, h3⟩ := (show ∃ a vs, v = .ref a ∧ TupAt K H a vs ∧ dens K H ds vs from h)
    exact (show ∃ a vs, v = .ref a ∧ TupAt K H' a vs ∧ dens K H' ds vs from ⟨a, vs, h1, e.tupAt h2, dens_ext e ds vs h3⟩)
  | .lst ds, v, h => by
    obtain ⟨a, o, vs, h1, h2, h3⟩ := (show ∃ a o vs, v = .ref a ∧ H a = some (.frz o (.lst vs)) ∧ dens K H ds vs from h)
    exact (show ∃ a o vs, v = .ref a ∧ H' a = some (.frz o (.lst vs)) ∧ dens K H' ds vs from ⟨a, o, vs, h1, e.frz _ _ _ h2, dens_ext e ds vs h3⟩)
  | .scr ns, v, h => by
    obtain ⟨a, h1, h2⟩ := (show ∃ a, v = .ref a ∧ SqR K H a (ns.map V.int) from h)
    exact (show ∃ a, v = .ref a ∧ SqR K H' a (ns.map V.int) from ⟨a, h1, e.sqR h2⟩)
  | .ref _, _, h => h
theorem dens_ext {K : PySem.W.Frag} {H H' : Hp} (e : Ext H H') : ∀ (ds : List Dv) (vs : List V), dens K H ds vs → dens K H' ds vs
  | [], _, h => h
  | d :: ds, vs, h => by
    obtain ⟨v, r, h1, h2, h3⟩ := (show ∃ v r, vs = v :: r ∧ den K H d v ∧ dens K H ds r from h)
    exact (show ∃ v r, vs = v :: r ∧ den K H' d v ∧ dens K H' ds r from ⟨v, r, h1, den_ext e d v h2, dens_ext e ds r h3⟩)
end
section
variable {K : PySem.W.Frag} {H : Hp}
theorem dens_nil : dens K H [] [] := rfl
theorem dens_cons {d : Dv} {ds : List Dv} {v : V} {vs : List V} (h : den K H d v) (hs : dens K H ds vs) : dens K H (d :: ds) (v :: vs) := ⟨v, vs, rfl, h, hs⟩
theorem dens_len : ∀ {ds : List Dv} {vs : List V}, dens K H ds vs → vs.length = ds.length
  | [], vs, h => by rw [show vs = [] from h]; rfl
  | d :: ds, vs, h => by
    obtain ⟨v, r, rfl, _, h3⟩ := (show ∃ v r, vs = v :: r ∧ den K H d v ∧ dens K H ds r from h)
    rw [List.length_cons, List.length_cons, dens_len h3]
theorem dens_get : ∀ {ds : List Dv} {vs : List V} {i : Nat} {d : Dv}, dens K H ds vs → ds[i]? = some d → ∃ v, vs[i]? = some v ∧ den K H d v
  | [], _, _, _, _, e => by simp at e
  | d :: ds, vs, i, x, h, e => by
    obtain ⟨v, r, rfl, h2, h3⟩ := (show ∃ v r, vs = v :: r ∧ den K H d v ∧ dens K H ds r from h)
    cases i with
    | zero => simp at e; subst e; exact ⟨v, rfl, h2⟩
    | succ i => simpa using dens_get (i := i) h3 (by simpa using e)
theorem dens_get' : ∀ {ds : List Dv} {vs : List V} {i : Nat} {v : V}, dens K H ds vs → vs[i]? = some v → ∃ d, ds[i]? = some d ∧ den K H d v
  | [], vs, i, v, h, e => by rw [show vs = [] from h] at e; simp at e
  | d :: ds, vs, i, x, h, e => by
    obtain ⟨v, r, rfl, h2, h3⟩ := (show ∃ v r, vs = v :: r ∧ den K H d v ∧ dens K H ds r from h)
    cases i with
    | zero => simp at e; subst e; exact ⟨d, rfl, h2⟩
    | succ i => simpa using dens_get' (i := i) h3 (by simpa using e)
theorem dens_append : ∀ {ds es : List Dv} {vs us : List V}, dens K H ds vs → dens K H es us → dens K H (ds ++ es) (vs ++ us)
  | [], es, vs, us, h, g => by rw [show vs = [] from h]; exact g
  | d :: ds, es, vs, us, h, g => by
    obtain ⟨v, r, rfl, h2, h3⟩ := (show ∃ v r, vs = v :: r ∧ den K H d v ∧ dens K H ds r from h)
    exact dens_cons h2 (dens_append h3 g)
theorem dens_take : ∀ {ds : List Dv} {vs : List V} (n : Nat), dens K H ds vs → dens K H (ds.take n) (vs.take n)
  | ds, vs, 0, _ => by simp only [List.take_zero]; exact dens_nil
  | [], vs, n + 1, h => by rw [show vs = [] from h]; exact dens_nil
  | d :: ds, vs, n + 1, h => by
    obtain ⟨v, r, rfl, h2, h3⟩ := (show ∃ v r, vs = v :: r ∧ den K H d v ∧ dens K H ds r from h)
    exact dens_cons h2 (dens_take n h3)
theorem dens_drop : ∀ {ds : List Dv} {vs : List V} (n : Nat), dens K H ds vs → dens K H (ds.drop n) (vs.drop n)
  | ds, vs, 0, h => h
  | [], vs, n + 1, h => by rw [show vs = [] from h]; exact dens_nil
  | d :: ds, vs, n + 1, h => by
    obtain ⟨v, r, rfl, h2, h3⟩ := (show ∃ v r, vs = v :: r ∧ den K H d v ∧ dens K H ds r from h)
    exact dens_drop n h3
theorem dens_ints : ∀ (ns : List Int), dens K H (ns.map Dv.int) (ns.map V.int)
  | [] => rfl
  | n :: ns => dens_cons (show den K H (.int n) (.int n) from rfl) (dens_ints ns)
end
inductive Ob where
  | lst (ds : List Dv)
  | dic (kvs : List (List Key × Dv))
  | ins (fs : List (Str × Dv))
noncomputable abbrev Sto := Addr → Option Ob
noncomputable def sset (S : Sto) (p : Addr) (o : Ob) : Sto := fun b => if b = p then some o else S b
noncomputable def sdel (S : Sto) (p : Addr) : Sto := fun b => if b = p then none else S b
theorem sset_same {S : Sto} {p : Addr} {o : Ob} : sset S p o p = some o := if_pos rfl
theorem sset_ne {S : Sto} {p q : Addr} {o : Ob} (h : q ≠ p) : sset S p o q = S q := if_neg h
theorem sset_sset {S : Sto} {p : Addr} {o u : Ob} : sset (sset S p o) p u = sset S p u := by
  funext b; unfold sset; split <;> rfl
theorem sdel_sset {S : Sto} {p : Addr} {o : Ob} (h : S p = none) : sdel (sset S p o) p = S := by
  funext b; unfold sdel sset
  by_cases e : b = p
  · rw [if_pos e, e, h]
  · rw [if_neg e, if_neg e]
noncomputable def kvds (K : PySem.W.Frag) (H : Hp) : List (List Key × Dv) → List (List Key × V) → Prop := Paired fun p q => p.1 = q.1 ∧ den K H p.2 q.2
noncomputable def flds (K : PySem.W.Frag) (H : Hp) : List (Str × Dv) → List (Str × V) → Prop := Paired fun p q => p.1 = q.1 ∧ den K H p.2 q.2
noncomputable def ObOk (K : PySem.W.Frag) (H : Hp) (a : Addr) : Ob → Prop
  | .lst ds => ∃ vs, H a = some (.lst vs) ∧ dens K H ds vs
  | .dic kvs => ∃ ks, H a = some (.dT ks) ∧ kvds K H kvs ks
  | .ins fs => ∃ C dx vs, PySem.W.nsIn K mainGlobals "Hand" = some (some (.ref C)) ∧ H a = some (.ins C dx vs) ∧ flds K H fs vs
noncomputable def StOk (K : PySem.W.Frag) (H : Hp) (S : Sto) : Prop := ∀ a o, S a = some o → ObOk K H a o
theorem kvds_ext {K : PySem.W.Frag} {H H' : Hp} (e : Ext H H') {x : List (List Key × Dv)} {y : List (List Key × V)} (h : kvds K H x y) : kvds K H' x y :=
  Paired.mapP h fun _ _ z => ⟨z.1, den_ext e _ _ z.2⟩
theorem flds_ext {K : PySem.W.Frag} {H H' : Hp} (e : Ext H H') {x : List (Str × Dv)} {y : List (Str × V)} (h : flds K H x y) : flds K H' x y :=
  Paired.mapP h fun _ _ z => ⟨z.1, den_ext e _ _ z.2⟩
theorem ObOk.same {K : PySem.W.Frag} {H H' : Hp} {a : Addr} {o : Ob} (h : ObOk K H a o) (e : Ext H H') (k : ∀ u, H a = some u → H' a = some u) : ObOk K H' a o := by
  cases o with
  | lst ds => obtain ⟨vs, h1, h2⟩ := h; exact ⟨vs, k _ h1, dens_ext e _ _ h2⟩
  | dic kvs => obtain ⟨ks, h1, h2⟩ := h; exact ⟨ks, k _ h1, kvds_ext e h2⟩
  | ins fs => obtain ⟨C, dx, vs, hc, h1, h2⟩ := h; exact ⟨C, dx, vs, hc, k _ h1, flds_ext e h2⟩
theorem ObOk.some {K : PySem.W.Frag} {H : Hp} {a : Addr} {o : Ob} (h : ObOk K H a o) : H a ≠ none := by
  cases o with
  | lst ds => obtain ⟨vs, h1, h2⟩ := h; rw [h1]; exact fun z => nomatch z
  | dic kvs => obtain ⟨ks, h1, h2⟩ := h; rw [h1]; exact fun z => nomatch z
  | ins fs => obtain ⟨C, dx, vs, hc, h1, h2⟩ := h; rw [h1]; exact fun z => nomatch z
theorem StOk.same {K : PySem.W.Frag} {H H' : Hp} {S : Sto} (h : StOk K H S) (s : Same H H') : StOk K H' S := fun a o e => (h a o e).same (ext_same s) fun u q => s a u q
theorem StOk.free {K : PySem.W.Frag} {H : Hp} {S : Sto} (h : StOk K H S) {p : Addr} (e : H p = none) : S p = none := by
  cases q : S p with
  | none => rfl
  | some o => exact absurd e (h p o q).some
theorem StOk.put {K : PySem.W.Frag} {H : Hp} {S : Sto} {p : Addr} {u : HO} {o : Ob} (h : StOk K H S) (e : Ext H (upd H p u)) (ok : ObOk K (upd H p u) p o) : StOk K (upd H p u) (sset S p o) := fun a ob q => by
  unfold sset at q
  by_cases z : a = p
  · rw [if_pos z] at q; cases q; rw [z]; exact ok
  · rw [if_neg z] at q; exact (h a ob q).same e fun v hv => by rw [upd_ne z]; exact hv
theorem same_new {H : Hp} {p : Addr} (h : H p = none) (o : HO) : Same H (upd H p o) := fun b u q => by rw [upd_ne (ne_of_none q h)]; exact q
theorem ext_lst {H : Hp} {p : Addr} {xs ys : List V} (h : H p = some (.lst xs)) : Ext H (upd H p (.lst ys)) :=
  ⟨fun a zs q => by rw [upd_ne (ne_of q h (by intro z; cases z))]; exact q, fun a o u q => by rw [upd_ne (ne_of q h (by intro z; cases z))]; exact q⟩
theorem ext_ins {H : Hp} {p C dx : Addr} {xs ys : List (Str × V)} (h : H p = some (.ins C dx xs)) : Ext H (upd H p (.ins C dx ys)) :=
  ⟨fun a zs q => by rw [upd_ne (ne_of q h (by intro z; cases z))]; exact q, fun a o u q => by rw [upd_ne (ne_of q h (by intro z; cases z))]; exact q⟩
noncomputable abbrev Ev := List (Option Dv)
structure EnvOk (K : PySem.W.Frag) (H : Hp) (ρ : Ev) (σ : L2.St) : Prop where
  len : ρ.length = σ.length
  at_ : ∀ (i : Nat) d, ρ[i]? = some (some d) → ∃ v, σ[i]? = some (some v) ∧ den K H d v
theorem EnvOk.ext {K : PySem.W.Frag} {H H' : Hp} {ρ : Ev} {σ : L2.St} (h : EnvOk K H ρ σ) (e : Ext H H') : EnvOk K H' ρ σ :=
  ⟨h.len, fun i d q => let ⟨v, h1, h2⟩ := h.at_ i d q; ⟨v, h1, den_ext e _ _ h2⟩⟩
theorem EnvOk.set {K : PySem.W.Frag} {H : Hp} {ρ : Ev} {σ : L2.St} {i : Nat} {d : Dv} {v : V} (h : EnvOk K H ρ σ) (hd : den K H d v) : EnvOk K H (ρ.set i (some d)) (σ.set i (some v)) := by
  refine ⟨by rw [List.length_set, List.length_set]; exact h.len, fun j e q => ?_⟩
  rw [List.getElem?_set] at q ⊢
  by_cases z : i = j
  · rw [if_pos z] at q ⊢
    rw [← h.len]
    by_cases z2 : i < ρ.length
    · rw [if_pos z2] at q ⊢
      cases q
      exact ⟨v, rfl, hd⟩
    · rw [if_neg z2] at q; cases q
  · rw [if_neg z] at q ⊢
    exact h.at_ j e q
noncomputable abbrev QE := Dv → Sto → Prop
noncomputable abbrev WE := Ev → Sto → QE → Prop
noncomputable abbrev WT := Ev → Sto → (Bool → Sto → Prop) → Prop
noncomputable abbrev WA := Ev → Sto → (List Dv → Sto → Prop) → Prop
structure Dn where
  nx : Ev → Sto → Prop
  rt : QE
  bk : Ev → Sto → Prop := fun _ _ => False
  ct : Ev → Sto → Prop := fun _ _ => False
noncomputable abbrev WS := Dn → Ev → Sto → Prop
inductive lE (K : PySem.W.Frag) (w : WE) (σ : L2.St) (H : Hp) (Q : VK) : Prop
  | mk (ρ : Ev) (S : Sto) (Q' : QE) (env : EnvOk K H ρ σ) (st : StOk K H S) (hw : w ρ S Q') (post : ∀ d S' v H', Q' d S' → Ext H H' → StOk K H' S' → den K H' d v → Q v H') : lE K w σ H Q
inductive lT (K : PySem.W.Frag) (w : WT) (σ : L2.St) (H : Hp) (Q : Bool → Hp → Prop) : Prop
  | mk (ρ : Ev) (S : Sto) (Q' : Bool → Sto → Prop) (env : EnvOk K H ρ σ) (st : StOk K H S) (hw : w ρ S Q') (post : ∀ b S' H', Q' b S' → Ext H H' → StOk K H' S' → Q b H') : lT K w σ H Q
inductive lA (K : PySem.W.Frag) (w : WA) (σ : L2.St) (H : Hp) (Q : List V → Hp → Prop) : Prop
  | mk (ρ : Ev) (S : Sto) (Q' : List Dv → Sto → Prop) (env : EnvOk K H ρ σ) (st : StOk K H S) (hw : w ρ S Q') (post : ∀ ds S' vs H', Q' ds S' → Ext H H' → StOk K H' S' → dens K H' ds vs → Q vs H') : lA K w σ H Q
structure DnOk (K : PySem.W.Frag) (H : Hp) (D' : Dn) (D : Ends) : Prop where
  nx : ∀ ρ S σ H', D'.nx ρ S → Ext H H' → EnvOk K H' ρ σ → StOk K H' S → D.nx σ H'
  rt : ∀ d S v H', D'.rt d S → Ext H H' → StOk K H' S → den K H' d v → D.rt v H'
  bk : ∀ ρ S σ H', D'.bk ρ S → Ext H H' → EnvOk K H' ρ σ → StOk K H' S → D.bk σ H'
  ct : ∀ ρ S σ H', D'.ct ρ S → Ext H H' → EnvOk K H' ρ σ → StOk K H' S → D.ct σ H'
theorem DnOk.ext {K : PySem.W.Frag} {H H1 : Hp} {D' : Dn} {D : Ends} (h : DnOk K H D' D) (e : Ext H H1) : DnOk K H1 D' D :=
  ⟨fun ρ S σ H' a b c d => h.nx ρ S σ H' a (e.trans b) c d, fun d S v H' a b c q => h.rt d S v H' a (e.trans b) c q,
   fun ρ S σ H' a b c d => h.bk ρ S σ H' a (e.trans b) c d, fun ρ S σ H' a b c d => h.ct ρ S σ H' a (e.trans b) c d⟩
inductive lS (K : PySem.W.Frag) (w : WS) (D : Ends) (σ : L2.St) (H : Hp) : Prop
  | mk (ρ : Ev) (S : Sto) (D' : Dn) (env : EnvOk K H ρ σ) (st : StOk K H S) (hw : w D' ρ S) (ends : DnOk K H D' D) : lS K w D σ H
noncomputable abbrev DE (X : Cx) (e : Expr) (w : WE) : Prop := PE X e (lE X.K w)
noncomputable abbrev DT (X : Cx) (e : Expr) (w : WT) : Prop := PT X e (lT X.K w)
noncomputable abbrev DA (X : Cx) (es : List Expr) (w : WA) : Prop := PA X es (lA X.K w)
noncomputable abbrev DS (X : Cx) (st : Stmt) (w : WS) : Prop := PS X st (lS X.K w)
noncomputable abbrev DSs (X : Cx) (sts : List Stmt) (w : WS) : Prop := PSs X sts (lS X.K w)
section
variable {X : Cx}
theorem PE.weak {e : Expr} {t t' : TE} (h : PE X e t) (k : ∀ σ H Q, t' σ H Q → t σ H Q) : PE X e t' := fun pins s σ H Q I hw => h pins s σ H Q I (k _ _ _ hw)
theorem PT.weak {e : Expr} {t t' : TT} (h : PT X e t) (k : ∀ σ H Q, t' σ H Q → t σ H Q) : PT X e t' := fun pins s σ H Q I hw => h pins s σ H Q I (k _ _ _ hw)
theorem PW.weak {e : Expr} {t t' : TT} (h : PW X e t) (k : ∀ σ H Q, t' σ H Q → t σ H Q) : PW X e t' := fun wh pins s σ H Q I hw => h wh pins s σ H Q I (k _ _ _ hw)
theorem PA.weak {e : List Expr} {t t' : TA} (h : PA X e t) (k : ∀ σ H Q, t' σ H Q → t σ H Q) : PA X e t' := fun pos pins s σ H Q I hw => h pos pins s σ H Q I (k _ _ _ hw)
theorem PS.weak {e : Stmt} {t t' : TS} (h : PS X e t) (k : ∀ D σ H, t' D σ H → t D σ H) : PS X e t' := fun pins s σ H Q I hw => h pins s σ H Q I (k _ _ _ hw)
theorem PSs.weak {e : List Stmt} {t t' : TS} (h : PSs X e t) (k : ∀ D σ H, t' D σ H → t D σ H) : PSs X e t' := fun pins s σ H Q I hw => h pins s σ H Q I (k _ _ _ hw)
end
noncomputable def ev? (ρ : Ev) (i : Nat) : Option Dv := match ρ[i]? with
  | some (some d) => some d
  | _ => none
noncomputable def go (o : Option Dv) (S : Sto) (Q : QE) : Prop := match o with
  | some d => Q d S
  | none => False
noncomputable def wVar (i : Nat) : WE := fun ρ S Q => go (ev? ρ i) S Q
noncomputable def wC (d : Dv) : WE := fun _ S Q => Q d S
theorem ev?_at {ρ : Ev} {i : Nat} {d : Dv} (h : ev? ρ i = some d) : ρ[i]? = some (some d) := by
  unfold ev? at h
  split at h
  · rename_i d' e; cases h; exact e
  · cases h
theorem go_inv {o : Option Dv} {S : Sto} {Q : QE} (h : go o S Q) : ∃ d, o = some d ∧ Q d S := by
  cases o with
  | none => exact h.elim
  | some d => exact ⟨d, rfl, h⟩
section
variable {X : Cx}
theorem de_var (i : Nat) {x : Str} {pos : Pos} (hN : X.N[i]? = some x := by rfl) (hv : Vis X.env.scope x := by first | exact Or.inl rfl | exact Or.inr (Or.inl rfl) | exact Or.inr (Or.inr rfl)) (hd : (x == ("__debug__" : Str)) = false := by decide)
    (hcd : (x == ("__classdict__" : Str)) = false := by decide) : DE X (.Name x pos) (wVar i) :=
  PE.weak (pe_var hN hv hd hcd) fun σ H Q ⟨ρ, S, Q', env, st, hw, post⟩ => by
    obtain ⟨d, e, q⟩ := go_inv hw
    obtain ⟨v, h1, h2⟩ := env.at_ i d (ev?_at e)
    exact ⟨v, h1, post d S v H q (Ext.refl H) st h2⟩
theorem de_c {e : Expr} {v : V} {d : Dv} (h : PE X e (tC v)) (hd : ∀ H, den X.K H d v) : DE X e (wC d) :=
  PE.weak h fun σ H Q ⟨ρ, S, Q', env, st, hw, post⟩ => post d S v H hw (Ext.refl H) st (hd H)
theorem de_int {i j pos} : DE X (.Constant (.int i) j pos) (wC (.int i)) := de_c pe_int fun _ => rfl
theorem de_bl {b j pos} : DE X (.Constant (.bool b) j pos) (wC (.bl b)) := de_c pe_bl fun _ => rfl
theorem de_non {j pos} : DE X (.Constant .none j pos) (wC .non) := de_c pe_non fun _ => rfl
theorem de_str {x j pos} : DE X (.Constant (.str x) j pos) (wC (.str x)) := de_c pe_str fun _ => rfl
end
noncomputable abbrev F2 := Sto → Dv → Dv → Option Dv
noncomputable def wOp (f : F2) (a b : WE) : WE := fun ρ S Q => a ρ S fun x S1 => b ρ S1 fun y S2 => go (f S2 x y) S2 Q
inductive rD (K : PySem.W.Frag) (f : F2) (x y : V) (H : Hp) (Q : VK) : Prop
  | mk (S : Sto) (dx dy d : Dv) (st : StOk K H S) (hx : den K H dx x) (hy : den K H dy y) (hf : f S dx dy = some d) (post : ∀ z H', Same H H' → den K H' d z → Q z H') : rD K f x y H Q
theorem lift_op {K : PySem.W.Frag} {f : F2} {wa wb : WE} (σ : L2.St) (H : Hp) (Q : VK) (h : lE K (wOp f wa wb) σ H Q) : tOp (rD K f) (lE K wa) (lE K wb) σ H Q := by
  obtain ⟨ρ, S, Q', env, st, hw, post⟩ := h
  refine ⟨ρ, S, _, env, st, hw, fun dx S1 x H1 q1 e1 st1 d1 => ?_⟩
  refine ⟨ρ, S1, _, env.ext e1, st1, q1, fun dy S2 y H2 q2 e2 st2 d2 => ?_⟩
  obtain ⟨d, hf, q⟩ := go_inv q2
  exact ⟨S2, dx, dy, d, st2, den_ext e2 _ _ d1, d2, hf, fun z H' sm dz => post d S2 z H' q ((e1.trans e2).trans (ext_same sm)) (st2.same sm) dz⟩
section
variable {X : Cx} {a b : Expr} {wa wb : WE} {pos : Pos} {f : F2}
theorem de_op {op : Operator} (ho : OpR X (binaryOp op) (rD X.K f)) (ha : DE X a wa) (hb : DE X b wb) : DE X (.BinOp a op b pos) (wOp f wa wb) := PE.weak (pe_op ho ha hb) lift_op
theorem de_ix (hr : IxR X (rD X.K f)) (ha : DE X a wa) (hb : DE X b wb) (hs : PlainIx b := by exact fun _ _ => rfl) : DE X (.Subscript a b pos) (wOp f wa wb) := PE.weak (pe_ix hr ha hb hs) lift_op
end
noncomputable abbrev F2b := Sto → Dv → Dv → Option Bool
noncomputable def asD (f : F2b) : F2 := fun S x y => (f S x y).map .bl
noncomputable def goB (o : Option Bool) (S : Sto) (Q : Bool → Sto → Prop) : Prop := match o with
  | some b => Q b S
  | none => False
theorem goB_inv {o : Option Bool} {S : Sto} {Q : Bool → Sto → Prop} (h : goB o S Q) : ∃ b, o = some b ∧ Q b S := by
  cases o with
  | none => exact h.elim
  | some b => exact ⟨b, rfl, h⟩
noncomputable def wCmp (f : F2b) (a b : WE) : WT := fun ρ S Q => a ρ S fun x S1 => b ρ S1 fun y S2 => goB (f S2 x y) S2 Q
theorem lift_cmp {K : PySem.W.Frag} {f : F2b} {wa wb : WE} (σ : L2.St) (H : Hp) (Q : Bool → Hp → Prop) (h : lT K (wCmp f wa wb) σ H Q) : tTest (tOp (rD K (asD f)) (lE K wa) (lE K wb)) σ H Q := by
  obtain ⟨ρ, S, Q', env, st, hw, post⟩ := h
  refine ⟨ρ, S, _, env, st, hw, fun dx S1 x H1 q1 e1 st1 d1 => ?_⟩
  refine ⟨ρ, S1, _, env.ext e1, st1, q1, fun dy S2 y H2 q2 e2 st2 d2 => ?_⟩
  obtain ⟨b, hf, q⟩ := goB_inv q2
  refine ⟨S2, dx, dy, .bl b, st2, den_ext e2 _ _ d1, d2, by unfold asD; rw [hf]; rfl, fun z H' sm dz => ⟨b, dz, ?_⟩⟩
  exact post b S2 H' q ((e1.trans e2).trans (ext_same sm)) (st2.same sm)
noncomputable def tru (S : Sto) : Dv → Option Bool
  | .non => some false
  | .bl b => some b
  | .int i => some (i != 0)
  | .tup ds => some !ds.isEmpty
  | .lst ds => some !ds.isEmpty
  | .scr ds => some !ds.isEmpty
  | .ref a => match S a with
    | some (.lst ds) => some !ds.isEmpty
    | _ => none
  | _ => none
noncomputable def wTest (w : WE) : WT := fun ρ S Q => w ρ S fun d S1 => goB (tru S1 d) S1 Q
theorem emp_of {K : PySem.W.Frag} {H : Hp} {ds : List Dv} {vs : List V} (h : dens K H ds vs) : (!ds.isEmpty) = !vs.isEmpty := by
  have e := dens_len h
  cases ds <;> cases vs <;> simp_all
theorem tru_ok {K : PySem.W.Frag} {H : Hp} {S : Sto} {d : Dv} {v : V} {b : Bool} (st : StOk K H S) (hd : den K H d v) (e : tru S d = some b) : TruV K v H b := by
  cases d with
  | non => cases (show v = .non from hd); cases e; rfl
  | bl c => cases (show v = .bl c from hd); cases e; rfl
  | int i => cases (show v = .int i from hd); cases e; rfl
  | str x => cases e
  | tup ds =>
    obtain ⟨a, vs, rfl, h1, h2⟩ := (show ∃ a vs, v = .ref a ∧ TupAt K H a vs ∧ dens K H ds vs from hd)
    have h1 := h1.sq
    have e' : (!ds.isEmpty) = b := Option.some.inj e
    exact .inr (.inl ⟨vs, h1, by rw [← e', emp_of h2]⟩)
  | lst ds =>
    obtain ⟨a, o, vs, rfl, h1, h2⟩ := (show ∃ a o vs, v = .ref a ∧ H a = some (.frz o (.lst vs)) ∧ dens K H ds vs from hd)
    have e' : (!ds.isEmpty) = b := Option.some.inj e
    exact .inl ⟨vs, .inl (.inr ⟨o, h1⟩), by rw [← e', emp_of h2]⟩
  | scr ns =>
    obtain ⟨a, rfl, h1⟩ := (show ∃ a, v = .ref a ∧ SqR K H a (ns.map V.int) from hd)
    have e' : (!ns.isEmpty) = b := Option.some.inj e
    exact .inl ⟨_, h1.sq, by rw [← e']; cases ns <;> rfl⟩
  | ref a =>
    cases (show v = .ref a from hd)
    have e2 : (match S a with
      | some (.lst ds) => some !ds.isEmpty
      | _ => none) = some b := e
    split at e2
    · rename_i ds hs
      obtain ⟨vs, h1, h2⟩ := st a _ hs
      have e' : (!ds.isEmpty) = b := Option.some.inj e2
      exact .inl ⟨vs, .inl (.inl h1), by rw [← e', emp_of h2]⟩
    · cases e2
noncomputable def wAnd (a b : WT) : WT := fun ρ S Q => a ρ S fun c S1 => if c = true then b ρ S1 Q else Q false S1
noncomputable def wOr (a b : WT) : WT := fun ρ S Q => a ρ S fun c S1 => if c = true then Q true S1 else b ρ S1 Q
noncomputable def wNot (a : WT) : WT := fun ρ S Q => a ρ S fun c S1 => Q (!c) S1
noncomputable abbrev DW (X : Cx) (e : Expr) (w : WT) : Prop := PW X e (lT X.K w)
section
variable {X : Cx} {a b : Expr} {wa wb : WE} {pos : Pos} {f : F2b} {ta tb : WT} {rest : List Expr}
theorem de_cmp {op : CmpOp} (ho : OpR X (compareOp op) (rD X.K (asD f))) (ha : DE X a wa) (hb : DE X b wb) (hm : behindInMarks op b = false := by first | exact nobehind _ (by decide) (by decide) | rfl) : DE X (.Compare a [op] [b] pos) (wOp (asD f) wa wb) :=
  PE.weak (pe_cmpR ho ha hb hm) lift_op
theorem dt_cmp {op : CmpOp} (ho : OpR X (compareOp op) (rD X.K (asD f))) (ha : DE X a wa) (hb : DE X b wb) (hm : behindInMarks op b = false := by first | exact nobehind _ (by decide) (by decide) | rfl) : DT X (.Compare a [op] [b] pos) (wCmp f wa wb) :=
  PT.weak (pt_cmpR ho ha hb hm) lift_cmp
theorem dt_val (ha : DE X a wa) (he : ∀ whole, isTrue a X.env whole = (do let v ← whole; standAt a.pos; holding [v] (truthy v)) := by intro _; rfl) : DT X a (wTest wa) :=
  PT.weak (pt_truth ha he) fun σ H Q ⟨ρ, S, Q', env, st, hw, post⟩ => ⟨ρ, S, _, env, st, hw, fun d S' v H' q e st' hd => by
    obtain ⟨b, h1, h2⟩ := goB_inv q
    exact ⟨b, tru_ok st' hd h1, post b S' H' h2 e st'⟩⟩
theorem lift_and {K : PySem.W.Frag} (σ : L2.St) (H : Hp) (Q : Bool → Hp → Prop) (h : lT K (wAnd ta tb) σ H Q) : tAnd (lT K ta) (lT K tb) σ H Q := by
  obtain ⟨ρ, S, Q', env, st, hw, post⟩ := h
  refine ⟨ρ, S, _, env, st, hw, fun c S1 H1 q e st1 => ?_⟩
  cases c with
  | true => exact ⟨ρ, S1, Q', env.ext e, st1, q, fun b S2 H2 q2 e2 st2 => post b S2 H2 q2 (e.trans e2) st2⟩
  | false => exact post false S1 H1 q e st1
theorem lift_or {K : PySem.W.Frag} (σ : L2.St) (H : Hp) (Q : Bool → Hp → Prop) (h : lT K (wOr ta tb) σ H Q) : tOr (lT K ta) (lT K tb) σ H Q := by
  obtain ⟨ρ, S, Q', env, st, hw, post⟩ := h
  refine ⟨ρ, S, _, env, st, hw, fun c S1 H1 q e st1 => ?_⟩
  cases c with
  | false => exact ⟨ρ, S1, Q', env.ext e, st1, q, fun b S2 H2 q2 e2 st2 => post b S2 H2 q2 (e.trans e2) st2⟩
  | true => exact post true S1 H1 q e st1
theorem dw_and1 (ha : DT X a ta) : DW X (.BoolOp .And [a] pos) ta := pw_and1 ha
theorem dw_or1 (ha : DT X a ta) : DW X (.BoolOp .Or [a] pos) ta := pw_or1 ha
theorem dw_and (ha : DT X a ta) (hb : DW X (.BoolOp .And (b :: rest) pos) tb) : DW X (.BoolOp .And (a :: b :: rest) pos) (wAnd ta tb) := PW.weak (pw_and ha hb) lift_and
theorem dw_or (ha : DT X a ta) (hb : DW X (.BoolOp .Or (b :: rest) pos) tb) : DW X (.BoolOp .Or (a :: b :: rest) pos) (wOr ta tb) := PW.weak (pw_or ha hb) lift_or
theorem dt_w (h : DW X a ta) : DT X a ta := h _
theorem dt_not (ha : DT X a ta) : DT X (.UnaryOp .Not a pos) (wNot ta) :=
  PT.weak (pt_not ha) fun σ H Q ⟨ρ, S, Q', env, st, hw, post⟩ => ⟨ρ, S, _, env, st, hw, fun c S1 H1 q e st1 => post (!c) S1 H1 q e st1⟩
noncomputable def wAndV (a b : WE) : WE := fun ρ S Q => a ρ S fun x S1 => match x with
  | .bl true => b ρ S1 Q
  | .bl false => Q (.bl false) S1
  | _ => False
noncomputable def wNotV (a : WE) : WE := fun ρ S Q => a ρ S fun x S1 => match x with
  | .bl c => Q (.bl !c) S1
  | _ => False
theorem de_one {op} (h : DE X a wa) : DE X (.BoolOp op [a] pos) wa := pe_one h
theorem de_and (ha : DE X a wa) (hb : DE X (.BoolOp .And (b :: rest) pos) wb) : DE X (.BoolOp .And (a :: b :: rest) pos) (wAndV wa wb) :=
  PE.weak (pe_and ha hb) fun σ H Q ⟨ρ, S, Q', env, st, hw, post⟩ => ⟨ρ, S, _, env, st, hw, fun d S1 v H1 q e st1 hd => by
    cases d with
    | bl c =>
      cases (show v = .bl c from hd)
      cases c with
      | true => exact ⟨true, rfl, ρ, S1, Q', env.ext e, st1, q, fun d2 S2 v2 H2 q2 e2 st2 hd2 => post d2 S2 v2 H2 q2 (e.trans e2) st2 hd2⟩
      | false => exact ⟨false, rfl, post (.bl false) S1 _ H1 q e st1 rfl⟩
    | _ => exact (show False from q).elim⟩
theorem de_not (ha : DE X a wa) : DE X (.UnaryOp .Not a pos) (wNotV wa) :=
  PE.weak (pe_not ha) fun σ H Q ⟨ρ, S, Q', env, st, hw, post⟩ => ⟨ρ, S, _, env, st, hw, fun d S1 v H1 q e st1 hd => by
    cases d with
    | bl c =>
      cases (show v = .bl c from hd)
      exact ⟨c, rfl, post (.bl !c) S1 _ H1 q e st1 rfl⟩
    | _ => exact (show False from q).elim⟩
end
noncomputable def wNil : WA := fun _ S Q => Q [] S
noncomputable def wCons (a : WE) (r : WA) : WA := fun ρ S Q => a ρ S fun x S1 => r ρ S1 fun xs S2 => Q (x :: xs) S2
noncomputable def wTup (t : WA) : WE := fun ρ S Q => t ρ S fun ds S1 => ds.length ≤ 1000 ∧ Q (.tup ds) S1
noncomputable def wLst (t : WA) : WE := fun ρ S Q => t ρ S fun ds S1 => ds.length ≤ 1000 ∧ Q (.lst ds) S1
noncomputable def wLstM (t : WA) : WE := fun ρ S Q => t ρ S fun ds S1 => ds.length ≤ 1000 ∧ ∀ p, S1 p = none → Q (.ref p) (sset S1 p (.lst ds))
theorem small1 {n : Nat} (h : n ≤ 1000) : n ≤ sizeLine := Nat.le_of_lt (small1000 h)
section
variable {X : Cx} {e : Expr} {es : List Expr} {we : WE} {wr : WA} {pos : Pos}
theorem da_nil : DA X [] wNil := PA.weak pa_nil fun σ H Q ⟨ρ, S, Q', env, st, hw, post⟩ => post [] S [] H hw (Ext.refl H) st dens_nil
theorem da_cons (ha : DE X e we) (hr : DA X es wr) (hs : starEach (e :: es) X.env = (false, eval e X.env) :: starEach es X.env := by rfl) : DA X (e :: es) (wCons we wr) :=
  PA.weak (pa_cons ha hr hs) fun σ H Q ⟨ρ, S, Q', env, st, hw, post⟩ => ⟨ρ, S, _, env, st, hw, fun d S1 v H1 q e st1 hd =>
    ⟨ρ, S1, _, env.ext e, st1, q, fun ds S2 vs H2 q2 e2 st2 hds => post (d :: ds) S2 (v :: vs) H2 q2 (e.trans e2) st2 (dens_cons (den_ext e2 _ _ hd) hds)⟩⟩
theorem de_tup {x1} (h : DA X es wr) : DE X (.Tuple es x1 pos) (wTup wr) :=
  PE.weak (pe_tup h) fun σ H Q ⟨ρ, S, Q', env, st, hw, post⟩ => ⟨ρ, S, _, env, st, hw, fun ds S1 vs H1 q e st1 hds => by
    obtain ⟨hl, q⟩ := q
    refine ⟨by rw [dens_len hds]; exact small1 hl, fun p hp => ?_⟩
    have sm := same_new hp (.tup vs)
    exact post (.tup ds) S1 (.ref p) _ q (e.trans (ext_same sm)) (st1.same sm) ⟨p, vs, rfl, .inl upd_same, dens_ext (ext_same sm) _ _ hds⟩⟩
theorem Inv.freeze {pins : List (Addr × Obj)} {σ : L2.St} {H : Hp} {s : Shared} {a : Addr} {xs : List V} (I : Inv X pins σ H s) (h : H a = some (.lst xs)) :
    ∃ o, Inv X pins σ (upd H a (.frz o (.lst xs))) s := by
  obtain ⟨z, its, n, r, e⟩ := (show ObjOk X.prog X.w H s.heap a (.lst xs) from I.hok a _ h)
  refine ⟨{ cls := .type "list", data := .seq its.toArray n }, I.un (h' := s.heap) (t' := s.toks) ⟨fun b o q _ _ _ => q, fun b o q _ _ _ => ⟨_, q⟩, fun b o q n _ => ?_, fun b o q _ => ⟨_, q⟩, fun b ys q => ?_, fun b o u q => ?_, fun b ps q => ⟨#[], ?_⟩⟩ ?_⟩
  · rw [upd_ne (fun z => by rw [z, h] at n; cases n)]; exact n
  · rw [upd_ne (ne_of q h (by intro z; cases z))]; exact q
  · rw [upd_ne (ne_of q h (by intro z; cases z))]; exact q
  · rw [upd_ne (ne_of q h (by intro z; cases z)), Array.append_empty]; exact q
  · intro b u q
    by_cases hb : b = a
    · subst hb
      rw [upd_same] at q
      cases q
      exact ⟨e, z, its, n, r, e⟩
    · rw [upd_ne hb] at q
      refine (I.hok b u q).stay (fun c w _ hc => hc) (fun c hc => ?_) fun c ys hc => ?_
      · rw [upd_ne (ne_of hc h (by intro z; cases z))]; exact hc
      · rw [upd_ne (ne_of hc h (by intro z; cases z))]; exact hc
theorem PE.freeze {e : Expr} {t : TE} (h : PE X e t) : PE X e (fun σ H Q => t σ H fun v H1 => ∃ a xs, v = .ref a ∧ H1 a = some (.lst xs) ∧ ∀ o, Q v (upd H1 a (.frz o (.lst xs)))) := by
  intro pins s σ H Q I hw
  refine thn (h pins s σ H _ I hw) fun u s1 ⟨v, H1, I1, r1, a, xs, ev, ha, q⟩ => ?_
  obtain ⟨o, I2⟩ := Inv.freeze I1 ha
  exact ⟨v, _, I2, r1, q o⟩
theorem same_frz {H : Hp} {p : Addr} {xs : List V} {o : Obj} (hp : H p = none) : Same H (upd (upd H p (.lst xs)) p (.frz o (.lst xs))) := by
  rw [upd_upd]; exact same_new hp _
theorem de_lst (h : DA X es wr) : DE X (.List es pos) (wLst wr) :=
  PE.weak (PE.freeze (pe_lst h)) fun σ H Q ⟨ρ, S, Q', env, st, hw, post⟩ => ⟨ρ, S, _, env, st, hw, fun ds S1 vs H1 q e st1 hds => by
    obtain ⟨hl, q⟩ := q
    refine ⟨by rw [dens_len hds]; exact small1 hl, fun p hp => ⟨p, vs, rfl, upd_same, fun o => ?_⟩⟩
    have sm : Same H1 (upd (upd H1 p (.lst vs)) p (.frz o (.lst vs))) := same_frz hp
    exact post (.lst ds) S1 (.ref p) _ q (e.trans (ext_same sm)) (st1.same sm) ⟨p, o, vs, rfl, upd_same, dens_ext (ext_same sm) _ _ hds⟩⟩
theorem de_lstM (h : DA X es wr) : DE X (.List es pos) (wLstM wr) :=
  PE.weak (pe_lst h) fun σ H Q ⟨ρ, S, Q', env, st, hw, post⟩ => ⟨ρ, S, _, env, st, hw, fun ds S1 vs H1 q e st1 hds => by
    obtain ⟨hl, q⟩ := q
    refine ⟨by rw [dens_len hds]; exact small1 hl, fun p hp => ?_⟩
    have sm := same_new hp (.lst vs)
    exact post (.ref p) _ (.ref p) _ (q p (st1.free hp)) (e.trans (ext_same sm)) (st1.put (ext_same sm) ⟨vs, upd_same, dens_ext (ext_same sm) _ _ hds⟩) rfl⟩
end
end MQ
namespace MQ
open PySem PySem.Spec PyProof.Rows L2
noncomputable def wNext : WS := fun D ρ S => D.nx ρ S
noncomputable def wSeq (a b : WS) : WS := fun D ρ S => a { D with nx := b D } ρ S
noncomputable def wSet (i : Nat) (w : WE) : WS := fun D ρ S => w ρ S fun d S1 => D.nx (ρ.set i (some d)) S1
noncomputable def wRet (w : WE) : WS := fun D ρ S => w ρ S D.rt
noncomputable def wIf (c : WT) (a b : WS) : WS := fun D ρ S => c ρ S fun t S1 => if t = true then a D ρ S1 else b D ρ S1
noncomputable def wDrop (w : WE) : WS := fun D ρ S => w ρ S fun _ S1 => D.nx ρ S1
noncomputable def wNo : WS := fun _ _ _ => False
section
variable {X : Cx} {st : Stmt} {rest : List Stmt} {a b : WS} {e : Expr} {we : WE} {pos : Pos}
theorem dss_nil : DSs X [] wNext := PSs.weak pss_nil fun D σ H ⟨ρ, S, D', env, st, hw, dn⟩ => dn.nx ρ S σ H hw (Ext.refl H) env st
theorem lift_seq {K : PySem.W.Frag} (D : Ends) (σ : L2.St) (H : Hp) (h : lS K (wSeq a b) D σ H) : tSeq (lS K a) (lS K b) D σ H := by
  obtain ⟨ρ, S, D', env, st, hw, dn⟩ := h
  exact ⟨ρ, S, { D' with nx := b D' }, env, st, hw, ⟨fun ρ1 S1 σ1 H1 q e env1 st1 => ⟨ρ1, S1, D', env1, st1, q, dn.ext e⟩, dn.rt, dn.bk, dn.ct⟩⟩
theorem dss_cons (h1 : DS X st a) (h2 : DSs X rest b) : DSs X (st :: rest) (wSeq a b) := PSs.weak (pss_cons h1 h2) lift_seq
theorem dss_one (h1 : DS X st a) : DSs X [st] a := pss_one h1
theorem ds_no : DS X st wNo := fun _ _ _ _ _ _ h => by obtain ⟨_, _, _, _, _, z, _⟩ := h; exact z.elim
theorem ds_set {i : Nat} {x : Str} {pos' : Pos} (hN : X.N.Nodup) (he : DE X e we) (hi : X.N[i]? = some x := by rfl) (hx : Loc X.env.scope x := by first | exact Or.inl rfl | exact Or.inr rfl) (hs : swapsWith e (some (.Name x pos')) pos.line X.env = pure false := by rfl)
    (hf : X.fn x = true ∨ X.env.scope.names.lookup x = some .local := by first | exact .inl rfl | exact .inr rfl | assumption) : DS X (.Assign [.Name x pos'] e pos) (wSet i we) :=
  PS.weak (ps_set hN hi hx he hs hf) fun D σ H ⟨ρ, S, D', env, st, hw, dn⟩ => ⟨ρ, S, _, env, st, hw, fun d S1 v H1 q e st1 hd => dn.nx _ S1 _ H1 q e ((env.ext e).set hd) st1⟩
theorem ds_ret (he : DE X e we) : DS X (.Return (some e) pos) (wRet we) :=
  PS.weak (ps_ret he) fun D σ H ⟨ρ, S, D', env, st, hw, dn⟩ => ⟨ρ, S, _, env, st, hw, fun d S1 v H1 q e st1 hd => dn.rt d S1 v H1 q e st1 hd⟩
theorem ds_if {c : Expr} {as bs : List Stmt} {tc : WT} (hc : DT X c tc) (ha : DSs X as a) (hb : DSs X bs b) : DS X (.If c as bs pos) (wIf tc a b) :=
  PS.weak (ps_if hc ha hb) fun D σ H ⟨ρ, S, D', env, st, hw, dn⟩ => ⟨ρ, S, _, env, st, hw, fun t S1 H1 q e st1 => by
    cases t with
    | true => exact ⟨ρ, S1, D', env.ext e, st1, q, dn.ext e⟩
    | false => exact ⟨ρ, S1, D', env.ext e, st1, q, dn.ext e⟩⟩
theorem ds_drop (he : DE X e we) (hs : swapsWith e none pos.line X.env = pure false := by rfl) : DS X (.Expr e pos) (wDrop we) :=
  PS.weak (ps_expr he hs) fun D σ H ⟨ρ, S, D', env, st, hw, dn⟩ => ⟨ρ, S, _, env, st, hw, fun d S1 v H1 q e st1 hd => dn.nx ρ S1 σ H1 q e (env.ext e) st1⟩
end
noncomputable def whl (c : WT) (b : WS) (D : Dn) : Nat → Ev → Sto → Prop
  | 0, _, _ => False
  | n + 1, ρ, S => c ρ S fun t S1 => if t = true then b { D with nx := whl c b D n, ct := whl c b D n, bk := D.nx } ρ S1 else D.nx ρ S1
noncomputable def wWhile (c : WT) (b : WS) : WS := fun D ρ S => ∃ n, whl c b D n ρ S
theorem lift_while {K : PySem.W.Frag} {c : WT} {b : WS} (D : Ends) (σ : L2.St) (H : Hp) (h : lS K (wWhile c b) D σ H) : tWhile (lT K c) (lS K b) D σ H := by
  obtain ⟨ρ, S, D', env, st, ⟨n, hw⟩, dn⟩ := h
  refine ⟨fun m σ1 H1 => ∃ ρ1 S1, EnvOk K H1 ρ1 σ1 ∧ StOk K H1 S1 ∧ Ext H H1 ∧ whl c b D' m ρ1 S1, ⟨n, ρ, S, env, st, Ext.refl H, hw⟩, ?_⟩
  rintro m σ1 H1 ⟨ρ1, S1, env1, st1, e1, hw1⟩
  cases m with
  | zero => exact hw1.elim
  | succ m =>
    refine ⟨ρ1, S1, _, env1, st1, hw1, fun t S2 H2 q e2 st2 => ?_⟩
    cases t with
    | true =>
      refine ⟨fun σ3 H3 => ∃ ρ3 S3, EnvOk K H3 ρ3 σ3 ∧ StOk K H3 S3 ∧ Ext H H3 ∧ whl c b D' m ρ3 S3, fun σ3 H3 w3 => ⟨m, Nat.lt_succ_self m, w3⟩, ?_⟩
      refine ⟨ρ1, S2, _, env1.ext e2, st2, q, ⟨?_, ?_, ?_, ?_⟩⟩
      · exact fun ρ3 S3 σ3 H3 q3 e3 env3 st3 => ⟨ρ3, S3, env3, st3, (e1.trans e2).trans e3, q3⟩
      · exact fun d S3 v H3 q3 e3 st3 hd => dn.rt d S3 v H3 q3 ((e1.trans e2).trans e3) st3 hd
      · exact fun ρ3 S3 σ3 H3 q3 e3 env3 st3 => dn.nx ρ3 S3 σ3 H3 q3 ((e1.trans e2).trans e3) env3 st3
      · exact fun ρ3 S3 σ3 H3 q3 e3 env3 st3 => ⟨ρ3, S3, env3, st3, (e1.trans e2).trans e3, q3⟩
    | false => exact dn.nx ρ1 S2 σ1 H2 q (e1.trans e2) (env1.ext e2) st2
theorem ds_while {X : Cx} {c : Expr} {body : List Stmt} {tc : WT} {tb : WS} {pos : Pos} (hp : PassesOwn (model X.prog X.w) X.A X.env X.xe) (hc : DT X c tc) (hb : DSs X body tb) : DS X (.While c body [] pos) (wWhile tc tb) :=
  PS.weak (ps_while hp hc hb) lift_while
noncomputable def forL (i : Nat) (b : WS) (D : Dn) : List Dv → Ev → Sto → Prop
  | [], ρ, S => D.nx ρ S
  | x :: xs, ρ, S => b { D with nx := forL i b D xs, ct := forL i b D xs, bk := D.nx } (ρ.set i (some x)) S
noncomputable def roL : Dv → Option (List Dv)
  | .lst ds => some ds
  | .scr ns => some (ns.map .int)
  | _ => none
noncomputable def goL (o : Option (List Dv)) (Q : List Dv → Prop) : Prop := match o with
  | some ds => Q ds
  | none => False
noncomputable def wFor (i : Nat) (src : WE) (b : WS) : WS := fun D ρ S => src ρ S fun d S1 => goL (roL d) fun xs => forL i b D xs ρ S1
theorem roL_ok {K : PySem.W.Frag} {H : Hp} {d : Dv} {v : V} {ds : List Dv} (hd : den K H d v) (e : roL d = some ds) : ∃ a vs, v = .ref a ∧ SqR K H a vs ∧ dens K H ds vs := by
  cases d with
  | lst xs =>
    cases e
    obtain ⟨a, o, vs, h1, h2, h3⟩ := (show ∃ a o vs, v = .ref a ∧ H a = some (.frz o (.lst vs)) ∧ dens K H ds vs from hd)
    exact ⟨a, vs, h1, .inl ⟨o, h2⟩, h3⟩
  | scr ns =>
    cases e
    obtain ⟨a, h1, h2⟩ := (show ∃ a, v = .ref a ∧ SqR K H a (ns.map V.int) from hd)
    exact ⟨a, _, h1, h2, dens_ints ns⟩
  | _ => cases e
theorem goL_inv {o : Option (List Dv)} {Q : List Dv → Prop} (h : goL o Q) : ∃ ds, o = some ds ∧ Q ds := by
  cases o with
  | none => exact h.elim
  | some ds => exact ⟨ds, rfl, h⟩
theorem drop_cons' {α : Type} {xs : List α} {i : Nat} {x : α} (h : xs[i]? = some x) : xs.drop i = x :: xs.drop (i + 1) := by
  obtain ⟨h1, h2⟩ := List.getElem?_eq_some_iff.mp h
  rw [List.drop_eq_getElem_cons h1, h2]
inductive LoopAt (K : PySem.W.Frag) (H1 : Hp) (p : Ev → Sto → Prop) (σ2 : L2.St) (H2 : Hp) : Prop
  | mk (ρ2 : Ev) (S2 : Sto) (env : EnvOk K H2 ρ2 σ2) (st : StOk K H2 S2) (e : Ext H1 H2) (q : p ρ2 S2) : LoopAt K H1 p σ2 H2
theorem lift_for {K : PySem.W.Frag} {i : Nat} {src : WE} {b : WS} (D : Ends) (σ : L2.St) (H : Hp) (h : lS K (wFor i src b) D σ H) : tFor (iList K (lE K src)) (gName i) (lS K b) D σ H := by
  obtain ⟨ρ, S, D', env, st, hw, dn⟩ := h
  refine ⟨ρ, S, _, env, st, hw, fun d S1 v H1 q e st1 hd => ?_⟩
  obtain ⟨ds, hds, q⟩ := goL_inv q
  obtain ⟨a, vs, rfl, hq, hv⟩ := roL_ok hd hds
  refine ⟨a, rfl, ⟨vs, hq.sq⟩, ?_⟩
  refine for_list (K := K) (a := a) (xs := vs) (fun j σ2 H2 => LoopAt K H1 (forL i b D' (ds.drop j)) σ2 H2) ⟨ρ, S1, env.ext e, st1, Ext.refl _, q⟩ (fun j σ2 H2 _ ⟨_, _, _, _, e2, _⟩ => (e2.sqR hq).sq) ?_ ?_
  · rintro j x σ2 H2 hx ⟨ρ2, S2, env2, st2, e2, q2⟩
    obtain ⟨y, hy, dy⟩ := dens_get' hv hx
    rw [drop_cons' hy] at q2
    have dy' := den_ext e2 _ _ dy
    refine ⟨ρ2.set i (some y), S2, _, env2.set dy', st2, q2, ⟨?_, ?_, ?_, ?_⟩⟩
    · exact fun ρ3 S3 σ3 H3 q3 e3 env3 st3 => ⟨ρ3, S3, env3, st3, e2.trans e3, q3⟩
    · exact fun d S3 v H3 q3 e3 st3 hd => dn.rt d S3 v H3 q3 ((e.trans e2).trans e3) st3 hd
    · exact fun ρ3 S3 σ3 H3 q3 e3 env3 st3 => dn.nx ρ3 S3 σ3 H3 q3 ((e.trans e2).trans e3) env3 st3
    · exact fun ρ3 S3 σ3 H3 q3 e3 env3 st3 => ⟨ρ3, S3, env3, st3, e2.trans e3, q3⟩
  · rintro σ2 H2 ⟨ρ2, S2, env2, st2, e2, q2⟩
    rw [List.drop_eq_nil_of_le (by rw [dens_len hv]; exact Nat.le_refl _)] at q2
    exact dn.nx ρ2 S2 σ2 H2 q2 (e.trans e2) env2 st2
theorem ds_for {X : Cx} {i : Nat} {x : Str} {iter : Expr} {body : List Stmt} {src : WE} {tb : WS} {pos px : Pos} (hp : PassesOwn (model X.prog X.w) X.A X.env X.xe) (hN : X.N.Nodup) (hi : DE X iter src) (hb : DSs X body tb) (hc : X.calm = true := by rfl)
    (hix : X.N[i]? = some x := by rfl) (hx : Loc X.env.scope x := by first | exact Or.inl rfl | exact Or.inr rfl) (hf : X.fn x = true ∨ X.env.scope.names.lookup x = some .local := by first | exact .inl rfl | exact .inr rfl | assumption)
    (hs : ∀ x, foldedSetIterable iter X.env x = pure x := by intro _; rfl) : DS X (.For (.Name x px) iter body [] pos) (wFor i src tb) :=
  PS.weak (ps_for hp hc (pi_list hi) (pg_name hN hix hx hf) hb hs) lift_for
noncomputable def forR (i : Nat) (b : WS) (D : Dn) : Nat → Int → Ev → Sto → Prop
  | 0, _, ρ, S => D.nx ρ S
  | n + 1, k, ρ, S => b { D with nx := forR i b D n (k + 1), ct := forR i b D n (k + 1), bk := D.nx } (ρ.set i (some (.int k))) S
noncomputable def goR1 (l : List Dv) (Q : Int → Prop) : Prop := match l with
  | [.int j] => (-(2 ^ 62) ≤ j ∧ j < 2 ^ 62) ∧ Q j
  | _ => False
noncomputable def goR2 (l : List Dv) (Q : Int → Int → Prop) : Prop := match l with
  | [.int i, .int j] => (-(2 ^ 62) ≤ i ∧ i < 2 ^ 62 ∧ -(2 ^ 62) ≤ j ∧ j < 2 ^ 62) ∧ Q i j
  | _ => False
noncomputable def wForR1 (i : Nat) (t : WA) (b : WS) : WS := fun D ρ S => t ρ S fun l S1 => goR1 l fun j => forR i b D j.toNat 0 ρ S1
noncomputable def wForR2 (i : Nat) (t : WA) (b : WS) : WS := fun D ρ S => t ρ S fun l S1 => goR2 l fun lo j => forR i b D (j - lo).toNat lo ρ S1
theorem goR1_inv {l : List Dv} {Q : Int → Prop} (h : goR1 l Q) : ∃ j, l = [.int j] ∧ (-(2 ^ 62) ≤ j ∧ j < 2 ^ 62) ∧ Q j := by
  unfold goR1 at h
  split at h
  · exact ⟨_, rfl, h⟩
  · exact h.elim
theorem goR2_inv {l : List Dv} {Q : Int → Int → Prop} (h : goR2 l Q) : ∃ i j, l = [.int i, .int j] ∧ (-(2 ^ 62) ≤ i ∧ i < 2 ^ 62 ∧ -(2 ^ 62) ≤ j ∧ j < 2 ^ 62) ∧ Q i j := by
  unfold goR2 at h
  split at h
  · exact ⟨_, _, rfl, h⟩
  · exact h.elim
theorem forR_run {K : PySem.W.Frag} {i : Nat} {b : WS} {D' : Dn} {D : Ends} {σ : L2.St} {H H1 : Hp} {ρ : Ev} {S : Sto} {lo : Int} {n : Nat} (dn : DnOk K H D' D) (e : Ext H H1) (env : EnvOk K H1 ρ σ) (st : StOk K H1 S) (q : forR i b D' n lo ρ S) :
    ∃ W : Nat → Nat → L2.St → Hp → Prop, (∃ m, W 0 m σ H1) ∧ ∀ i' m σ H, W i' m σ H →
      ((Itr lo n).stop i' H ∧ D.nx σ H) ∨ ((Itr lo n).go i' H ∧ ∃ N : L2.St → Hp → Prop, (∀ σ' H', N σ' H' → ∃ m', m' < m ∧ W (i' + 1) m' σ' H') ∧ ∀ x H', (Itr lo n).yld i' H x H' → gName i x σ H' fun σ2 H2 => lS K b { D with nx := N, ct := N, bk := D.nx } σ2 H2) := by
  refine for_range (lo := lo) (n := n) (fun j σ2 H2 => LoopAt K H1 (forR i b D' (n - j) (lo + j)) σ2 H2) ⟨ρ, S, env, st, Ext.refl _, by simpa using q⟩ ?_ ?_
  · rintro j σ2 H2 hj ⟨ρ2, S2, env2, st2, e2, q2⟩
    have hn : n - j = (n - (j + 1)) + 1 := by omega
    have hz : lo + j + 1 = lo + ((j + 1 : Nat) : Int) := by omega
    rw [hn] at q2
    refine ⟨ρ2.set i (some (.int (lo + j))), S2, _, env2.set (d := .int (lo + j)) (v := .int (lo + j)) rfl, st2, q2, ⟨?_, ?_, ?_, ?_⟩⟩
    · exact fun ρ3 S3 σ3 H3 q3 e3 env3 st3 => ⟨ρ3, S3, env3, st3, e2.trans e3, hz ▸ q3⟩
    · exact fun d S3 v H3 q3 e3 st3 hd => dn.rt d S3 v H3 q3 ((e.trans e2).trans e3) st3 hd
    · exact fun ρ3 S3 σ3 H3 q3 e3 env3 st3 => dn.nx ρ3 S3 σ3 H3 q3 ((e.trans e2).trans e3) env3 st3
    · exact fun ρ3 S3 σ3 H3 q3 e3 env3 st3 => ⟨ρ3, S3, env3, st3, e2.trans e3, hz ▸ q3⟩
  · rintro σ2 H2 ⟨ρ2, S2, env2, st2, e2, q2⟩
    rw [Nat.sub_self] at q2
    exact dn.nx ρ2 S2 σ2 H2 q2 (e.trans e2) env2 st2
theorem den_int1 {K : PySem.W.Frag} {H : Hp} {j : Int} {vs : List V} (h : dens K H [.int j] vs) : vs = [.int j] := by
  obtain ⟨v, r, rfl, h2, h3⟩ := (show ∃ v r, vs = v :: r ∧ den K H (.int j) v ∧ dens K H [] r from h)
  cases (show v = .int j from h2); cases (show r = [] from h3); rfl
theorem den_int2 {K : PySem.W.Frag} {H : Hp} {i j : Int} {vs : List V} (h : dens K H [.int i, .int j] vs) : vs = [.int i, .int j] := by
  obtain ⟨v, r, rfl, h2, h3⟩ := (show ∃ v r, vs = v :: r ∧ den K H (.int i) v ∧ dens K H [.int j] r from h)
  cases (show v = .int i from h2); rw [den_int1 h3]
theorem ds_forR1 {X : Cx} {i : Nat} {x : Str} {a : Expr} {body : List Stmt} {t : WA} {tb : WS} {pos px pc pr : Pos} (hp : PassesOwn (model X.prog X.w) X.A X.env X.xe) (hN : X.N.Nodup) (hm : X.mg "range" = none) (ha : DA X [a] t) (hb : DSs X body tb) (hc : X.calm = true := by rfl)
    (hg : Gl X "range" := by rfl) (hix : X.N[i]? = some x := by rfl) (hx : Loc X.env.scope x := by first | exact Or.inl rfl | exact Or.inr rfl) (hf : X.fn x = true ∨ X.env.scope.names.lookup x = some .local := by first | exact .inl rfl | exact .inr rfl | assumption)
    (hst : starEach [a] X.env = [(false, eval a X.env)] := by rfl) (hs : ∀ x, foldedSetIterable (.Call (.Name "range" pr) [a] [] pc) X.env x = pure x := by intro _; rfl) : DS X (.For (.Name x px) (.Call (.Name "range" pr) [a] [] pc) body [] pos) (wForR1 i t tb) :=
  PS.weak (ps_for hp hc (pi_range1 hg hm ha hst) (pg_name hN hix hx hf) hb hs) fun D σ H ⟨ρ, S, D', env, st, hw, dn⟩ => ⟨ρ, S, _, env, st, hw, fun ds S1 vs H1 q e st1 hd => by
    obtain ⟨j, rfl, ⟨h1, h2⟩, q⟩ := goR1_inv q
    rw [den_int1 hd]
    exact ⟨j, rfl, h1, h2, forR_run dn e (env.ext e) st1 q⟩⟩
theorem ds_forR2 {X : Cx} {i : Nat} {x : Str} {a c : Expr} {body : List Stmt} {t : WA} {tb : WS} {pos px pc pr : Pos} (hp : PassesOwn (model X.prog X.w) X.A X.env X.xe) (hN : X.N.Nodup) (hm : X.mg "range" = none) (ha : DA X [a, c] t) (hb : DSs X body tb) (hc : X.calm = true := by rfl)
    (hg : Gl X "range" := by rfl) (hix : X.N[i]? = some x := by rfl) (hx : Loc X.env.scope x := by first | exact Or.inl rfl | exact Or.inr rfl) (hf : X.fn x = true ∨ X.env.scope.names.lookup x = some .local := by first | exact .inl rfl | exact .inr rfl | assumption)
    (hst : starEach [a, c] X.env = [(false, eval a X.env), (false, eval c X.env)] := by rfl) (hst2 : starEach [c] X.env = [(false, eval c X.env)] := by rfl)
    (hs : ∀ x, foldedSetIterable (.Call (.Name "range" pr) [a, c] [] pc) X.env x = pure x := by intro _; rfl) : DS X (.For (.Name x px) (.Call (.Name "range" pr) [a, c] [] pc) body [] pos) (wForR2 i t tb) :=
  PS.weak (ps_for hp hc (pi_range2 hg hm ha hst hst2) (pg_name hN hix hx hf) hb hs) fun D σ H ⟨ρ, S, D', env, st, hw, dn⟩ => ⟨ρ, S, _, env, st, hw, fun ds S1 vs H1 q e st1 hd => by
    obtain ⟨lo, j, rfl, h1, q⟩ := goR2_inv q
    rw [den_int2 hd]
    exact ⟨lo, j, rfl, h1, forR_run dn e (env.ext e) st1 q⟩⟩
noncomputable abbrev Ds := List Dv → Sto → QE → Prop
inductive lSp (K : PySem.W.Frag) (sp : Ds) (vs : List V) (H : Hp) (Q : VK) (E : XK) : Prop
  | mk (ds : List Dv) (S : Sto) (Q' : QE) (hds : dens K H ds vs) (st : StOk K H S) (hs : sp ds S Q') (post : ∀ d S' v H', Q' d S' → Ext H H' → StOk K H' S' → den K H' d v → Q v H') : lSp K sp vs H Q E
noncomputable def wCall (sp : Ds) (t : WA) : WE := fun ρ S Q => t ρ S fun ds S1 => sp ds S1 Q
theorem lift_call {K : PySem.W.Frag} {sp : Ds} {t : WA} (σ : L2.St) (H : Hp) (Q : VK) (h : lE K (wCall sp t) σ H Q) : tCall (lSp K sp) [] E0 (lA K t) σ H Q := by
  obtain ⟨ρ, S, Q', env, st, hw, post⟩ := h
  refine ⟨ρ, S, _, env, st, hw, fun ds S1 vs H1 q e st1 hds => ?_⟩
  show lSp K sp (vs ++ []) H1 Q E0
  rw [List.append_nil]
  exact ⟨ds, S1, Q', hds, st1, q, fun d S2 v H2 q2 e2 st2 hd => post d S2 v H2 q2 (e.trans e2) st2 hd⟩
section
variable {X : Cx} {k : Nat} {f : Addr} {fd : FuncData} {ps : List Str} {sp : Ds} {x : Str} {p pos : Pos} {e : Expr} {es : List Expr} {t : WA}
structure Has (P : Program) (w : World) (K : PySem.W.Frag) (mg : Str → Option Value) (base : Heap) (k : Nat) (x : Str) (ps : List Str) (sp : Ds) : Prop where
  ex : ∃ (f : Addr) (fd : FuncData), FnOk P w K mg base CX0 k f fd ps (lSp K sp) ∧ mg x = some (.ref f) ∧ PySem.W.keepIn K (.ref f) = true ∧ Binds K fd ps []
theorem de_call (G : Has X.prog X.w X.K X.mg X.base k x ps sp) (hr : Room k X.A) (ha : DA X (e :: es) t) (hg : Gl X x := by rfl) (hdb : (x == ("__debug__" : Str)) = false := by decide)
    (he : starEach (e :: es) X.env = (false, eval e X.env) :: starEach es X.env := by rfl) (hpl : (backTo pos (starEach es X.env)).any (·.1) = false := by rfl) : DE X (.Call (.Name x p) (e :: es) [] pos) (wCall sp t) := by
  obtain ⟨f, fd, F, hm, hk, hb⟩ := G.ex
  exact PE.weak (pe_call F hr hg hm hk hb .nil pass0 ha hdb he hpl) lift_call
end
noncomputable def ent (n : Nat) (ds : List Dv) : Ev := ds.map some ++ List.replicate (n - ds.length) none
theorem ent_ok {K : PySem.W.Frag} {H : Hp} {N : List Str} {ds : List Dv} {vs : List V} (h : dens K H ds vs) : EnvOk K H (ent N.length ds) (L2.start N vs) := by
  have hl := dens_len h
  refine ⟨by unfold ent L2.start; simp [hl], fun i d q => ?_⟩
  unfold ent at q
  unfold L2.start
  by_cases hi : i < ds.length
  · rw [List.getElem?_append_left (by simpa using hi), List.getElem?_map] at q
    cases e : ds[i]? with
    | none => rw [e] at q; cases q
    | some d' =>
      rw [e] at q
      have q' : d' = d := Option.some.inj (Option.some.inj q)
      subst q'
      obtain ⟨v, h1, h2⟩ := dens_get h e
      refine ⟨v, ?_, h2⟩
      rw [List.getElem?_append_left (by rw [List.length_map, hl]; exact hi), List.getElem?_map, h1]
      rfl
  · rw [List.getElem?_append_right (by simpa using hi), List.getElem?_replicate] at q
    split at q <;> cases q
section
variable {P : Program} {w : World} {K : PySem.W.Frag} {mg : Str → Option Value} {base : Heap}
noncomputable abbrev cxD (P : Program) (w : World) (K : PySem.W.Frag) (mg : Str → Option Value) (base : Heap) (N : List Str) (qual : Str) (st : Stmt) (f : Addr) (cdv : Value) (A : Around) (outer : List Env) (s : Shared) (H : Hp) (E : XK) : Cx :=
  (cxOf CX0 P w K mg base N qual (defScope st) f cdv A outer s H E).nox
theorem fn_ok {x : Str} {st : Stmt} {f : Addr} {fd : FuncData} {N ps : List Str} {k : Nat} {sp : Ds} {ws : WS} (F : Fun K x x st f fd) (S : FnScope N ps (defScope st))
    (len : ∀ ds S Q, sp ds S Q → ds.length = ps.length)
    (link : ∀ (cdv : Value) (A : Around) (outer : List Env) (s : Shared) (H : Hp) (E : XK), Room k (cxD P w K mg base N x st f cdv A outer s H E).A → DSs (cxD P w K mg base N x st f cdv A outer s H E) (defBody st) ws)
    (ok : ∀ ds S Q, sp ds S Q → ws { nx := fun _ S' => Q .non S', rt := Q } (ent N.length ds) S) : FnOk P w K mg base CX0 (k + 1) f fd ps (lSp K sp) := by
  refine F.ok S (fun vs H Q E h => ?_) (fun cdv A outer s H vs Q E hr h => ?_)
  · obtain ⟨ds, S', Q', h1, _, h2, _⟩ := h
    rw [dens_len h1]
    exact len ds S' Q' h2
  · obtain ⟨ds, S', Q', h1, h2, h3, h4⟩ := h
    refine ⟨_, link cdv A outer s H E hr, ent N.length ds, S', _, ent_ok h1, h2, ok ds S' Q' h3, ⟨?_, ?_, ?_, ?_⟩⟩
    · exact fun ρ S2 σ H2 q e _ st => h4 .non S2 .non H2 q e st rfl
    · exact fun d S2 v H2 q e st hd => h4 d S2 v H2 q e st hd
    · exact fun _ _ _ _ q _ _ _ => q
    · exact fun _ _ _ _ q _ _ _ => q
theorem fn_has {x : Str} {st : Stmt} {f : Addr} {fd : FuncData} {N ps : List Str} {k : Nat} {sp : Ds} {ws : WS} (F : Fun K x x st f fd) (hm : mg x = some (.ref f)) (hb : Binds K fd ps []) (S : FnScope N ps (defScope st))
    (len : ∀ ds S Q, sp ds S Q → ds.length = ps.length)
    (link : ∀ (cdv : Value) (A : Around) (outer : List Env) (s : Shared) (H : Hp) (E : XK), Room k (cxD P w K mg base N x st f cdv A outer s H E).A → DSs (cxD P w K mg base N x st f cdv A outer s H E) (defBody st) ws)
    (ok : ∀ ds S Q, sp ds S Q → ws { nx := fun _ S' => Q .non S', rt := Q } (ent N.length ds) S) : Has P w K mg base (k + 1) x ps sp :=
  ⟨f, fd, fn_ok F S len link ok, hm, F.kp, hb⟩
end
end MQ
namespace MQ
open PySem PySem.Spec PyProof.Rows L2
theorem len_us0 {P : List Value → Prop} (h : P []) (us : List Value) (hl : us.length = 0) : P us := by
  cases us with
  | nil => exact h
  | cons a t => cases hl
theorem len_us1 {P : List Value → Prop} (h : ∀ a, P [a]) (us : List Value) (hl : us.length = 1) : P us := by
  cases us with
  | nil => cases hl
  | cons a t => exact len_us0 (P := fun t => P (a :: t)) (h a) t (Nat.succ.inj hl)
theorem len_us2 {P : List Value → Prop} (h : ∀ a b, P [a, b]) (us : List Value) (hl : us.length = 2) : P us := by
  cases us with
  | nil => cases hl
  | cons a t => exact len_us1 (P := fun t => P (a :: t)) (h a) t (Nat.succ.inj hl)
theorem len_us3 {P : List Value → Prop} (h : ∀ a b c, P [a, b, c]) (us : List Value) (hl : us.length = 3) : P us := by
  cases us with
  | nil => cases hl
  | cons a t => exact len_us2 (P := fun t => P (a :: t)) (h a) t (Nat.succ.inj hl)
theorem len_us4 {P : List Value → Prop} (h : ∀ a b c d, P [a, b, c, d]) (us : List Value) (hl : us.length = 4) : P us := by
  cases us with
  | nil => cases hl
  | cons a t => exact len_us3 (P := fun t => P (a :: t)) (h a) t (Nat.succ.inj hl)
end MQ
namespace MQ
open PySem PySem.Spec PyProof.Rows L2
noncomputable def lim : Nat := 1000000
theorem lim_le {n : Nat} (h : n ≤ lim) : n ≤ sizeLine := Nat.le_trans h (by unfold lim; decide)
noncomputable def oAdd : F2 := fun _ x y => match x, y with
  | .int i, .int j => some (.int (i + j))
  | .str a, .str b => if a.length + b.length ≤ lim then some (.str (a ++ b)) else none
  | .lst a, .lst b => if a.length + b.length ≤ lim then some (.lst (a ++ b)) else none
  | _, _ => none
noncomputable def oSub : F2 := fun _ x y => match x, y with
  | .int i, .int j => some (.int (i - j))
  | _, _ => none
noncomputable instance (i j : Int) : Decidable (IntMulOk i j) := by unfold IntMulOk; infer_instance
noncomputable instance (i j : Int) : Decidable (CDiv i j) := by unfold CDiv; infer_instance
@[irreducible] noncomputable def mulOk (i j : Int) : Bool := decide (IntMulOk i j)
@[irreducible] noncomputable def divOk (i j : Int) : Bool := decide (CDiv i j)
theorem mulOk_of {i j : Int} (h : CMul i j) : mulOk i j = true := by unfold mulOk; exact decide_eq_true h.ok
theorem of_mulOk {i j : Int} (h : mulOk i j = true) : IntMulOk i j := by unfold mulOk at h; exact of_decide_eq_true h
theorem divOk_of {i j : Int} (h : CDiv i j) : divOk i j = true := by unfold divOk; exact decide_eq_true h
theorem of_divOk {i j : Int} (h : divOk i j = true) : CDiv i j := by unfold divOk at h; exact of_decide_eq_true h
noncomputable def strRep (x : Str) (n : Int) : Str := ⟨(List.replicate n.toNat x.cps).foldl (· ++ ·) #[]⟩
noncomputable def oMul : F2 := fun _ x y => match x, y with
  | .int i, .int j => if mulOk i j = true then some (.int (i * j)) else none
  | .str a, .int n => if 2 ≤ n ∧ n ≤ 1000 ∧ 1 ≤ a.length ∧ a.length ≤ 1000 ∧ (strRep a n).length ≤ lim then some (.str (strRep a n)) else none
  | _, _ => none
noncomputable def oMod : F2 := fun _ x y => match x, y with
  | .int i, .int j => if 0 < j then some (.int (i % j)) else none
  | _, _ => none
noncomputable def oDiv : F2 := fun _ x y => match x, y with
  | .int i, .int j => if divOk i j = true then some (.int (i / j)) else none
  | _, _ => none
section
variable {X : Cx}
theorem rD_int {K : PySem.W.Frag} {H : Hp} {i : Int} {v : V} (h : den K H (.int i) v) : v = .int i := h
theorem rD_str {K : PySem.W.Frag} {H : Hp} {i : Str} {v : V} (h : den K H (.str i) v) : v = .str i := h
theorem rD_lst {K : PySem.W.Frag} {H : Hp} {ds : List Dv} {v : V} (h : den K H (.lst ds) v) : ∃ a o vs, v = .ref a ∧ H a = some (.frz o (.lst vs)) ∧ dens K H ds vs := h
theorem rD_tupA {K : PySem.W.Frag} {H : Hp} {ds : List Dv} {v : V} (h : den K H (.tup ds) v) : ∃ a vs, v = .ref a ∧ TupAt K H a vs ∧ dens K H ds vs := h
theorem rD_tup {K : PySem.W.Frag} {H : Hp} {ds : List Dv} {v : V} (h : den K H (.tup ds) v) : ∃ a vs, v = .ref a ∧ SqT K H a vs ∧ dens K H ds vs := let ⟨a, vs, e, h1, h2⟩ := rD_tupA h; ⟨a, vs, e, h1.sq, h2⟩
theorem rD_scr {K : PySem.W.Frag} {H : Hp} {ns : List Int} {v : V} (h : den K H (.scr ns) v) : ∃ a, v = .ref a ∧ SqR K H a (ns.map V.int) := h
theorem Inv.frzL {pins : List (Addr × Obj)} {σ : L2.St} {H : Hp} {s : Shared} {a : Addr} {o : Obj} {xs : List V} (I : Inv X pins σ H s) (h : H a = some (.frz o (.lst xs))) :
    xs.length ≤ sizeLine ∧ ∃ (its : List Value) (n : Nat), Vals xs its ∧ s.heap.get? a = some { cls := .type "list", data := .seq its.toArray n } := by
  obtain ⟨_, z, its, n, r, e⟩ := (show ObjOk X.prog X.w H s.heap a (.frz o (.lst xs)) from I.hok a _ h)
  exact ⟨z, its, n, r, e⟩
theorem lay_lst {pins : List (Addr × Obj)} {σ : L2.St} {H : Hp} {s : Shared} {its : List Value} {vs : List V} {ds : List Dv} {Q : VK} {t' : Nat} (I : Inv X pins σ H s) (r : Vals vs its) (hz : vs.length ≤ sizeLine) (hd : dens X.K H ds vs)
    (q : ∀ z H', Same H H' → den X.K H' (.lst ds) z → Q z H') : EP X pins σ Q (.ref s.heap.objs.size) { s with heap := s.heap.push { cls := .type "list", data := .seq its.toArray }, toks := t' } := by
  have I1 := I.lnew (t' := t') r hz
  obtain ⟨o, I2⟩ := Inv.freeze I1 upd_same
  have sm : Same H (upd (upd H s.heap.objs.size (.lst vs)) s.heap.objs.size (.frz o (.lst vs))) := same_frz I.fresh
  exact ⟨.ref s.heap.objs.size, _, I2, rfl, q _ _ sm ⟨_, o, vs, rfl, upd_same, dens_ext (ext_same sm) _ _ hd⟩⟩
theorem v_add : OpR X (binaryOp .Add) (rD X.K oAdd) := by
  intro pins s σ H x y v u Q I rx ry ⟨S, dx, dy, d, st, hx, hy, hf, q⟩
  cases dx with
  | int i =>
    cases dy with
    | int j =>
      cases (rD_int hx); cases (rD_int hy); cases hf
      exact op_add pins s σ H _ _ v u Q I rx ry ⟨i, j, rfl, rfl, q _ H (Same.refl H) rfl⟩
    | _ => cases hf
  | str i =>
    cases dy with
    | str j =>
      cases (rD_str hx); cases (rD_str hy)
      simp only [oAdd] at hf
      split at hf
      · rename_i hl
        cases hf
        exact op_add_str pins s σ H _ _ v u Q I rx ry ⟨i, j, rfl, rfl, lim_le hl, q _ H (Same.refl H) rfl⟩
      · cases hf
    | _ => cases hf
  | lst xs =>
    cases dy with
    | lst ys =>
      obtain ⟨a, o, vs, rfl, h1, h2⟩ := rD_lst hx
      obtain ⟨b, o', us, rfl, h3, h4⟩ := rD_lst hy
      simp only [oAdd] at hf
      split at hf
      · rename_i hl
        cases hf
        cases rx
        cases ry
        obtain ⟨z, its, n, r, e⟩ := Inv.frzL I h1
        obtain ⟨z2, its2, n2, r2, e2⟩ := Inv.frzL I h3
        have l1 := r.length
        have l2 := r2.length
        have l3 := dens_len h2
        have l4 := dens_len h4
        have hl' := lim_le hl
        refine PySem.P.add_list e e2 ?_ (by rw [List.size_toArray, List.size_toArray]; omega)
        have ea : its.toArray ++ its2.toArray = (its ++ its2).toArray := by simp
        rw [ea]
        exact lay_lst I (r.append r2) (by rw [List.length_append]; omega) (dens_append h2 h4) q
      · cases hf
    | _ => cases hf
  | _ => cases hf
theorem v_sub : OpR X (binaryOp .Sub) (rD X.K oSub) := by
  intro pins s σ H x y v u Q I rx ry ⟨S, dx, dy, d, st, hx, hy, hf, q⟩
  cases dx with
  | int i =>
    cases dy with
    | int j =>
      cases (rD_int hx); cases (rD_int hy); cases hf
      exact op_sub pins s σ H _ _ v u Q I rx ry ⟨i, j, rfl, rfl, q _ H (Same.refl H) rfl⟩
    | _ => cases hf
  | _ => cases hf
theorem op_mulI : OpR X (binaryOp .Mult) (rI IntMulOk fun i j => .int (i * j)) := opI fun _ _ _ _ _ _ _ hc q => mul_int q hc
theorem v_mul : OpR X (binaryOp .Mult) (rD X.K oMul) := by
  intro pins s σ H x y v u Q I rx ry ⟨S, dx, dy, d, st, hx, hy, hf, q⟩
  cases dx with
  | int i =>
    cases dy with
    | int j =>
      cases (rD_int hx); cases (rD_int hy)
      simp only [oMul] at hf
      split at hf
      · rename_i hc
        cases hf
        exact op_mulI pins s σ H _ _ v u Q I rx ry ⟨i, j, rfl, rfl, of_mulOk hc, q _ H (Same.refl H) rfl⟩
      · cases hf
    | _ => cases hf
  | str a =>
    cases dy with
    | int n =>
      cases (rD_str hx); cases (rD_int hy)
      simp only [oMul] at hf
      split at hf
      · rename_i hc
        obtain ⟨h1, h2, h3, h4, h5⟩ := hc
        cases hf
        obtain ⟨t, rfl⟩ := rx
        obtain ⟨t', rfl⟩ := ry
        have hn1 : ¬ n < 1 := by omega
        have hn2 : (n == 1 || a.length == 0) = false := by
          rw [Bool.or_eq_false_iff]
          exact ⟨beq_false_of_ne (by omega), beq_false_of_ne (by omega)⟩
        have hmul : a.length * n.toNat ≤ 1000 * 1000 := Nat.mul_le_mul h4 (by omega)
        refine PySem.P.mul_str ?_ (fun _ _ => ?_) (fun _ _ => ?_) ?_
        · rw [decide_eq_false (by omega), decide_eq_false (by omega)]; rfl
        · have : (2 ^ 63 - 1 : Int) / n ≥ 1000 := by
            refine Int.le_ediv_of_mul_le (by omega) ?_
            omega
          omega
        · have hbig : (1000 * 1000 : Nat) ≤ sizeLine := by decide
          exact decide_eq_false (Nat.not_lt.mpr (Nat.le_trans hmul hbig))
        · rw [if_neg hn1, if_neg (by rw [hn2]; exact Bool.false_ne_true)]
          exact ⟨lim_le h5, ⟨.str (strRep a n), H, I.tok _, ⟨_, rfl⟩, q _ H (Same.refl H) rfl⟩⟩
      · cases hf
    | _ => cases hf
  | _ => cases hf
theorem v_mod : OpR X (binaryOp .Mod) (rD X.K oMod) := by
  intro pins s σ H x y v u Q I rx ry ⟨S, dx, dy, d, st, hx, hy, hf, q⟩
  cases dx with
  | int i =>
    cases dy with
    | int j =>
      cases (rD_int hx); cases (rD_int hy)
      simp only [oMod] at hf
      split at hf
      · rename_i hc
        cases hf
        exact op_mod pins s σ H _ _ v u Q I rx ry ⟨i, j, rfl, rfl, hc, q _ H (Same.refl H) rfl⟩
      · cases hf
    | _ => cases hf
  | _ => cases hf
theorem v_div : OpR X (binaryOp .FloorDiv) (rD X.K oDiv) := by
  intro pins s σ H x y v u Q I rx ry ⟨S, dx, dy, d, st, hx, hy, hf, q⟩
  cases dx with
  | int i =>
    cases dy with
    | int j =>
      cases (rD_int hx); cases (rD_int hy)
      simp only [oDiv] at hf
      split at hf
      · rename_i hc
        cases hf
        exact op_fdiv pins s σ H _ _ v u Q I rx ry ⟨i, j, rfl, rfl, of_divOk hc, q _ H (Same.refl H) rfl⟩
      · cases hf
    | _ => cases hf
  | _ => cases hf
noncomputable def oLt : F2b := fun _ x y => match x, y with
  | .int i, .int j => some (decide (i < j))
  | _, _ => none
noncomputable def oLe : F2b := fun _ x y => match x, y with
  | .int i, .int j => some (decide (i ≤ j))
  | _, _ => none
noncomputable def oGt : F2b := fun _ x y => match x, y with
  | .int i, .int j => some (decide (j < i))
  | _, _ => none
noncomputable def oGe : F2b := fun _ x y => match x, y with
  | .int i, .int j => some (decide (j ≤ i))
  | _, _ => none
theorem v_cmpI {op : CmpOp} {p : Int → Int → Bool} (ho : OpR X (compareOp op) (rI0 fun i j => .bl (p i j))) {f : F2b} (hf : f = fun _ x y => match x, y with
  | .int i, .int j => some (p i j)
  | _, _ => none) : OpR X (compareOp op) (rD X.K (asD f)) := by
  subst hf
  intro pins s σ H x y v u Q I rx ry ⟨S, dx, dy, d, st, hx, hy, hf, q⟩
  cases dx with
  | int i =>
    cases dy with
    | int j =>
      cases (rD_int hx); cases (rD_int hy); cases hf
      exact ho pins s σ H _ _ v u Q I rx ry ⟨i, j, rfl, rfl, q _ H (Same.refl H) rfl⟩
    | _ => cases hf
  | _ => cases hf
theorem v_lt : OpR X (compareOp .Lt) (rD X.K (asD oLt)) := v_cmpI op_lt rfl
theorem v_le : OpR X (compareOp .LtE) (rD X.K (asD oLe)) := v_cmpI op_le rfl
theorem v_gt : OpR X (compareOp .Gt) (rD X.K (asD oGt)) := v_cmpI op_gt rfl
theorem v_ge : OpR X (compareOp .GtE) (rD X.K (asD oGe)) := v_cmpI op_ge rfl
noncomputable def isN : Dv → Bool
  | .non => true
  | _ => false
noncomputable def oIs : F2b := fun _ x y => match y with
  | .non => some (isN x)
  | _ => none
noncomputable def oIsNot : F2b := fun _ x y => match y with
  | .non => some (!isN x)
  | _ => none
theorem isN_ok {K : PySem.W.Frag} {H : Hp} {d : Dv} {v : V} (h : den K H d v) : decide (v = .non) = isN d := by
  cases d with
  | non => cases (show v = .non from h); rfl
  | bl b => cases (show v = .bl b from h); rfl
  | int b => cases (show v = .int b from h); rfl
  | str b => cases (show v = .str b from h); rfl
  | tup ds => obtain ⟨a, vs, rfl, _⟩ := rD_tup h; rfl
  | lst ds => obtain ⟨a, _, vs, rfl, _⟩ := rD_lst h; rfl
  | scr ds => obtain ⟨a, rfl, _⟩ := rD_scr h; rfl
  | ref a => cases (show v = .ref a from h); rfl
theorem v_is : OpR X (compareOp .Is) (rD X.K (asD oIs)) := by
  intro pins s σ H x y v u Q I rx ry ⟨S, dx, dy, d, st, hx, hy, hf, q⟩
  cases dy with
  | non =>
    cases (show y = .non from hy); cases hf
    exact op_isN pins s σ H _ _ v u Q I rx ry ⟨rfl, by rw [isN_ok hx]; exact q _ H (Same.refl H) rfl⟩
  | _ => cases hf
theorem v_isNot : OpR X (compareOp .IsNot) (rD X.K (asD oIsNot)) := by
  intro pins s σ H x y v u Q I rx ry ⟨S, dx, dy, d, st, hx, hy, hf, q⟩
  cases dy with
  | non =>
    cases (show y = .non from hy); cases hf
    exact op_notN pins s σ H _ _ v u Q I rx ry ⟨rfl, by rw [isN_ok hx]; exact q _ H (Same.refl H) rfl⟩
  | _ => cases hf
noncomputable def rdL (S : Sto) : Dv → Option (List Dv)
  | .lst ds => some ds
  | .scr ns => some (ns.map .int)
  | .ref a => match S a with
    | some (.lst ds) => some ds
    | _ => none
  | _ => none
theorem rdL_ok {K : PySem.W.Frag} {H : Hp} {S : Sto} {d : Dv} {v : V} {ds : List Dv} (st : StOk K H S) (hd : den K H d v) (e : rdL S d = some ds) : ∃ a vs, v = .ref a ∧ SqL K H a vs ∧ dens K H ds vs := by
  cases d with
  | lst xs =>
    cases e
    obtain ⟨a, o, vs, h1, h2, h3⟩ := rD_lst hd
    exact ⟨a, vs, h1, .inl (.inr ⟨o, h2⟩), h3⟩
  | scr ns =>
    cases e
    obtain ⟨a, h1, h2⟩ := rD_scr hd
    exact ⟨a, _, h1, h2.sq, dens_ints ns⟩
  | ref a =>
    cases (show v = .ref a from hd)
    have e2 : (match S a with
      | some (.lst ds) => some ds
      | _ => none) = some ds := e
    split at e2
    · rename_i xs hs
      cases e2
      obtain ⟨vs, h1, h2⟩ := st a _ hs
      exact ⟨a, vs, rfl, .inl (.inl h1), h2⟩
    · cases e2
  | _ => cases e
noncomputable def oIx : F2 := fun S x y => match y with
  | .int i => match x with
    | .tup ds => atI ds i
    | .str z => if z.length ≤ lim then (atI z.cps.toList i).map fun c => .str ⟨#[c]⟩ else none
    | d => (rdL S d).bind fun ds => atI ds i
  | _ => none
theorem dens_atI {K : PySem.W.Frag} {H : Hp} {ds : List Dv} {vs : List V} {i : Int} {d : Dv} (h : dens K H ds vs) (e : atI ds i = some d) : ∃ v, atI vs i = some v ∧ den K H d v := by
  unfold atI at e ⊢
  rw [dens_len h]
  cases q : ixN ds.length i with
  | none => rw [q] at e; cases e
  | some j =>
    rw [q] at e
    obtain ⟨v, h1, h2⟩ := dens_get h (show ds[j]? = some d from e)
    exact ⟨v, h1, h2⟩
theorem v_ix : IxR X (rD X.K oIx) := by
  intro value slice pins s σ H x y v u Q I rx ry ⟨S, dx, dy, d, st, hx, hy, hf, q⟩ hs
  cases dy with
  | int i =>
    cases (rD_int hy)
    have onL : ∀ ds, rdL S dx = some ds → atI ds i = some d → wpAny (model X.prog X.w) X.A (subscriptTail value slice v u) (EP X pins σ Q) X.xe s := fun ds h1 h2 => by
      obtain ⟨a, vs, rfl, h3, h4⟩ := rdL_ok st hx h1
      obtain ⟨z, h5, h6⟩ := dens_atI h4 h2
      exact ix_list value slice pins s σ H _ _ v u Q I rx ry ⟨a, vs, i, z, rfl, rfl, h3, h5, q z H (Same.refl H) h6⟩ hs
    have onB : ∀ o : Option (List Dv), o = rdL S dx → (o.bind fun ds => atI ds i) = some d → wpAny (model X.prog X.w) X.A (subscriptTail value slice v u) (EP X pins σ Q) X.xe s := fun o e h => by
      cases o with
      | none => cases h
      | some ds => exact onL ds e.symm h
    cases dx with
    | tup ds =>
      obtain ⟨a, vs, rfl, h1, h2⟩ := rD_tup hx
      obtain ⟨z, h3, h4⟩ := dens_atI h2 hf
      exact ix_tup value slice pins s σ H _ _ v u Q I rx ry ⟨a, vs, i, z, rfl, rfl, h1, h3, q z H (Same.refl H) h4⟩ hs
    | str z =>
      cases (rD_str hx)
      simp only [oIx] at hf
      split at hf
      · rename_i hl
        cases e : atI z.cps.toList i with
        | none => rw [e] at hf; cases hf
        | some c =>
          rw [e] at hf
          cases hf
          exact ix_str value slice pins s σ H _ _ v u Q I rx ry ⟨z, i, c, rfl, rfl, lim_le hl, e, q _ H (Same.refl H) rfl⟩ hs
      · cases hf
    | lst ds => exact onB _ rfl hf
    | scr ds => exact onB _ rfl hf
    | ref a => exact onB _ rfl hf
    | non => exact onB _ rfl hf
    | bl b => exact onB _ rfl hf
    | int b => exact onB _ rfl hf
  | _ => cases hf
noncomputable def cutD (xs : List Dv) (lo hi : Option Int) : List Dv := (xs.drop (HT.sIx xs.length 0 lo)).take (HT.sIx xs.length xs.length hi - HT.sIx xs.length 0 lo)
noncomputable def wPart (w : Option WE) : Ev → Sto → (Option Int → Sto → Prop) → Prop := fun ρ S Q => match w with
  | none => Q none S
  | some w => w ρ S fun d S1 => match d with
    | .int i => Q (some i) S1
    | _ => False
noncomputable def wSl (e : WE) (lo hi : Option WE) : WE := fun ρ S Q => e ρ S fun d S1 => wPart lo ρ S1 fun l S2 => wPart hi ρ S2 fun h S3 => goL (rdL S3 d) fun ds => Q (.lst (cutD ds l h)) S3
inductive lO (K : PySem.W.Frag) (w : Ev → Sto → (Option Int → Sto → Prop) → Prop) (σ : L2.St) (H : Hp) (Q : Option Int → Hp → Prop) : Prop
  | mk (ρ : Ev) (S : Sto) (Q' : Option Int → Sto → Prop) (env : EnvOk K H ρ σ) (st : StOk K H S) (hw : w ρ S Q') (post : ∀ d S' H', Q' d S' → Ext H H' → StOk K H' S' → Q d H') : lO K w σ H Q
theorem do_none : PO X none (lO X.K (wPart none)) := by
  intro pins s σ H Q I ⟨ρ, S, Q', env, st, hw, post⟩
  exact po_none pins s σ H Q I (post none S H hw (Ext.refl H) st)
theorem do_some {e : Expr} {w : WE} (h : DE X e w) : PO X (some e) (lO X.K (wPart (some w))) := by
  intro pins s σ H Q I ⟨ρ, S, Q', env, st, hw, post⟩
  refine po_some h pins s σ H Q I ⟨ρ, S, _, env, st, hw, fun d S1 v H1 q e1 st1 hd => ?_⟩
  cases d with
  | int i => exact ⟨i, hd, post (some i) S1 H1 q e1 st1⟩
  | _ => exact (show False from q).elim
noncomputable def rSlD (K : PySem.W.Frag) : V → Option Int → Option Int → Hp → VK → Prop := fun x lo hi H Q => ∃ a vs, x = .ref a ∧ SqL K H a vs ∧ ∀ p o, H p = none → Q (.ref p) (upd (upd H p (.lst (cutV vs lo hi))) p (.frz o (.lst (cutV vs lo hi))))
theorem sl_frz : SlR X (rSlD X.K) := by
  intro pins s σ H x v vl vu lo hi sl Q I rx hs pl pu ⟨a, vs, ex, hq, q⟩
  subst ex
  obtain ⟨T, id, h1, h2, h3⟩ := sl_list pins s σ H (.ref a) v vl vu lo hi sl (fun v H1 => ∃ a xs, v = .ref a ∧ H1 a = some (.lst xs) ∧ ∀ o, Q v (upd H1 a (.frz o (.lst xs)))) I rx hs pl pu
    ⟨a, vs, rfl, hq, fun p hp => ⟨p, _, rfl, upd_same, fun o => q p o hp⟩⟩
  refine ⟨T, id, h1, h2, thn h3 fun u s1 ⟨z, H1, I1, r1, b, xs, ez, hb, q1⟩ => ?_⟩
  obtain ⟨o, I2⟩ := Inv.freeze I1 hb
  exact ⟨z, _, I2, r1, q1 o⟩
theorem dens_cut {K : PySem.W.Frag} {H : Hp} {ds : List Dv} {vs : List V} (h : dens K H ds vs) (lo hi : Option Int) : dens K H (cutD ds lo hi) (cutV vs lo hi) := by
  unfold cutD cutV
  rw [dens_len h]
  exact dens_take _ (dens_drop _ h)
theorem de_slice {e : Expr} {lo hi : Option Expr} {we : WE} {wl wh : Option WE} {pos p2 : Pos} (he : DE X e we) (hl : PO X lo (lO X.K (wPart wl))) (hh : PO X hi (lO X.K (wPart wh))) : DE X (.Subscript e (.Slice lo hi none p2) pos) (wSl we wl wh) :=
  PE.weak (pe_slice sl_frz he hl hh) fun σ H Q ⟨ρ, S, Q', env, st, hw, post⟩ => ⟨ρ, S, _, env, st, hw, fun d S1 v H1 q1 e1 st1 hd =>
    ⟨ρ, S1, _, env.ext e1, st1, q1, fun l S2 H2 q2 e2 st2 => ⟨ρ, S2, _, env.ext (e1.trans e2), st2, q2, fun h S3 H3 q3 e3 st3 => by
      obtain ⟨ds, hds, q⟩ := goL_inv q3
      obtain ⟨a, vs, rfl, h1, h2⟩ := rdL_ok st3 (den_ext (e2.trans e3) _ _ hd) hds
      refine ⟨a, vs, rfl, h1, fun p o hp => ?_⟩
      have sm : Same H3 (upd (upd H3 p (.lst (cutV vs l h))) p (.frz o (.lst (cutV vs l h)))) := same_frz hp
      exact post (.lst (cutD ds l h)) S3 (.ref p) _ q ((e1.trans (e2.trans e3)).trans (ext_same sm)) (st3.same sm) ⟨p, o, _, rfl, upd_same, dens_ext (ext_same sm) _ _ (dens_cut h2 l h)⟩⟩⟩⟩
end
end MQ
namespace MQ
open PySem PySem.Spec PyProof.Rows L2
mutual
noncomputable def dP : Dv → PyData
  | .non => .none
  | .bl b => .bool b
  | .int i => .int i
  | .str x => .str x
  | .tup ds => .tuple (dPs ds)
  | .lst ds => .list (dPs ds)
  | .scr ns => .list (ns.map .int)
  | .ref _ => .none
noncomputable def dPs : List Dv → List PyData
  | [] => []
  | d :: ds => dP d :: dPs ds
end
mutual
noncomputable def noRef : Dv → Bool
  | .tup ds => noRefs ds
  | .lst ds => noRefs ds
  | .ref _ => false
  | _ => true
noncomputable def noRefs : List Dv → Bool
  | [] => true
  | d :: ds => noRef d && noRefs ds
end
noncomputable def pur (d : Dv) : Bool := noRef d && SeqAt.shaped (dP d)
noncomputable def deq (d e : Dv) : Bool := PyData.eqv (dP d) (dP e)
noncomputable def drf (S : Sto) : Dv → Dv
  | .ref a => match S a with
    | some (.lst ds) => .lst ds
    | _ => .ref a
  | d => d
section
variable {X : Cx} {pins : List (Addr × Obj)} {σ : L2.St} {H : Hp} {s : Shared}
theorem reads_ints {h : Heap} : ∀ (ns : List Int) (us : List Value), Vals (ns.map V.int) us → ∃ as, ReadsAll h us (ns.map PyData.int) as
  | [], us, r => by cases r; exact ⟨_, .nil⟩
  | n :: ns, us, r => by
    cases r with
    | cons r1 r2 =>
      obtain ⟨t, rfl⟩ := r1
      obtain ⟨as, q⟩ := reads_ints ns _ r2
      exact ⟨_, .cons (.int n t) q⟩
mutual
theorem reads_of (I : Inv X pins σ H s) : ∀ (d : Dv) (v : V) (u : Value), noRef d = true → den X.K H d v → RelV v u → ∃ as, Reads s.heap u (dP d) as
  | .non, v, u, _, h, r => by cases (show v = .non from h); cases r; exact ⟨_, .none⟩
  | .bl b, v, u, _, h, r => by cases (show v = .bl b from h); cases r; exact ⟨_, .bool b⟩
  | .int i, v, u, _, h, r => by cases (show v = .int i from h); obtain ⟨t, rfl⟩ := r; exact ⟨_, .int i t⟩
  | .str x, v, u, _, h, r => by cases (show v = .str x from h); obtain ⟨t, rfl⟩ := r; exact ⟨_, .str x t⟩
  | .tup ds, v, u, n, h, r => by
    obtain ⟨a, vs, rfl, h1, h2⟩ := (rD_tup h)
    cases r
    obtain ⟨its, rv, ⟨o, e1, e2, k, e3⟩, _⟩ := I.tuple h1
    obtain ⟨as, q⟩ := reads_all I ds vs its n h2 rv
    exact ⟨as, .tuple e1 e2 e3 (by simpa using q)⟩
  | .lst ds, v, u, n, h, r => by
    obtain ⟨a, o, vs, rfl, h1, h2⟩ := (show ∃ a o vs, v = .ref a ∧ H a = some (.frz o (.lst vs)) ∧ dens X.K H ds vs from h)
    cases r
    obtain ⟨its, rv, ⟨o, k, e1, e2, _, e3⟩, _⟩ := I.list (.inl (.inr ⟨o, h1⟩))
    obtain ⟨as, q⟩ := reads_all I ds vs its n h2 rv
    exact ⟨_, .list e1 e2 e3 (by simpa using q)⟩
  | .scr ns, v, u, _, h, r => by
    obtain ⟨a, rfl, h1⟩ := (show ∃ a, v = .ref a ∧ SqR X.K H a (ns.map V.int) from h)
    cases r
    obtain ⟨its, rv, ⟨o, k, e1, e2, _, e3⟩, _⟩ := I.list h1.sq
    obtain ⟨as, q⟩ := reads_ints (h := s.heap) ns its rv
    exact ⟨_, .list e1 e2 e3 (by simpa using q)⟩
  | .ref a, v, u, n, h, r => by exact absurd (show false = true from n) Bool.false_ne_true
theorem reads_all (I : Inv X pins σ H s) : ∀ (ds : List Dv) (vs : List V) (us : List Value), noRefs ds = true → dens X.K H ds vs → Vals vs us → ∃ as, ReadsAll s.heap us (dPs ds) as
  | [], vs, us, _, h, r => by cases (show vs = [] from h); cases r; exact ⟨_, .nil⟩
  | d :: ds, vs, us, n, h, r => by
    obtain ⟨v, rest, rfl, h2, h3⟩ := (show ∃ v r, vs = v :: r ∧ den X.K H d v ∧ dens X.K H ds r from h)
    have n' : noRef d = true ∧ noRefs ds = true := by simpa [noRefs] using n
    cases r with
    | cons r1 r2 =>
      obtain ⟨as, q⟩ := reads_of I d v _ n'.1 h2 r1
      obtain ⟨bs, p⟩ := reads_all I ds rest _ n'.2 h3 r2
      exact ⟨_, .cons q p⟩
end
theorem reads_drf (I : Inv X pins σ H s) {S : Sto} (st : StOk X.K H S) {d : Dv} {v : V} {u : Value} (n : noRef (drf S d) = true) (hd : den X.K H d v) (r : RelV v u) : ∃ as, Reads s.heap u (dP (drf S d)) as := by
  cases d with
  | ref a =>
    cases (show v = .ref a from hd)
    have no : noRef (.ref a) = true → False := fun z => absurd (show false = true from z) Bool.false_ne_true
    cases hs : S a with
    | none =>
      have e : drf S (.ref a) = .ref a := by simp only [drf, hs]
      rw [e] at n
      exact (no n).elim
    | some ob =>
      cases ob with
      | dic kvs =>
        have e : drf S (.ref a) = .ref a := by simp only [drf, hs]
        rw [e] at n
        exact (no n).elim
      | ins fs =>
        have e : drf S (.ref a) = .ref a := by simp only [drf, hs]
        rw [e] at n
        exact (no n).elim
      | lst ds =>
        have e : drf S (.ref a) = .lst ds := by simp only [drf, hs]
        rw [e] at n ⊢
        obtain ⟨vs, h1, h2⟩ := st a _ hs
        cases r
        obtain ⟨its, rv, ⟨o, k, e1, e2, _, e3⟩, _⟩ := I.list (.inl (.inl h1))
        obtain ⟨as, q⟩ := reads_all I ds vs its n h2 rv
        exact ⟨_, .list e1 e2 e3 (by simpa using q)⟩
  | _ => exact reads_of I _ v u n hd r
end
noncomputable def oEq : F2b := fun S x y => if (pur (drf S x) && pur (drf S y)) = true then some (deq (drf S x) (drf S y)) else none
noncomputable def oNe : F2b := fun S x y => if (pur (drf S x) && pur (drf S y)) = true then some (!deq (drf S x) (drf S y)) else none
noncomputable def inP (xs : List PyData) (d : PyData) : Bool := xs.any fun y => PyData.eqv y d
noncomputable def seqP : Dv → Option (List PyData)
  | .lst ds => some (dPs ds)
  | .tup ds => some (dPs ds)
  | _ => none
noncomputable def oIn : F2b := fun S x y => if (pur x && pur (drf S y)) = true then (seqP (drf S y)).map fun xs => inP xs (dP x) else none
noncomputable def oNotIn : F2b := fun S x y => if (pur x && pur (drf S y)) = true then (seqP (drf S y)).map fun xs => !inP xs (dP x) else none
theorem pur_inv {d : Dv} (h : pur d = true) : noRef d = true ∧ SeqAt.shaped (dP d) = true := by simpa [pur] using h
section
variable {X : Cx}
theorem v_eq (hu : X.A.units + 64 < cLine) : OpR X (compareOp .Eq) (rD X.K (asD oEq)) := by
  intro pins s σ H x y v u Q I rx ry ⟨S, dx, dy, d, st, hx, hy, hf, q⟩
  unfold asD oEq at hf
  split at hf
  · rename_i hp
    obtain ⟨p1, p2⟩ := Bool.and_eq_true_iff.mp hp
    obtain ⟨n1, s1⟩ := pur_inv p1
    obtain ⟨n2, s2⟩ := pur_inv p2
    cases hf
    obtain ⟨as, r1⟩ := reads_drf I st n1 hx rx
    obtain ⟨bs, r2⟩ := reads_drf I st n2 hy ry
    exact SeqAt.compareEq_shaped r1 r2 s1 s2 hu ⟨.bl _, H, I, rfl, q _ H (Same.refl H) rfl⟩
  · cases hf
theorem v_ne (hu : X.A.units + 64 < cLine) : OpR X (compareOp .NotEq) (rD X.K (asD oNe)) := by
  intro pins s σ H x y v u Q I rx ry ⟨S, dx, dy, d, st, hx, hy, hf, q⟩
  unfold asD oNe at hf
  split at hf
  · rename_i hp
    obtain ⟨p1, p2⟩ := Bool.and_eq_true_iff.mp hp
    obtain ⟨n1, s1⟩ := pur_inv p1
    obtain ⟨n2, s2⟩ := pur_inv p2
    cases hf
    obtain ⟨as, r1⟩ := reads_drf I st n1 hx rx
    obtain ⟨bs, r2⟩ := reads_drf I st n2 hy ry
    exact SeqAt.compareNe_shaped r1 r2 s1 s2 hu ⟨.bl _, H, I, rfl, q _ H (Same.refl H) rfl⟩
  · cases hf
theorem shaped_all {xs : List PyData} {d : PyData} (h : d = .list xs ∨ d = .tuple xs) (hs : SeqAt.shaped d = true) : PyData.canLayAll0 xs = true ∧ PyData.depthAll xs ≤ 64 := by
  have h1 := SeqAt.canLay_of_shaped hs
  have h2 := SeqAt.depth_of_shaped hs
  rcases h with rfl | rfl
  · exact ⟨by simpa [PyData.canLay0] using h1, by simp only [PyData.depth] at h2; omega⟩
  · exact ⟨by simpa [PyData.canLay0] using h1, by simp only [PyData.depth] at h2; omega⟩
theorem v_in (hu : X.A.units + 128 < cLine) : OpR X (compareOp .In) (rD X.K (asD oIn)) := by
  intro pins s σ H x y v u Q I rx ry ⟨S, dx, dy, d, st, hx, hy, hf, q⟩
  unfold asD oIn at hf
  split at hf
  · rename_i hp
    obtain ⟨p1, p2⟩ := Bool.and_eq_true_iff.mp hp
    obtain ⟨n1, s1⟩ := pur_inv p1
    obtain ⟨n2, s2⟩ := pur_inv p2
    obtain ⟨as, r1⟩ := reads_of I _ _ _ n1 hx rx
    obtain ⟨bs, r2⟩ := reads_drf I st n2 hy ry
    have d1 := SeqAt.depth_of_shaped s1
    generalize hz : drf S dy = z at r2 s2 hf
    cases z with
    | lst ds =>
      cases hf
      obtain ⟨c1, c2⟩ := shaped_all (.inl rfl) s2
      exact SeqAt.in_list_reads r2 r1 c1 (SeqAt.canLay_of_shaped s1) (by have := Nat.min_le_left (PyData.depthAll (dPs ds)) (dP dx).depth; omega) ⟨.bl _, H, I, rfl, q _ H (Same.refl H) rfl⟩
    | tup ds =>
      cases hf
      obtain ⟨c1, c2⟩ := shaped_all (.inr rfl) s2
      exact SeqAt.in_tuple_reads r2 r1 c1 (SeqAt.canLay_of_shaped s1) (by have := Nat.min_le_left (PyData.depthAll (dPs ds)) (dP dx).depth; omega) ⟨.bl _, H, I, rfl, q _ H (Same.refl H) rfl⟩
    | _ => cases hf
  · cases hf
theorem v_notIn (hu : X.A.units + 128 < cLine) : OpR X (compareOp .NotIn) (rD X.K (asD oNotIn)) := by
  intro pins s σ H x y v u Q I rx ry ⟨S, dx, dy, d, st, hx, hy, hf, q⟩
  unfold asD oNotIn at hf
  split at hf
  · rename_i hp
    obtain ⟨p1, p2⟩ := Bool.and_eq_true_iff.mp hp
    obtain ⟨n1, s1⟩ := pur_inv p1
    obtain ⟨n2, s2⟩ := pur_inv p2
    obtain ⟨as, r1⟩ := reads_of I _ _ _ n1 hx rx
    obtain ⟨bs, r2⟩ := reads_drf I st n2 hy ry
    generalize hz : drf S dy = z at r2 s2 hf
    cases z with
    | lst ds =>
      cases hf
      obtain ⟨c1, c2⟩ := shaped_all (.inl rfl) s2
      exact SeqAt.notIn_list_reads r2 r1 c1 (SeqAt.canLay_of_shaped s1) (by have := Nat.min_le_left (PyData.depthAll (dPs ds)) (dP dx).depth; omega) ⟨.bl _, H, I, rfl, q _ H (Same.refl H) rfl⟩
    | tup ds =>
      cases hf
      obtain ⟨c1, c2⟩ := shaped_all (.inr rfl) s2
      exact SeqAt.notIn_tuple_reads r2 r1 c1 (SeqAt.canLay_of_shaped s1) (by have := Nat.min_le_left (PyData.depthAll (dPs ds)) (dP dx).depth; omega) ⟨.bl _, H, I, rfl, q _ H (Same.refl H) rfl⟩
    | _ => cases hf
  · cases hf
noncomputable abbrev Fn := Sto → List Dv → Option Dv
noncomputable def wCB (f : Fn) (t : WA) : WE := fun ρ S Q => t ρ S fun ds S1 => go (f S1 ds) S1 Q
inductive rC (K : PySem.W.Frag) (f : Fn) (xs : List V) (H : Hp) (Q : VK) : Prop
  | mk (S : Sto) (ds : List Dv) (d : Dv) (st : StOk K H S) (hds : dens K H ds xs) (hf : f S ds = some d) (post : ∀ z H', Same H H' → den K H' d z → Q z H') : rC K f xs H Q
theorem lift_cb {K : PySem.W.Frag} {f : Fn} {t : WA} (σ : L2.St) (H : Hp) (Q : VK) (h : lE K (wCB f t) σ H Q) : tCB (rC K f) (lA K t) σ H Q := by
  obtain ⟨ρ, S, Q', env, st, hw, post⟩ := h
  refine ⟨ρ, S, _, env, st, hw, fun ds S1 vs H1 q e st1 hds => ?_⟩
  obtain ⟨d, hf, q⟩ := go_inv q
  exact ⟨S1, ds, d, st1, hds, hf, fun z H' sm dz => post d S1 z H' q (e.trans (ext_same sm)) (st1.same sm) dz⟩
section
variable {x : Str} {p pos : Pos} {e : Expr} {es : List Expr} {t : WA} {id T : String} {f : Fn}
theorem de_callB (hc : CallR X (.builtin id) (rC X.K f)) (hm : X.mg x = none) (hv : bootBuiltins x = some (.builtin id)) (ha : DA X (e :: es) t) (hg : Gl X x := by rfl) (hn : x ≠ "__name__" := by decide) (hdb : (x == ("__debug__" : Str)) = false := by decide)
    (he : starEach (e :: es) X.env = (false, eval e X.env) :: starEach es X.env := by rfl) (hpl : (backTo pos (starEach es X.env)).any (·.1) = false := by rfl) : DE X (.Call (.Name x p) (e :: es) [] pos) (wCB f t) :=
  PE.weak (pe_callB hc hg hm hv ha hn hdb he hpl) lift_cb
theorem de_callTy (hc : CallR X (.type T) (rC X.K f)) (hm : X.mg x = none) (hv : bootBuiltins x = some (.type T)) (ha : DA X (e :: es) t) (hg : Gl X x := by rfl) (hn : x ≠ "__name__" := by decide) (hdb : (x == ("__debug__" : Str)) = false := by decide)
    (he : starEach (e :: es) X.env = (false, eval e X.env) :: starEach es X.env := by rfl) (hpl : (backTo pos (starEach es X.env)).any (·.1) = false := by rfl) : DE X (.Call (.Name x p) (e :: es) [] pos) (wCB f t) :=
  PE.weak (pe_callTy hc hg hm hv ha hn hdb he hpl) lift_cb
end
theorem dens1 {K : PySem.W.Frag} {H : Hp} {d : Dv} {vs : List V} (h : dens K H [d] vs) : ∃ v, vs = [v] ∧ den K H d v := by
  obtain ⟨v, r, rfl, h2, h3⟩ := (show ∃ v r, vs = v :: r ∧ den K H d v ∧ dens K H [] r from h)
  cases (show r = [] from h3); exact ⟨v, rfl, h2⟩
noncomputable def fLen : Fn := fun S l => match l with
  | [.tup ds] => some (.int ds.length)
  | [.str z] => if z.length ≤ lim then some (.int z.length) else none
  | [d] => (rdL S d).map fun ds => .int ds.length
  | _ => none
theorem c_len : CallR X (.builtin "len") (rC X.K fLen) := by
  intro pins s σ H xs us Q I r ⟨S, ds, d, st, hds, hf, q⟩
  have onB : ∀ (dx : Dv) (v : V) (o : Option (List Dv)), dens X.K H [dx] xs → o = rdL S dx → (o.map fun ds => Dv.int ds.length) = some d → wpAny (model X.prog X.w) X.A (call (.builtin "len") us) (EP X pins σ Q) X.xe s := fun dx v o h1 e h => by
    cases o with
    | none => cases h
    | some zs =>
      obtain ⟨v, rfl, hv⟩ := dens1 h1
      obtain ⟨a, vs, rfl, h3, h4⟩ := rdL_ok st hv e.symm
      cases h
      exact call_len_seq pins s σ H _ us Q I r ⟨a, vs, rfl, .inl h3, by rw [dens_len h4]; exact q _ H (Same.refl H) rfl⟩
  unfold fLen at hf
  split at hf
  · cases hf
    obtain ⟨v, rfl, hv⟩ := dens1 hds
    obtain ⟨a, vs, rfl, h1, h2⟩ := rD_tup hv
    exact call_len_seq pins s σ H _ us Q I r ⟨a, vs, rfl, .inr h1, by rw [dens_len h2]; exact q _ H (Same.refl H) rfl⟩
  · split at hf
    · rename_i hl
      cases hf
      obtain ⟨v, rfl, hv⟩ := dens1 hds
      cases (rD_str hv)
      exact call_len_str pins s σ H _ us Q I r ⟨_, rfl, lim_le hl, q _ H (Same.refl H) rfl⟩
    · cases hf
  · exact onB _ .non _ hds rfl hf
  · cases hf
noncomputable def fList : Fn := fun S l => match l with
  | [.tup ds] => some (.lst ds)
  | [d] => (rdL S d).map .lst
  | _ => none
theorem c_list : CallR X (.type "list") (rC X.K fList) := by
  intro pins s σ H xs us Q I r ⟨S, ds, d, st, hds, hf, q⟩
  have fin : ∀ (a : Addr) (vs : List V) (zs : List Dv), xs = [.ref a] → (SqL X.K H a vs ∨ SqT X.K H a vs) → dens X.K H zs vs → d = .lst zs → wpAny (model X.prog X.w) X.A (call (.type "list") us) (EP X pins σ Q) X.xe s := fun a vs zs e h1 h2 h3 => by
    subst e h3
    refine thn (call_list_of pins s σ H _ us (fun v H1 => ∃ a xs, v = .ref a ∧ H1 a = some (.lst xs) ∧ ∀ o, Q v (upd H1 a (.frz o (.lst xs)))) I r ⟨a, vs, rfl, h1, fun l hl => ⟨l, vs, rfl, upd_same, fun o => ?_⟩⟩) fun u s1 ⟨z, H1, I1, r1, b, ys, ez, hb, q1⟩ => ?_
    · have sm : Same H (upd (upd H l (.lst vs)) l (.frz o (.lst vs))) := same_frz hl
      exact q _ _ sm ⟨l, o, vs, rfl, upd_same, dens_ext (ext_same sm) _ _ h2⟩
    · obtain ⟨o, I2⟩ := Inv.freeze I1 hb
      exact ⟨z, _, I2, r1, q1 o⟩
  have onB : ∀ (dx : Dv) (o : Option (List Dv)), dens X.K H [dx] xs → o = rdL S dx → (o.map Dv.lst) = some d → wpAny (model X.prog X.w) X.A (call (.type "list") us) (EP X pins σ Q) X.xe s := fun dx o h1 e h => by
    cases o with
    | none => cases h
    | some zs =>
      obtain ⟨v, rfl, hv⟩ := dens1 h1
      obtain ⟨a, vs, rfl, h3, h4⟩ := rdL_ok st hv e.symm
      cases h
      exact fin a vs zs rfl (.inl h3) h4 rfl
  unfold fList at hf
  split at hf
  · cases hf
    obtain ⟨v, rfl, hv⟩ := dens1 hds
    obtain ⟨a, vs, rfl, h1, h2⟩ := rD_tup hv
    exact fin a vs _ rfl (.inr h1) h2 rfl
  · exact onB _ _ hds rfl hf
  · cases hf
end
end MQ
namespace MQ
open PySem PySem.Spec PyProof.Rows L2
theorem u128 {k : Nat} {A : Around} (r : Room k A) : A.units + 128 < cLine := by have := r.un; omega
noncomputable def frzAt (i : Nat) (ρ : Ev) (S : Sto) (k : Ev → Sto → Prop) : Prop := match ev? ρ i with
  | some (.ref p) => match S p with
    | some (.lst ds) => k (ρ.set i (some (.lst ds))) (sdel S p)
    | _ => False
  | _ => False
noncomputable def wThen (i : Nat) (a : WS) : WS := fun D ρ S => a { D with nx := fun ρ1 S1 => frzAt i ρ1 S1 D.nx } ρ S
theorem EnvOk.known {K : PySem.W.Frag} {H : Hp} {ρ : Ev} {σ : L2.St} {i : Nat} {d : Dv} {v : V} (h : EnvOk K H ρ σ) (hi : σ[i]? = some (some v)) (hd : den K H d v) : EnvOk K H (ρ.set i (some d)) σ := by
  refine ⟨by rw [List.length_set]; exact h.len, fun j e q => ?_⟩
  rw [List.getElem?_set] at q
  by_cases z : i = j
  · rw [if_pos z] at q
    subst z
    split at q
    · cases q; exact ⟨v, hi, hd⟩
    · cases q
  · rw [if_neg z] at q
    exact h.at_ j e q
theorem frzAt_inv {i : Nat} {ρ : Ev} {S : Sto} {k : Ev → Sto → Prop} (h : frzAt i ρ S k) : ∃ p ds, ev? ρ i = some (.ref p) ∧ S p = some (.lst ds) ∧ k (ρ.set i (some (.lst ds))) (sdel S p) := by
  unfold frzAt at h
  split at h
  · rename_i p hp
    split at h
    · rename_i ds hds; exact ⟨p, ds, hp, hds, h⟩
    · exact h.elim
  · exact h.elim
section
variable {X : Cx}
theorem PS.freeze {st : Stmt} {t : TS} (h : PS X st t) : PS X st (fun D σ H => t { D with nx := fun σ1 H1 => ∃ a xs, H1 a = some (.lst xs) ∧ ∀ o, D.nx σ1 (upd H1 a (.frz o (.lst xs))) } σ H) := by
  intro pins s σ H D I hw
  refine thn (h pins s σ H _ I hw) fun f s1 q => ?_
  cases f with
  | next =>
    obtain ⟨σ1, H1, I1, a, xs, ha, q⟩ := q
    obtain ⟨o, I2⟩ := Inv.freeze I1 ha
    exact ⟨σ1, _, I2, q o⟩
  | brk => exact q
  | cont => exact q
  | ret u => exact q
theorem ds_then (i : Nat) {st : Stmt} {a : WS} (h : DS X st a) : DS X st (wThen i a) :=
  PS.weak (PS.freeze h) fun D σ H ⟨ρ, S, D', env, st, hw, dn⟩ => ⟨ρ, S, _, env, st, hw, ⟨fun ρ1 S1 σ1 H1 q e env1 st1 => by
    obtain ⟨p, ds, h1, h2, q⟩ := frzAt_inv q
    obtain ⟨v, h3, h4⟩ := env1.at_ i _ (ev?_at h1)
    cases (show v = .ref p from h4)
    obtain ⟨vs, h5, h6⟩ := st1 p _ h2
    refine ⟨p, vs, h5, fun o => ?_⟩
    have ex : Ext H1 (upd H1 p (.frz o (.lst vs))) :=
      ⟨fun b zs q => by rw [upd_ne (ne_of q h5 (by intro z; cases z))]; exact q, fun b o u q => by rw [upd_ne (ne_of q h5 (by intro z; cases z))]; exact q⟩
    refine dn.nx _ _ σ1 _ q (e.trans ex) ((env1.ext ex).known h3 ⟨p, o, vs, rfl, upd_same, dens_ext ex _ _ h6⟩) fun b ob hb => ?_
    unfold sdel at hb
    by_cases hba : b = p
    · rw [if_pos hba] at hb; cases hb
    · rw [if_neg hba] at hb
      exact (st1 b ob hb).same ex fun u hu => by rw [upd_ne hba]; exact hu, dn.rt, dn.bk, dn.ct⟩⟩
noncomputable def onLst (S : Sto) (d : Dv) (k : Addr → List Dv → Prop) : Prop := match d with
  | .ref p => match S p with
    | some (.lst ds) => k p ds
    | _ => False
  | _ => False
theorem onLst_inv {S : Sto} {d : Dv} {k : Addr → List Dv → Prop} (h : onLst S d k) : ∃ p ds, d = .ref p ∧ S p = some (.lst ds) ∧ k p ds := by
  unfold onLst at h
  split at h
  · split at h
    · rename_i p _ ds hds; exact ⟨p, ds, rfl, hds, h⟩
    · exact h.elim
  · exact h.elim
noncomputable def one (l : List Dv) (k : Dv → Prop) : Prop := match l with
  | [x] => k x
  | _ => False
theorem one_inv {l : List Dv} {k : Dv → Prop} (h : one l k) : ∃ x, l = [x] ∧ k x := by
  unfold one at h
  split at h
  · exact ⟨_, rfl, h⟩
  · exact h.elim
noncomputable def wApp (o : WE) (a : WA) : WE := fun ρ S Q => o ρ S fun d S1 => onLst S1 d fun _ _ => a ρ S1 fun l S2 => onLst S2 d fun p ds => one l fun x => ds.length < lim ∧ Q .non (sset S2 p (.lst (ds ++ [x])))
section
variable {o e : Expr} {es : List Expr} {wo : WE} {wa : WA} {apos cpos : Pos}
theorem de_append (ho : DE X o wo) (ha : DA X [e] wa) (hbase : attributeBase o "append" X.env (eval o X.env) = eval o X.env := by rfl)
    (hfew : ((backTo cpos (starEach [e] X.env)).all (fun x => !x.1) && (backToKw cpos (keywordEach [] X.env)).all (fun x => x.1.isSome)
      && decide ([e].length + ([] : List Keyword).length + (if ([] : List Keyword).isEmpty then 0 else 1) < 30)) = true := by rfl)
    (hline : (apos.endLine == cpos.line) = true := by rfl) (hs : starEach [e] X.env = (false, eval e X.env) :: starEach [] X.env := by rfl) (hplain : (backTo cpos (starEach [] X.env)).any (·.1) = false := by rfl) :
    DE X (.Call (.Attribute o "append" apos) [e] [] cpos) (wApp wo wa) :=
  PE.weak (pe_bm PySem.F.plainAttrs_list PySem.F.slot_list_append PySem.F.type_list_append mt_append ho ha hbase hfew hline hs hplain) fun σ H Q ⟨ρ, S, Q', env, st, hw, post⟩ => ⟨ρ, S, _, env, st, hw, fun d S1 v H1 q1 e1 st1 hd => by
    obtain ⟨p, ds, rfl, h1, q1⟩ := onLst_inv q1
    cases (show v = .ref p from hd)
    obtain ⟨vs, h2, h3⟩ := st1 p _ h1
    refine ⟨.inl ⟨rfl, vs, SqL.of h2⟩, ρ, S1, _, env.ext e1, st1, q1, fun l S2 us H2 q2 e2 st2 hl => ?_⟩
    obtain ⟨p', ds', e', h4, q2⟩ := onLst_inv q2
    cases e'
    obtain ⟨x, rfl, hlen, q⟩ := one_inv q2
    obtain ⟨u, rfl, hu⟩ := dens1 hl
    obtain ⟨vs', h5, h6⟩ := st2 p _ h4
    have ex := ext_lst (ys := vs' ++ [u]) h5
    refine ⟨p, vs', u, rfl, rfl, h5, by rw [dens_len h6]; exact Nat.lt_of_lt_of_le hlen (lim_le (Nat.le_refl _)), ?_⟩
    exact post .non _ .non _ q ((e1.trans e2).trans ex) (st2.put ex ⟨_, upd_same, dens_ext ex _ _ (dens_append h6 (dens_cons hu dens_nil))⟩) rfl⟩
end
theorem de_glob {x : Str} {a : Addr} {d : Dv} {pos : Pos} (hm : X.mg x = some (.ref a)) (hd : ∀ H, den X.K H d (.ref a)) (hg : Gl X x := by rfl) (hdb : (x == ("__debug__" : Str)) = false := by decide) : DE X (.Name x pos) (wC d) :=
  de_c (pe_glob hg hm (v := .ref a) rfl hdb) hd
end
end MQ
namespace MQ
open PySem PySem.Spec PyProof.Rows L2
noncomputable abbrev cxC (X : Cx) (sc : Scope) (x : Str) (C : Addr) (s : Shared) (H : Hp) (fp : List Addr) : Cx where
  prog := X.prog
  w := X.w
  K := X.K
  mg := X.mg
  base := X.base
  A := X.A
  N := [x]
  s₀ := s
  H₀ := H
  env := { scope := sc, locals := C, globals := X.env.globals, cells := [], qual := X.env.qual, func := none, code := X.env.code, frame := X.env.frame, builtins := X.env.builtins }
  outer := X.stack
  stack := X.stack
  ex := fp
  fn := fun _ => false
  calm := X.calm
  pn := []
  xe := fun _ _ => False
section
variable {X : Cx} {pins : List (Addr × Obj)} {σ : L2.St} {H : Hp} {s : Shared}
theorem stk_no (I : Inv X pins σ H s) {b : Addr} (h1 : b ≠ X.env.locals) (h2 : b ∉ X.fs) : b ∉ frs X.stack := fun z => by
  rcases List.mem_cons.mp (I.stkSub b z) with e | e
  · exact h1 e
  · exact h2 e
theorem inv_comp {sc : Scope} {x : Str} {C : Addr} {fp : List Addr} {h₁ : Heap} {m : Str → Option Value} {t : Nat} (I : Inv X pins σ H s) (hC : s.heap.objs.size ≤ C) (keep : ∀ b o, s.heap.get? b = some o → h₁.get? b = some o) (hns : h₁.Ns C m)
    (hfree : ∀ y ∈ sc.names, y.2 ≠ .free) (hcell : ∀ y ∈ sc.names, y.2 ≠ .cell) (hkind : sc.kind = .function) (hfp : ∀ b ∈ fp, FpOk X pins H b) (hlt : ∀ b ∈ fp, b < s.heap.objs.size) :
    Inv (cxC X sc x C s H fp) [] [none] H { s with heap := h₁, toks := t } := by
  have noc : ∀ (y : Str) (c : Addr), (cxC X sc x C s H fp).env.cells.lookup y = some c → False := fun y c e => by
    have e' : ([] : List (Str × Addr)).lookup y = some c := e
    cases e'
  refine ⟨⟨I.ok.mod, hkind, I.ok.glob, I.ok.blt, hC, fun y z c h1 _ => (noc y c h1).elim, fun y hy => ?_, fun y c _ h => (noc y c h).elim, I.ok.hd, I.ok.frames, .inl rfl, fun b hb => ⟨?_, fun y c h => (noc y c h).elim⟩, fun b o e => I.bs b o e, Nat.le_trans I.ok.bsz I.sz, fun b o e hb => ?_, fun b hb => ?_, I.stack, I.stkFree⟩,
    rfl, I.bare, Un.kept keep, ⟨m, hns, fun i y v _ h2 _ => ?_⟩, fun y c h => (noc y c h).elim, I.hok.fresh hC, fun y c h => (noc y c h).elim, fun p hp => ?_, I.hok.kept keep, rfl⟩
  · have hy' : sc.names.lookup y = some .cell ∨ sc.names.lookup y = some .free := hy
    rcases hy' with e | e
    · exact absurd rfl (hcell _ (PySem.mem_of_lookup e))
    · exact absurd rfl (hfree _ (PySem.mem_of_lookup e))
  · exact Nat.ne_of_lt (Nat.lt_of_lt_of_le (hlt b hb) hC)
  · obtain ⟨_, _, _, z, _⟩ := hfp b hb
    rcases z with z | z
    · exact I.ok.noex b o e z
    · exact absurd (Nat.lt_of_lt_of_le (Heap.lt_size e) (Nat.le_trans I.ok.bsz z)) (Nat.lt_irrefl _)
  · obtain ⟨_, z1, z2, _⟩ := hfp b hb
    exact stk_no I z1 z2
  · cases i with
    | zero => simp at h2
    | succ i => simp at h2
  · have hp' : p ∈ ([] : List (Addr × Obj)) := hp
    cases hp'
end
noncomputable def cmpL (wt : WT) (we : WE) : List Dv → Sto → List Dv → (List Dv → Sto → Prop) → Prop
  | [], S, acc, Q => Q acc S
  | x :: xs, S, acc, Q => wt [some x] S fun b S1 => if b = true then we [some x] S1 fun y S2 => cmpL wt we xs S2 (acc ++ [y]) Q else cmpL wt we xs S1 acc Q
noncomputable def wCompIf (src : WE) (wt : WT) (we : WE) : WE := fun ρ S Q => src ρ S fun d S1 => goL (roL d) fun xs => cmpL wt we xs S1 [] fun ys S2 => Q (.lst ys) S2
noncomputable def wYes : WT := fun _ S Q => Q true S
noncomputable def wComp (src : WE) (we : WE) : WE := wCompIf src wYes we
noncomputable def TestsOk (X : Cx) (ifs : List Expr) (wt : WT) : Prop :=
  ∀ (pins : List (Addr × Obj)) (s : Shared) (σ : L2.St) (H : Hp) (Q : Bool → Hp → Prop), Inv X pins σ H s → lT X.K wt σ H Q →
    wpAny (model X.prog X.w) X.A (forIn ifs true fun c r => if r = true then do let ok ← isTrue c X.env (eval c X.env); pure (ForInStep.yield ok) else pure (ForInStep.yield r)) (TP X pins σ Q) X.xe s
theorem tests_none {X : Cx} : TestsOk X [] wYes := fun pins s σ H Q I ⟨ρ, S, Q', env, st, hw, post⟩ => wpAny_tests_nil ⟨H, I, post true S H hw (Ext.refl H) st⟩
theorem tests_one {X : Cx} {c : Expr} {wt : WT} (h : DT X c wt) : TestsOk X [c] wt := fun pins s σ H Q I hw => wpAny_tests_one (h pins s σ H Q I hw)
noncomputable def AccAt (h : Heap) (D : Addr) (us : List Value) : Prop := ∃ n, h.get? D = some { cls := .type "list", data := .seq us.toArray n }
section
variable {X : Cx} {pins : List (Addr × Obj)} {σ : L2.St} {H : Hp} {s : Shared}
theorem Inv.pin1 {b : Addr} {o : Obj} (I : Inv X pins σ H s) (hf : FpOk X pins H b) (e : s.heap.get? b = some o) (hd : ∀ v, o.data ≠ .cell v) : Inv X (pins ++ [(b, o)]) σ H s :=
  I.pins_of fun p hp => (List.mem_append.mp hp).elim (fun z => I.pin p (List.mem_append_right _ z)) fun z => by
    have z' : p = (b, o) := List.mem_singleton.mp z
    subst z'
    exact ⟨e, hf.1, hf.2.1, hf.2.2.1, hd⟩
theorem Inv.pinned1 {b : Addr} {o : Obj} (I : Inv X (pins ++ [(b, o)]) σ H s) : s.heap.get? b = some o ∧ H b = none :=
  let z := I.pin (b, o) (List.mem_append_right _ (List.mem_append_right _ (List.mem_singleton.mpr rfl)))
  ⟨z.1, z.2.1⟩
end
inductive CompAt (K : PySem.W.Frag) (Y : Cx) (fp : List Addr) (tn : Nat → Heap → Prop) (D : Addr) (H2 : Hp) (vs : List V) (ds : List Dv) (wt : WT) (we : WE) (Qf : List Dv → Sto → Prop) (n : Nat) (s' : Shared) : Prop
  | mk (i : Nat) (acc : List Dv) (us : List Value) (ys : List V) (σ' : L2.St) (H' : Hp) (S' : Sto) (en : n = vs.length - i) (hi : i ≤ vs.length) (inv : Inv Y [] σ' H' s') (t : tn i s'.heap) (f : ∀ b ∈ fp, H' b = none) (d : H' D = none) (a : AccAt s'.heap D us) (v : Vals ys us)
      (l : ys.length ≤ i) (e : dens K H' acc ys) (st : StOk K H' S') (x : Ext H2 H') (c : cmpL wt we (ds.drop i) S' acc Qf) : CompAt K Y fp tn D H2 vs ds wt we Qf n s'
theorem thx {α : Type} {t : Sem α} {Q Q' : α → Shared → Prop} {M : Model} {A : Around} {E : Value → Shared → Prop} {s : Shared} (h : wpAny M A t Q (fun _ _ => False) s) (hQ : ∀ a s, Q a s → Q' a s) : wpAny M A t Q' E s := wpAny_mono h hQ fun _ _ z => z.elim
section
variable {X : Cx} {elt iter : Expr} {x : Str} {px pos : Pos} {ifs : List Expr} {sc : Scope} {src : WE} {wt : WT} {we : WE}
theorem comp_loop {C D it a : Addr} {fp : List Addr} {tn : Nat → Heap → Prop} {s2 : Shared} {H2 : Hp} {vs : List V} {ds : List Dv} {R : Result → Shared → Prop} {Qf : List Dv → Sto → Prop}
    (ht : ∀ C s H fp, TestsOk (cxC X sc x C s H fp) ifs wt) (he : ∀ C s H fp, DE (cxC X sc x C s H fp) elt we) (hx : sc.names.lookup x = some .local) (hcalm : X.calm = true)
    (T : Turn X.prog X.w X.K (.Name x px) (Itl X.K a) fp it tn) (hfD : ∀ H', H' D = none → FpOk (cxC X sc x C s2 H2 fp) [] H' D) (hff : ∀ H', (∀ b ∈ fp, H' b = none) → ∀ b ∈ fp, FpOk (cxC X sc x C s2 H2 fp) [] H' b) (hDf : D ∉ fp)
    (hq : SqR X.K H2 a vs) (hv : dens X.K H2 ds vs) (hz : vs.length ≤ sizeLine)
    (fin : ∀ (acc : List Dv) (us : List Value) (ys : List V) (σ' : L2.St) (H' : Hp) (S' : Sto) (s' : Shared), Inv (cxC X sc x C s2 H2 fp) [] σ' H' s' → H' D = none → AccAt s'.heap D us → Vals ys us → ys.length ≤ sizeLine → dens X.K H' acc ys → StOk X.K H' S' → Ext H2 H' → Qf acc S' → R (.ok .next) s') :
    ∀ (i : Nat) (acc : List Dv) (us : List Value) (ys : List V) (σ' : L2.St) (H' : Hp) (S' : Sto) (s' : Shared), i ≤ vs.length → Inv (cxC X sc x C s2 H2 fp) [] σ' H' s' → tn i s'.heap → (∀ b ∈ fp, H' b = none) → H' D = none → AccAt s'.heap D us → Vals ys us → ys.length ≤ i → dens X.K H' acc ys → StOk X.K H' S' → Ext H2 H' →
      cmpL wt we (ds.drop i) S' acc Qf → codeAny (model X.prog X.w) X.A (.compLoop (.ListComp elt [⟨.Name x px, iter, ifs, 0⟩] sc pos) 0 (.ref it) (.ref D) (cxC X sc x C s2 H2 fp).env) R s' := by
  intro i₀ acc₀ us₀ ys₀ σ₀ H₀ S₀ s₀ hi₀ I₀ t₀ f₀ d₀ a₀ v₀ l₀ e₀ st₀ x₀ c₀
  refine codeAny_compLoop_tests (fun n s' => CompAt X.K (cxC X sc x C s2 H2 fp) fp tn D H2 vs ds wt we Qf n s')
    ?_ (vs.length - i₀) ⟨i₀, acc₀, us₀, ys₀, σ₀, H₀, S₀, rfl, hi₀, I₀, t₀, f₀, d₀, a₀, v₀, l₀, e₀, st₀, x₀, c₀⟩
  rintro n s3 ⟨i, acc, us, ys, σ', H', S', rfl, hi, I3, t3, f3, d3, ⟨k, a3⟩, v3, l3, e3, st3, x3, c3⟩
  have notc : ∀ v, ({ cls := .type "list", data := .seq us.toArray k } : Obj).data ≠ .cell v := fun v z => by
    have z' : Data.seq us.toArray k = Data.cell v := z
    cases z'
  have I3d := Inv.pin1 I3 (hfD H' d3) a3 notc
  have hl := dens_len hv
  by_cases hlt : i < vs.length
  · have hvi : vs[i]? = some vs[i] := by simp [hlt]
    obtain ⟨dx, hdx, ddx⟩ := dens_get' hv hvi
    rw [drop_cons' hdx] at c3
    have ffp : ∀ b ∈ fp, FpOk (cxC X sc x C s2 H2 fp) ([] ++ [(D, { cls := .type "list", data := .seq us.toArray k })]) H' b := fun b hb => by
      obtain ⟨g0, g1, g2, g3, g4, g5⟩ := hff H' f3 b hb
      refine ⟨g0, g1, g2, g3, g4, fun p hp z => ?_⟩
      have hp' : p ∈ ([(D, { cls := .type "list", data := .seq us.toArray k })] : List (Addr × Obj)) := hp
      cases List.mem_singleton.mp hp'
      exact hDf (by rw [show D = b from z]; exact hb)
    refine thn (T.item (cxC X sc x C s2 H2 fp) rfl rfl rfl hcalm i _ s3 σ' H' _ I3d ffp t3 ⟨vs, vs[i], (x3.sqR hq).sq, hvi⟩) fun r s4 ⟨u, er, h4⟩ => ?_
    subst er
    show wpAny _ _ (letOwnedTupleGo (.Name x px) (.ref it) u >>= fun _ => assign (.Name x px) (cxC X sc x C s2 H2 fp).env u) _ _ s4
    refine wpAny_bind (thn h4 fun _ s5 ⟨xv, H5, I5, r5, ⟨eH, y5⟩, t5, f5⟩ => ?_)
    subst eH
    have exv : xv = vs[i] := by
      have z := y5 vs (x3.sqR hq).sq
      rw [hvi] at z
      exact (Option.some.inj z).symm
    subst exv
    have I5p := I5.pinned (fp := fp) ffp (T.obj _ _ t5)
    refine thx (pg_name (X := cxC X sc x C s2 H2 fp) (i := 0) (x := x) (pos := px) (by simp) rfl (Or.inl hx) (Or.inr hx) _ s5 σ' H5 _ u (fun σ6 H6 => σ6 = σ'.set 0 (some vs[i]) ∧ H6 = H5) I5p r5 ⟨rfl, rfl⟩) fun _ s6 ⟨σ6, H6, I6, eσ, eH⟩ => ?_
    subst eσ eH
    have hσ : σ'.length = 1 := I3.len
    have env6 : EnvOk X.K H6 [some dx] (σ'.set 0 (some vs[i])) := by
      refine ⟨by rw [List.length_set, hσ]; rfl, fun j e q => ?_⟩
      cases j with
      | zero =>
        have q' : dx = e := Option.some.inj (Option.some.inj q)
        subst q'
        exact ⟨vs[i], by rw [List.getElem?_set_self (by omega)], den_ext x3 _ _ ddx⟩
      | succ j => simp at q
    have again : ∀ (acc' : List Dv) (us' : List Value) (ys' : List V) (σ7 : L2.St) (H7 : Hp) (S7 : Sto) (s7 : Shared) (pl : List (Addr × Obj)), Inv (cxC X sc x C s2 H2 fp) pl σ7 H7 s7 → (∀ b ∈ fp, ∀ o, s5.heap.get? b = some o → s7.heap.get? b = some o) → (∀ b ∈ fp, H7 b = none) → H7 D = none → AccAt s7.heap D us' → Vals ys' us' → ys'.length ≤ i + 1 → dens X.K H7 acc' ys' → StOk X.K H7 S7 → Ext H2 H7 →
        cmpL wt we (ds.drop (i + 1)) S7 acc' Qf → ∃ m, m < vs.length - i ∧ CompAt X.K (cxC X sc x C s2 H2 fp) fp tn D H2 vs ds wt we Qf m s7 :=
      fun acc' us' ys' σ7 H7 S7 s7 pl I7 k7 f7 d7 a7 v7 l7 e7 st7 x7 c7 => ⟨vs.length - (i + 1), by omega, i + 1, acc', us', ys', σ7, H7, S7, rfl, hlt, I7.pins_of (fun p hp => by cases hp), T.keep _ _ _ t5 fun b hb o e => k7 b hb o e, f7, d7, a7, v7, l7, e7, st7, x7, c7⟩
    have pinD : ∀ {σ7 : L2.St} {H7 : Hp} {s7 : Shared}, L2.Inv (cxC X sc x C s2 H2 fp) (([] ++ [(D, { cls := .type "list", data := .seq us.toArray k })]) ++ pinsAt fp s5.heap) σ7 H7 s7 → s7.heap.get? D = some { cls := .type "list", data := .seq us.toArray k } ∧ H7 D = none := fun {σ7 H7 s7} J =>
      let z := J.pin (D, { cls := .type "list", data := .seq us.toArray k }) (List.mem_append_right _ (List.mem_append_left _ (List.mem_append_right _ (List.mem_singleton.mpr rfl))))
      ⟨z.1, z.2.1⟩
    have pinF : ∀ {σ7 : L2.St} {H7 : Hp} {s7 : Shared}, L2.Inv (cxC X sc x C s2 H2 fp) (([] ++ [(D, { cls := .type "list", data := .seq us.toArray k })]) ++ pinsAt fp s5.heap) σ7 H7 s7 → (∀ b ∈ fp, ∀ o, s5.heap.get? b = some o → s7.heap.get? b = some o) ∧ ∀ b ∈ fp, H7 b = none := fun {σ7 H7 s7} J =>
      ⟨fun b hb o e => (J.pin (b, o) (List.mem_append_right _ (List.mem_append_right _ (mem_pinsAt hb e)))).1, fun b hb => by
        obtain ⟨o, e, _⟩ := T.obj _ _ t5 b hb
        exact (J.pin (b, o) (List.mem_append_right _ (List.mem_append_right _ (mem_pinsAt hb e)))).2.1⟩
    refine thx (ht C s2 H2 fp _ s6 _ H6 (fun b H7 => ∃ S7, StOk X.K H7 S7 ∧ Ext H6 H7 ∧ if b = true then we [some dx] S7 fun y S8 => cmpL wt we (ds.drop (i + 1)) S8 (acc ++ [y]) Qf else cmpL wt we (ds.drop (i + 1)) S7 acc Qf) I6 ⟨[some dx], S', _, env6, st3, c3, fun b S7 H7 q7 x7 st7 => ⟨S7, st7, x7, q7⟩⟩) fun b s7 ⟨H7, I7, S7, st7, x7, q7⟩ => ?_
    cases b with
    | false =>
      exact again acc us ys _ H7 S7 s7 _ I7 (pinF I7).1 (pinF I7).2 (pinD I7).2 ⟨k, (pinD I7).1⟩ v3 (Nat.le_succ_of_le l3) (dens_ext x7 _ _ e3) st7 (x3.trans x7) q7
    | true =>
      refine thx (he C s2 H2 fp _ s7 _ H7 (fun v H8 => ∃ y S8, StOk X.K H8 S8 ∧ Ext H7 H8 ∧ den X.K H8 y v ∧ cmpL wt we (ds.drop (i + 1)) S8 (acc ++ [y]) Qf) I7 ⟨[some dx], S7, _, env6.ext x7, st7, q7, fun y S8 v H8 q8 x8 st8 hd8 => ⟨y, S8, st8, x8, hd8, q8⟩⟩) fun u8 s8 ⟨v8, H8, I8, r8, y, S8, st8, x8, hd8, q8⟩ => ?_
      obtain ⟨a8, d8⟩ := pinD I8
      refine call_meets F.slot_list_append ⟨_, a8, rfl⟩ F.entry_list_append (F.args_list_append_2 _ _) (PySem.list_append D us.toArray k u8 (by rw [List.size_toArray, ← v3.length]; omega)) ⟨a8, ?_⟩
      have q := PySem.IsL.update a8 (fun xs => xs.push u8)
      have eu : us.toArray.push u8 = (us ++ [u8]).toArray := by simp
      rw [eu] at q
      obtain ⟨fk, f8⟩ := pinF I8
      have fD := hfD H8 d8
      have I9 : ∀ t', L2.Inv (cxC X sc x C s2 H2 fp) [] (σ'.set 0 (some vs[i])) H8 { s8 with heap := s8.heap.update D (Obj.mapSeq fun xs => xs.push u8), toks := t' } := fun t' =>
        (I8.pins_of (pins' := []) (fun p hp => by cases hp)).turned (it := D) (fun b o hb e => (Heap.get?_update_other s8.heap (Obj.mapSeq fun xs => xs.push u8) (Ne.symm hb)).trans e) d8 fD.2.1 fD.2.2.2.1 fD.2.2.2.2.1 fD.2.2.2.2.2
      refine again (acc ++ [y]) (us ++ [u8]) (ys ++ [v8]) _ H8 S8 _ [] (I9 _) (fun b hb o e => (Heap.get?_update_other s8.heap (Obj.mapSeq fun xs => xs.push u8) (fun z => hDf (by rw [z]; exact hb))).trans (fk b hb o e)) f8 d8 ⟨_, q⟩ (v3.append (.cons r8 .nil)) ?_ (dens_append (dens_ext (x7.trans x8) _ _ e3) (dens_cons hd8 dens_nil)) st8 (x3.trans (x7.trans x8)) q8
      rw [List.length_append, List.length_singleton]
      exact Nat.succ_le_succ l3
  · have ei : i = vs.length := by omega
    have ffp : ∀ b ∈ fp, FpOk (cxC X sc x C s2 H2 fp) ([] ++ [(D, { cls := .type "list", data := .seq us.toArray k })]) H' b := fun b hb => by
      obtain ⟨g0, g1, g2, g3, g4, g5⟩ := hff H' f3 b hb
      refine ⟨g0, g1, g2, g3, g4, fun p hp z => ?_⟩
      have hp' : p ∈ ([(D, { cls := .type "list", data := .seq us.toArray k })] : List (Addr × Obj)) := hp
      cases List.mem_singleton.mp hp'
      exact hDf (by rw [show D = b from z]; exact hb)
    refine thn (T.done (cxC X sc x C s2 H2 fp) rfl rfl rfl hcalm i _ s3 σ' H' _ I3d ffp t3 ⟨vs, (x3.sqR hq).sq, by omega⟩) fun r s4 ⟨er, I4⟩ => ?_
    subst er
    obtain ⟨a4, d4⟩ := Inv.pinned1 I4
    rw [List.drop_eq_nil_of_le (by omega)] at c3
    exact fin acc us ys σ' H' S' s4 (I4.pins_of (pins' := []) (fun p hp => by cases hp)) d4 ⟨k, a4⟩ v3 (by omega) e3 st3 x3 c3
end
section
variable {X : Cx} {elt iter : Expr} {x : Str} {px pos : Pos} {ifs : List Expr} {sc : Scope} {src : WE} {wt : WT} {we : WE}
theorem comp_end {pins : List (Addr × Obj)} {σ σ' : L2.St} {H2 H' : Hp} {s2 s' : Shared} {C : Addr} {fp : List Addr} {h' : Heap} {us : List Value} {ys : List V} (I2 : L2.Inv X pins σ H2 s2) (f2 : ∀ b ∈ fp, FpOk X pins H2 b)
    (I : L2.Inv (cxC X sc x C s2 H2 fp) [] σ' H' s') (hC : s2.heap.objs.size < C) (d : H' s2.heap.objs.size = none) (hu : AccAt s'.heap s2.heap.objs.size us) (v : Vals ys us) (hz : ys.length ≤ sizeLine) (sb : Heap.SameBut C s'.heap h') :
    ∃ o, L2.Inv X pins σ (upd H' s2.heap.objs.size (.frz o (.lst ys))) { s' with heap := h' } := by
  obtain ⟨k, hk⟩ := hu
  have hD : h'.get? s2.heap.objs.size = some { cls := .type "list", data := .seq us.toArray k } := (sb.2 _ (Nat.ne_of_lt hC)).trans hk
  have hCn : H' C = none := I.free
  have kp : ∀ b ob, b ≠ C → s'.heap.get? b = some ob → h'.get? b = some ob := fun b ob hb e => (sb.2 b hb).trans e
  have old : ∀ b ob, s2.heap.get? b = some ob → b ≠ C ∧ b ≠ s2.heap.objs.size := fun b ob e => ⟨Nat.ne_of_lt (Nat.lt_trans (Heap.lt_size e) hC), Nat.ne_of_lt (Heap.lt_size e)⟩
  have B := I.base
  refine ⟨{ cls := .type "list", data := .seq us.toArray k }, I2.call' (s' := { s' with heap := h' }) (ch := fp) I.os ⟨fun b ob e n hb hx => ?_, fun b ob e n hb hx => ?_, fun b ob e n hx => ?_, fun b ob e hx => ?_, fun b xs e => ?_, fun b ob u e => ?_, fun b ps e => ?_⟩ ?_ I.bare fun b hb => ?_⟩
  · exact kp b ob (old b ob e).1 (B.keep b ob e n hb hx)
  · obtain ⟨sl, q⟩ := B.slot b ob e n hb hx
    exact ⟨sl, kp b _ (old b ob e).1 q⟩
  · rw [upd_ne (old b ob e).2]
    exact B.free b ob e n hx
  · obtain ⟨o', q⟩ := B.there b ob e hx
    exact ⟨o', kp b _ (old b ob e).1 q⟩
  · rw [upd_ne (fun z => by have q := B.tups b xs e; rw [z, d] at q; cases q)]
    exact B.tups b xs e
  · rw [upd_ne (fun z => by have q := B.frzs b ob u e; rw [z, d] at q; cases q)]
    exact B.frzs b ob u e
  · obtain ⟨more, q⟩ := B.tbls b ps e
    exact ⟨more, by rw [upd_ne (fun z => by rw [z, d] at q; cases q)]; exact q⟩
  · intro b u q
    by_cases hb : b = s2.heap.objs.size
    · subst hb
      rw [upd_same] at q
      cases q
      exact ⟨hD, hz, us, k, v, hD⟩
    · rw [upd_ne hb] at q
      refine (I.hok b u q).stay (fun c w hc e => kp c w (fun z => ?_) e) (fun c hc => ?_) fun c zs hc => ?_
      · rcases hc with hc | hc
        · rw [← hc, z, hCn] at q; cases q
        · rw [z, hCn] at hc; cases hc
      · rw [upd_ne (fun z => by rw [z, d] at hc; cases hc)]; exact hc
      · rw [upd_ne (fun z => by rw [z, d] at hc; cases hc)]; exact hc
  · obtain ⟨_, z1, _, z3, z4, z5⟩ := f2 b hb
    exact ⟨z3, z1, z4, z5⟩
theorem de_compG (hi : DE X iter src) (ht : ∀ C s H fp, TestsOk (cxC X sc x C s H fp) ifs wt) (he : ∀ C s H fp, DE (cxC X sc x C s H fp) elt we)
    (hfree : ∀ y ∈ sc.names, y.2 ≠ .free) (hcell : ∀ y ∈ sc.names, y.2 ≠ .cell) (hkind : sc.kind = .function) (hnames : ∀ y ∈ sc.names, y.2 = .local → sc.names.lookup y.1 = some .local) (hx : sc.names.lookup x = some .local) (hcalm : X.calm = true)
    (hs : ∀ x, foldedSetIterable iter X.env x = pure x) : DE X (.ListComp elt [⟨.Name x px, iter, ifs, 0⟩] sc pos) (wCompIf src wt we) := by
  intro pins s σ H Q I ⟨ρ, S, Q', env, st, hw, post⟩
  refine wpAny_ListComp hfree hkind hnames ?_ hs
  have hpi := pi_list (tg := .Name x px) hi pins s σ H (fun J H1 => ∃ a vs ds S1, J = Itl X.K a ∧ SqR X.K H1 a vs ∧ dens X.K H1 ds vs ∧ StOk X.K H1 S1 ∧ Ext H H1 ∧ cmpL wt we ds S1 [] fun ys S2 => Q' (.lst ys) S2) I
    ⟨ρ, S, _, env, st, hw, fun d S1 v H1 q e st1 hd => by
      obtain ⟨ds, hds, q⟩ := goL_inv q
      obtain ⟨a, vs, rfl, hq, hv⟩ := roL_ok hd hds
      exact ⟨a, rfl, ⟨vs, hq.sq⟩, a, vs, ds, S1, rfl, hq, hv, st1, e, q⟩⟩
  refine thn hpi fun xv s1 h1 => thn h1 fun itv s2 h2 => ?_
  obtain ⟨it, fp, tn, J, H2, rfl, I2, T, t2, f2, a, vs, ds, S1, rfl, hq, hv, sto, ex, hc⟩ := h2
  refine wpAny_newObj_type (wpAny_newFunctionEnv hcell (by intro y hy; cases hy) (fun h₁ hns hsb => ?_) hkind)
  have hlt : ∀ b ∈ fp, b < s2.heap.objs.size := fun b hb => by
    obtain ⟨o, e, _⟩ := T.obj 0 s2.heap t2 b hb
    exact Heap.lt_size e
  have eC : (s2.heap.push { cls := .type "list", data := .seq #[] }).objs.size = s2.heap.objs.size + 1 := Heap.size_push ..
  have keep : ∀ b o, s2.heap.get? b = some o → h₁.get? b = some o := fun b o e => by
    have z : b ≠ (s2.heap.push { cls := .type "list", data := .seq #[] }).objs.size := by
      rw [eC]; exact Nat.ne_of_lt (Nat.lt_succ_of_lt (Heap.lt_size e))
    exact (hsb.2 b z).trans (Heap.get?_push_of_some _ (Heap.get?_push_of_some _ e))
  have acc0 : AccAt h₁ s2.heap.objs.size [] := by
    have z : s2.heap.objs.size ≠ (s2.heap.push { cls := .type "list", data := .seq #[] }).objs.size := by
      rw [eC]; exact Nat.ne_of_lt (Nat.lt_succ_self _)
    exact ⟨_, (hsb.2 _ z).trans (Heap.get?_push_of_some _ (Heap.get?_push_size _ rfl))⟩
  have hns' : h₁.Ns (s2.heap.objs.size + 1) fun x => List.lookup x ([] : List (Str × Value)).reverse := by
    have q := hns
    dsimp only at q
    rw [eC] at q
    exact q
  have I4 : ∀ t, L2.Inv (cxC X sc x (s2.heap.objs.size + 1) s2 H2 fp) [] [none] H2 { s2 with heap := h₁, toks := t } := fun t => inv_comp I2 (Nat.le_succ _) keep hns' hfree hcell hkind f2 hlt
  have hz : vs.length ≤ sizeLine := (I2.list hq.sq).choose_spec.2.2
  have loop : ∀ t, codeAny (model X.prog X.w) X.A (.compLoop (.ListComp elt [⟨.Name x px, iter, ifs, 0⟩] sc pos) 0 (.ref it) (.ref s2.heap.objs.size) (cxC X sc x (s2.heap.objs.size + 1) s2 H2 fp).env)
      (fun r s' => ∃ m, s'.heap.Ns (s2.heap.objs.size + 1) m ∧ ∀ h', Heap.SameBut (s2.heap.objs.size + 1) s'.heap h' →
        match r with | .ok _ => EP X pins σ Q (.ref s2.heap.objs.size) { s' with heap := h' } | .error z => wpAny (model X.prog X.w) X.A (passOn "comprehension.variables-let-go" z (cxC X sc x (s2.heap.objs.size + 1) s2 H2 fp).env) (EP X pins σ Q) X.xe { s' with heap := h' }) { s2 with heap := h₁, toks := t } := fun t => by
    refine comp_loop (C := s2.heap.objs.size + 1) (D := s2.heap.objs.size) (s2 := s2) (H2 := H2) (vs := vs) (ds := ds) ht he hx hcalm T ?_ ?_ (fun z => absurd (hlt _ z) (Nat.lt_irrefl _)) hq hv hz ?_ 0 [] [] [] [none] H2 S1 _ (Nat.zero_le _) (I4 t) (T.keep 0 s2.heap h₁ t2 fun b hb o e => keep b o e) (fun b hb => (f2 b hb).1) I2.fresh acc0 .nil (Nat.le_refl _) dens_nil sto (Ext.refl _) hc
    · intro H' d
      refine ⟨d, Nat.ne_of_lt (Nat.lt_succ_self _), stk_no I2 (Nat.ne_of_gt I2.lt) (I2.nofs (Nat.le_refl _)), .inr (Nat.le_refl _), fun y c e => ?_, fun p hp => ?_⟩
      · have e' : ([] : List (Str × Addr)).lookup y = some c := e
        cases e'
      · have hp' : p ∈ ([] : List (Addr × Obj)) := hp
        cases hp'
    · intro H' hn b hb
      refine ⟨hn b hb, Nat.ne_of_lt (Nat.lt_succ_of_lt (hlt b hb)), stk_no I2 (f2 b hb).2.1 (f2 b hb).2.2.1, .inl hb, fun y c e => ?_, fun p hp => ?_⟩
      · have e' : ([] : List (Str × Addr)).lookup y = some c := e
        cases e'
      · have hp' : p ∈ ([] : List (Addr × Obj)) := hp
        cases hp'
    · intro acc us ys σ' H' S' s' I' d' a' v' z' e' st' x' q'
      obtain ⟨m, hm, _⟩ := I'.loc
      refine ⟨m, hm, fun h' sb => ?_⟩
      obtain ⟨o, I''⟩ := comp_end I2 f2 I' (Nat.lt_succ_self _) d' a' v' z' sb
      have sm := same_new d' (.frz o (.lst ys))
      exact ⟨.ref s2.heap.objs.size, _, I'', rfl, post (.lst acc) S' (.ref s2.heap.objs.size) _ q' ((ex.trans x').trans (ext_same sm)) (st'.same sm) ⟨_, o, ys, rfl, upd_same, dens_ext (ext_same sm) _ _ e'⟩⟩
  have fin := codeAny_compStart_list (loop (s2.toks + ([] : List (Str × Value)).length)) (T.self X.A 0 _ _ _ (T.keep 0 s2.heap h₁ t2 fun b hb o e => keep b o e) (loop _))
  simp only [eC]
  exact fin
end
theorem de_compIf {X : Cx} {elt iter c : Expr} {x : Str} {px pos : Pos} {sc : Scope} {src : WE} {wt : WT} {we : WE} (hi : DE X iter src) (ht : ∀ C s H fp, DT (cxC X sc x C s H fp) c wt) (he : ∀ C s H fp, DE (cxC X sc x C s H fp) elt we)
    (hfree : ∀ y ∈ sc.names, y.2 ≠ .free := by decide) (hcell : ∀ y ∈ sc.names, y.2 ≠ .cell := by decide) (hkind : sc.kind = .function := by rfl) (hnames : ∀ y ∈ sc.names, y.2 = .local → sc.names.lookup y.1 = some .local := by decide) (hx : sc.names.lookup x = some .local := by rfl) (hcalm : X.calm = true := by rfl)
    (hs : ∀ x, foldedSetIterable iter X.env x = pure x := by intro _; rfl) : DE X (.ListComp elt [⟨.Name x px, iter, [c], 0⟩] sc pos) (wCompIf src wt we) :=
  de_compG hi (fun C s H fp => tests_one (ht C s H fp)) he hfree hcell hkind hnames hx hcalm hs
theorem de_comp {X : Cx} {elt iter : Expr} {x : Str} {px pos : Pos} {sc : Scope} {src : WE} {we : WE} (hi : DE X iter src) (he : ∀ C s H fp, DE (cxC X sc x C s H fp) elt we)
    (hfree : ∀ y ∈ sc.names, y.2 ≠ .free := by decide) (hcell : ∀ y ∈ sc.names, y.2 ≠ .cell := by decide) (hkind : sc.kind = .function := by rfl) (hnames : ∀ y ∈ sc.names, y.2 = .local → sc.names.lookup y.1 = some .local := by decide) (hx : sc.names.lookup x = some .local := by rfl) (hcalm : X.calm = true := by rfl)
    (hs : ∀ x, foldedSetIterable iter X.env x = pure x := by intro _; rfl) : DE X (.ListComp elt [⟨.Name x px, iter, [], 0⟩] sc pos) (wComp src we) :=
  de_compG hi (fun C s H fp => tests_none) he hfree hcell hkind hnames hx hcalm hs
end MQ
namespace MQ
open PySem PySem.Spec PyProof.Rows L2
noncomputable def tyD' (S : Sto) : Dv → Option String
  | .non => some "NoneType"
  | .bl _ => some "bool"
  | .int _ => some "int"
  | .str _ => some "str"
  | .tup _ => some "tuple"
  | .lst _ => some "list"
  | .scr _ => some "list"
  | .ref a => match S a with
    | some (.lst _) => some "list"
    | _ => none
noncomputable def tyI (T : String) : Option Nat := match T with
  | "int" => some 0 | "bool" => some 1 | "str" => some 2 | "tuple" => some 3 | "list" => some 4 | "dict" => some 5 | "NoneType" => some 6
  | _ => none
noncomputable def nmI (i : Nat) : String := match i with
  | 0 => "int" | 1 => "bool" | 2 => "str" | 3 => "tuple" | 4 => "list" | 5 => "dict" | _ => "NoneType"
theorem tyI_nm {T : String} {i : Nat} (h : tyI T = some i) : T = nmI i ∧ i < 7 := by
  unfold tyI at h
  split at h <;> first
    | (cases h; exact ⟨rfl, by decide⟩)
    | cases h
noncomputable def kitN (i j : Nat) : Option Bool := match i == 5 || j == 6 with
  | true => none
  | false => some (i == j || (i == 1 && j == 0))
noncomputable def kit (t T : String) : Option Bool := (tyI t).bind fun i => (tyI T).bind fun j => kitN i j
theorem kit_all {K : PySem.W.Frag} : ∀ i, i < 7 → ∀ j, j < 7 → ∀ b, kitN i j = some b → PySem.W.kitOne K (.type (nmI i)) (.type (nmI j)) = some b := by
  intro i hi j hj b h
  have e : ∀ n, n < 7 → n = 0 ∨ n = 1 ∨ n = 2 ∨ n = 3 ∨ n = 4 ∨ n = 5 ∨ n = 6 := by decide
  rcases e i hi with rfl | rfl | rfl | rfl | rfl | rfl | rfl <;> rcases e j hj with rfl | rfl | rfl | rfl | rfl | rfl | rfl <;> cases h <;> rfl
theorem kit_ok {K : PySem.W.Frag} {t T : String} {b : Bool} (h : kit t T = some b) : PySem.W.kitOne K (.type t) (.type T) = some b := by
  unfold kit at h
  cases h1 : tyI t with
  | none => rw [h1] at h; cases h
  | some i =>
    rw [h1] at h
    cases h2 : tyI T with
    | none => rw [h2] at h; cases h
    | some j =>
      rw [h2] at h
      obtain ⟨e1, l1⟩ := tyI_nm h1
      obtain ⟨e2, l2⟩ := tyI_nm h2
      subst e1 e2
      exact kit_all i l1 j l2 b h
noncomputable def isI (S : Sto) (T : String) (d : Dv) : Option Dv := (tyD' S d).bind fun t => (kit t T).map .bl
noncomputable def wIsI (T : String) (w : WE) : WE := fun ρ S Q => w ρ S fun d S1 => go (isI S1 T d) S1 Q
section
variable {X : Cx}
inductive rIsI (K : PySem.W.Frag) (T : String) (xs : List V) (H : Hp) (Q : VK) : Prop
  | mk (S : Sto) (x : V) (d : Dv) (b : Bool) (ex : xs = [x, .ty T]) (st : StOk K H S) (hd : den K H d x) (hi : isI S T d = some (.bl b)) (q : Q (.bl b) H) : rIsI K T xs H Q
theorem isI_inv {S : Sto} {T : String} {d e : Dv} (h : isI S T d = some e) : ∃ t b, tyD' S d = some t ∧ kit t T = some b ∧ e = .bl b := by
  unfold isI at h
  cases h1 : tyD' S d with
  | none => rw [h1] at h; cases h
  | some t =>
    rw [h1] at h
    cases h2 : kit t T with
    | none => simp [h2] at h
    | some b => simp [h2] at h; exact ⟨t, b, rfl, h2, h.symm⟩
theorem c_isi {T : String} : CallR X (.builtin "isinstance") (rIsI X.K T) := by
  intro pins s σ H xs us Q I r ⟨S, x, d, b, ex, st, hd, he, q⟩
  subst ex
  obtain ⟨u, c, rfl, ru, rc⟩ := r.two
  obtain rfl : c = Value.type T := rc
  obtain ⟨t, b', ht, hk, eb⟩ := isI_inv he
  cases eb
  have fin : ∀ tk, EP X pins σ Q (.bool b) { s with toks := tk } := fun tk => ⟨.bl b, H, I.tok tk, rfl, q⟩
  have K1 := kit_ok (K := X.K) hk
  cases d with
  | non => cases ht; cases (show x = .non from hd); cases ru; exact PySem.W.kia_one PySem.W.kitx_none I.kIn True.intro K1 (fun z => nomatch z) fin
  | bl y => cases ht; cases (show x = .bl y from hd); cases ru; exact PySem.W.kia_one PySem.W.kitx_bool I.kIn True.intro K1 (fun z => nomatch z) fin
  | int y => cases ht; cases (show x = .int y from hd); obtain ⟨tt, rfl⟩ := ru; exact PySem.W.kia_one PySem.W.kitx_int I.kIn True.intro K1 (fun z => nomatch z) fin
  | str y => cases ht; cases (show x = .str y from hd); obtain ⟨tt, rfl⟩ := ru; exact PySem.W.kia_one PySem.W.kitx_str I.kIn True.intro K1 (fun z => nomatch z) fin
  | tup ds =>
    cases ht
    obtain ⟨a, vs, rfl, h1, h2⟩ := rD_tup hd
    cases ru
    obtain ⟨its, _, ⟨o, e1, e2, _⟩, _⟩ := I.tuple h1
    exact PySem.W.kia_one PySem.W.kitx_tuple I.kIn ⟨o, e1, e2⟩ K1 (fun z => nomatch z) fin
  | lst ds =>
    cases ht
    obtain ⟨a, o, vs, rfl, h1, h2⟩ := rD_lst hd
    cases ru
    obtain ⟨its, _, ⟨o, k, e1, e2, _⟩, _⟩ := I.list (.inl (.inr ⟨o, h1⟩))
    exact PySem.W.kia_one PySem.W.kitx_list I.kIn ⟨o, e1, e2⟩ K1 (fun z => nomatch z) fin
  | scr ds =>
    cases ht
    obtain ⟨a, rfl, h1⟩ := rD_scr hd
    cases ru
    obtain ⟨its, _, ⟨o, k, e1, e2, _⟩, _⟩ := I.list h1.sq
    exact PySem.W.kia_one PySem.W.kitx_list I.kIn ⟨o, e1, e2⟩ K1 (fun z => nomatch z) fin
  | ref a =>
    cases (show x = .ref a from hd)
    have e2 : (match S a with
      | some (.lst _) => some "list"
      | _ => none) = some t := ht
    split at e2
    · rename_i ds hs
      cases e2
      obtain ⟨vs, h1, h2⟩ := st a _ hs
      cases ru
      obtain ⟨its, _, ⟨o, k, e1, e2, _⟩, _⟩ := I.list (.inl (.inl h1))
      exact PySem.W.kia_one PySem.W.kitx_list I.kIn ⟨o, e1, e2⟩ K1 (fun z => nomatch z) fin
    · cases e2
theorem de_isi {T : String} {x : Str} {e : Expr} {w : WE} {p q pos : Pos} (hm : X.mg "isinstance" = none) (hT : X.mg x = none) (hb : bootBuiltins x = some (.type T)) (he : DE X e w) (hg : Gl X "isinstance" := by rfl) (hgT : Gl X x := by rfl)
    (hn : x ≠ "__name__" := by decide) (hd : (x == ("__debug__" : Str)) = false := by decide) (hv : bootBuiltins "isinstance" = some (.builtin "isinstance") := by decide +kernel)
    (hs : starEach (e :: [.Name x q]) X.env = (false, eval e X.env) :: starEach [.Name x q] X.env := by rfl) (hpl : (backTo pos (starEach [.Name x q] X.env)).any (·.1) = false := by rfl) :
    DE X (.Call (.Name "isinstance" p) [e, .Name x q] [] pos) (wIsI T w) :=
  PE.weak (pe_callB (c_isi (T := T)) hg hm hv (pa_cons he (pa_cons (pe_bltn hgT hT hb (v := .ty T) rfl hn hd) pa_nil) hs) (by decide) (by decide) hs hpl) fun σ H Q ⟨ρ, S, Q', env, st, hw, post⟩ => ⟨ρ, S, _, env, st, hw, fun d S1 v H1 q1 e1 st1 hd => by
    obtain ⟨z, hz, q⟩ := go_inv q1
    obtain ⟨t, b, _, _, ez⟩ := isI_inv hz
    subst ez
    exact ⟨S1, v, d, b, rfl, st1, hd, hz, post (.bl b) S1 _ H1 q e1 st1 rfl⟩⟩
theorem boot_int_ : bootBuiltins "int" = some (.type "int") := by decide +kernel
theorem boot_bool_ : bootBuiltins "bool" = some (.type "bool") := by decide +kernel
theorem boot_str_ : bootBuiltins "str" = some (.type "str") := by decide +kernel
theorem boot_list_ : bootBuiltins "list" = some (.type "list") := by decide +kernel
theorem boot_dict_ : bootBuiltins "dict" = some (.type "dict") := by decide +kernel
theorem boot_tuple_ : bootBuiltins "tuple" = some (.type "tuple") := by decide +kernel
end
end MQ
namespace MQ
open PySem PySem.Spec PyProof.Rows L2
noncomputable def big : Int → List Int → Int
  | m, [] => m
  | m, x :: xs => big (if m < x then x else m) xs
section
variable {prog : Program} {w : World} {A : Around} {R : Result → Shared → Prop}
theorem mx_name : (toString "max" ++ toString ".loop" : String) = "max.loop" := by decide
theorem max_args (a v : Value) : argsOk "max" ⟨[a], [(Str.ofString "default", v)]⟩ := by unfold argsOk; kernel_rfl
theorem max_go {I ax S : Addr} {its : List Value} {ns : List Int} (hv : Vals (ns.map V.int) its) (hh : A.in1.handled = none) (hne : ax ≠ I) (hS1 : S ≠ I) (hS2 : S ≠ ax) (kw : List (Str × Value)) :
    ∀ (k j : Nat) (s : Shared) (m : Int) (t : Tok) (c : Nat), its.length - j = k → j ≤ its.length → s.heap.IsListIter I ax j → s.heap.IsList ax its.toArray → s.heap.get? S = some { cls := .type "list", data := .seq #[.int m t, .int m t] c } →
      (∀ h' tk t', (∀ b o, b ≠ I → b ≠ S → s.heap.get? b = some o → h'.get? b = some o) → R (.ok (.ret (.int (big m (ns.drop j)) t'))) { s with heap := h', toks := tk }) →
      codeAny (model prog w) A (.builtin "max.loop" ⟨[.ref I, .none, .ref S], kw⟩) R s := by
  have W := Walks.list (prog := prog) (w := w) (A := A.in1) hh I ax hne its.toArray
  have hlen := hv.length
  rw [List.length_map] at hlen
  intro k
  induction k with
  | zero =>
    intro j s m t c ek ej hit hl hs hR
    have ej' : j = its.toArray.size := by rw [List.size_toArray]; omega
    refine codeAny_builtin F.entry_max_loop ?_
    rw [Around.under_plainId F.plain_max_loop _]
    refine wpAny_bind (wpAny_seqItems hs rfl (wpAny_bind (wpAny_tryCatch (W.done s _ _ ⟨ej' ▸ hit, hl⟩ fun h1 tk kp => ?_))))
    have hs1 := kp S _ (by simpa using hS1) hs
    refine wpAny_bind (wpAny_updateSeq hs1 rfl (wpAny_bind (wpAny_letGo (wpAny_pure ?_))))
    have z := hR (h1.update S (Obj.mapSeq fun _ => #[])) tk t fun b o hb hbS e => (Heap.get?_update_other _ _ (Ne.symm hbS)).trans (kp b o (by simpa using hb) e)
    rw [List.drop_eq_nil_of_le (by rw [ej', List.size_toArray]; omega)] at z
    exact z
  | succ k ih =>
    intro j s m t c ek ej hit hl hs hR
    have hlt : j < its.toArray.size := by rw [List.size_toArray]; omega
    refine codeAny_builtin F.entry_max_loop ?_
    rw [Around.under_plainId F.plain_max_loop _]
    refine wpAny_bind (wpAny_seqItems hs rfl (wpAny_bind (wpAny_tryCatch (W.item j s _ _ hlt ⟨hit, hl⟩ fun v h1 tk hv1 st1 kp => ?_))))
    have hs1 := kp S _ (by simpa using hS1) hs
    have hj : j < ns.length := by rw [List.size_toArray] at hlt; omega
    have hn : (ns.map V.int)[j]? = some (.int ns[j]) := by simp [hj]
    obtain ⟨u, hu, ⟨tu, eu⟩⟩ := hv.get hn
    have ev : v = .int ns[j] tu := by
      have z : its[j]? = some v := by simpa using hv1
      rw [hu] at z
      rw [← eu]; exact (Option.some.inj z).symm
    subst ev
    have hd : ns.drop j = ns[j] :: ns.drop (j + 1) := List.drop_eq_getElem_cons hj
    rw [hd] at hR
    refine wpAny_bind (wpAny_pure (wpAny_bind (wpAny_tryCatch (wpAny_holding (wpAny_bind (m := richCompare .Gt (.int ns[j] tu) (.int m t)) (gt_int (wpAny_bind (wpAny_holding (wpAny_truthy_bool (wpAny_bind (wpAny_letGo (wpAny_pure ?_))))))))))))
    by_cases hb : m < ns[j]
    · rw [if_pos (decide_eq_true hb)]
      refine wpAny_bind (wpAny_updateSeq hs1 rfl (wpAny_bind (wpAny_letGo ?_)))
      rw [mx_name]
      refine wpAny_pure ⟨plainId_quiet F.plain_max_loop _, ih (j + 1) _ ns[j] tu _ (by omega) (by rw [List.size_toArray] at hlt; omega) ?_ ?_ (Heap.get?_update_self _ hs1 rfl) fun h2 tk2 t2 kp2 => ?_⟩
      · exact st1.1.at fun o e => (Heap.get?_update_other _ _ hS1).trans e
      · exact st1.2.at fun o e => (Heap.get?_update_other _ _ hS2).trans e
      · have z := hR h2 tk2 t2 fun b o hb1 hb2 e => kp2 b o hb1 hb2 ((Heap.get?_update_other _ _ (Ne.symm hb2)).trans (kp b o (by simpa using hb1) e))
        unfold big at z
        rw [if_pos hb] at z
        exact z
    · rw [if_neg (by rw [decide_eq_false hb]; exact Bool.false_ne_true)]
      refine wpAny_bind (wpAny_letGo ?_)
      rw [mx_name]
      refine wpAny_pure ⟨plainId_quiet F.plain_max_loop _, ih (j + 1) _ m t c (by omega) (by rw [List.size_toArray] at hlt; omega) st1.1 st1.2 hs1 fun h2 tk2 t2 kp2 => ?_⟩
      have z := hR h2 tk2 t2 fun b o hb1 hb2 e => kp2 b o hb1 hb2 (kp b o (by simpa using hb1) e)
      unfold big at z
      rw [if_neg hb] at z
      exact z
theorem max_run {E : Value → Shared → Prop} {Q : Value → Shared → Prop} {s : Shared} {ax : Addr} {its : List Value} {ns : List Int} (hv : Vals (ns.map V.int) its) (hh : A.in1.handled = none) (hl : s.heap.IsList ax its.toArray) (dv : Value)
    (hQ : ∀ h' tk, (∀ b o, s.heap.get? b = some o → h'.get? b = some o) → match ns with
      | [] => Q dv { s with heap := h', toks := tk }
      | n :: r => ∀ t', Q (.int (big n r) t') { s with heap := h', toks := tk }) :
    wpAny (model prog w) A (call (.builtin "max") [.ref ax] [(Str.ofString "default", dv)]) Q E s := by
  refine kmk_tree F.kind_max F.plain_max F.entry_max (max_args _ _) ?_
  refine wpAny_bind (m := Builtin.Builtins.bindParams "max" ["key", "default"] 0 ⟨[], [(Str.ofString "default", dv)]⟩) (wpAny_of_eq (a := [none, some dv]) rfl (wpAny_bind (wpAny_pure (wpAny_bind (wpAny_pyIter_list hl (wpAny_bind (wpAny_newObj_type ?_)))))))
  rw [mx_name]
  have hax : ax < s.heap.objs.size := by obtain ⟨o, e, _⟩ := hl; exact Heap.lt_size e
  have eI : (s.heap.push { cls := .type "list_iterator", data := .fields #[.ref ax, .int 0 0] }).objs.size = s.heap.objs.size + 1 := Heap.size_push ..
  have W := Walks.list (prog := prog) (w := w) (A := A.in1) hh s.heap.objs.size ax (Nat.ne_of_lt hax) its.toArray
  have hlen := hv.length
  rw [List.length_map] at hlen
  have hS1 : (s.heap.push { cls := .type "list_iterator", data := .fields #[.ref ax, .int 0 0] }).objs.size ≠ s.heap.objs.size := by rw [eI]; exact Nat.ne_of_gt (Nat.lt_succ_self _)
  have hS2 : (s.heap.push { cls := .type "list_iterator", data := .fields #[.ref ax, .int 0 0] }).objs.size ≠ ax := by rw [eI]; exact Nat.ne_of_gt (Nat.lt_succ_of_lt hax)
  have hit : Heap.IsListIter ((s.heap.push { cls := .type "list_iterator", data := .fields #[.ref ax, .int 0 0] }).push { cls := .type "list", data := .seq #[] }) s.heap.objs.size ax 0 := ⟨_, Heap.get?_push_of_some _ (Heap.get?_push_size _ rfl), rfl, rfl⟩
  have hlk : Heap.IsList ((s.heap.push { cls := .type "list_iterator", data := .fields #[.ref ax, .int 0 0] }).push { cls := .type "list", data := .seq #[] }) ax its.toArray := hl.at fun o e => Heap.get?_push_of_some _ (Heap.get?_push_of_some _ e)
  have hS : ((s.heap.push { cls := .type "list_iterator", data := .fields #[.ref ax, .int 0 0] }).push { cls := .type "list", data := .seq #[] }).get? (s.heap.push { cls := .type "list_iterator", data := .fields #[.ref ax, .int 0 0] }).objs.size = some { cls := .type "list", data := .seq #[] } := Heap.get?_push_size _ rfl
  have old : ∀ b o, s.heap.get? b = some o → b ≠ s.heap.objs.size ∧ b ≠ (s.heap.push { cls := .type "list_iterator", data := .fields #[.ref ax, .int 0 0] }).objs.size := fun b o e => ⟨Nat.ne_of_lt (Heap.lt_size e), by rw [eI]; exact Nat.ne_of_lt (Nat.lt_succ_of_lt (Heap.lt_size e))⟩
  have kp0 : ∀ b o, s.heap.get? b = some o → ((s.heap.push { cls := .type "list_iterator", data := .fields #[.ref ax, .int 0 0] }).push { cls := .type "list", data := .seq #[] }).get? b = some o := fun b o e => Heap.get?_push_of_some _ (Heap.get?_push_of_some _ e)
  generalize (s.heap.push { cls := .type "list_iterator", data := .fields #[.ref ax, .int 0 0] }).push { cls := .type "list", data := .seq #[] } = h2 at hit hlk hS kp0 ⊢
  generalize (s.heap.push { cls := .type "list_iterator", data := .fields #[.ref ax, .int 0 0] }).objs.size = S at hS1 hS2 hS old ⊢
  refine wpAny_pure ⟨plainId_quiet F.plain_max_loop _, codeAny_builtin F.entry_max_loop ?_⟩
  rw [Around.under_plainId F.plain_max_loop _]
  cases ns with
  | nil =>
    have e0 : its = [] := by cases its with
      | nil => rfl
      | cons _ _ => simp at hlen
    subst e0
    refine wpAny_bind (wpAny_seqItems hS rfl (wpAny_bind (wpAny_tryCatch (W.done _ _ _ ⟨hit, hlk⟩ fun h1 tk kp => ?_))))
    refine wpAny_bind (wpAny_rule (wpAny_pure ?_))
    exact hQ h1 tk fun b o e => kp b o (by simpa using (old b o e).1) (kp0 b o e)
  | cons n r =>
    have h0 : 0 < its.toArray.size := by rw [List.size_toArray, ← hlen]; simp
    refine wpAny_bind (wpAny_seqItems hS rfl (wpAny_bind (wpAny_tryCatch (W.item 0 _ _ _ h0 ⟨hit, hlk⟩ fun v h1 tk hv1 st1 kp => ?_))))
    have hs1 := kp S _ (by simpa using hS1) hS
    obtain ⟨u, hu, ⟨tu, eu⟩⟩ := hv.get (i := 0) (x := .int n) rfl
    have ev : v = .int n tu := by
      have z : its[0]? = some v := by simpa using hv1
      rw [hu] at z
      rw [← eu]; exact (Option.some.inj z).symm
    subst ev
    refine wpAny_bind (wpAny_pure (wpAny_bind (wpAny_updateSeq hs1 rfl ?_)))
    rw [mx_name]
    refine wpAny_pure ⟨plainId_quiet F.plain_max_loop _, max_go hv hh (Nat.ne_of_lt hax) hS1 hS2 _ _ 1 _ n tu _ rfl (by rw [List.size_toArray] at h0; omega) ?_ ?_ (Heap.get?_update_self _ hs1 rfl) fun h3 tk3 t3 kp3 => ?_⟩
    · exact st1.1.at fun o e => (Heap.get?_update_other _ _ hS1).trans e
    · exact st1.2.at fun o e => (Heap.get?_update_other _ _ hS2).trans e
    · exact hQ h3 tk3 (fun b o e => kp3 b o (old b o e).1 (old b o e).2 ((Heap.get?_update_other _ _ (Ne.symm (old b o e).2)).trans (kp b o (by simpa using (old b o e).1) (kp0 b o e)))) t3
end
noncomputable def ints? : List Dv → Option (List Int)
  | [] => some []
  | .int i :: r => (ints? r).map (i :: ·)
  | _ => none
theorem ints?_eq : ∀ {ds : List Dv} {ns : List Int}, ints? ds = some ns → ds = ns.map Dv.int
  | [], ns, h => by cases h; rfl
  | d :: r, ns, h => by
    cases d with
    | int i =>
      simp only [ints?] at h
      cases e : ints? r with
      | none => rw [e] at h; cases h
      | some ms =>
        rw [e] at h
        cases h
        rw [ints?_eq e]; rfl
    | _ => simp [ints?] at h
theorem dens_ints_eq {K : PySem.W.Frag} {H : Hp} : ∀ {ns : List Int} {vs : List V}, dens K H (ns.map Dv.int) vs → vs = ns.map V.int
  | [], vs, h => h
  | n :: ns, vs, h => by
    obtain ⟨v, r, rfl, h2, h3⟩ := (show ∃ v r, vs = v :: r ∧ den K H (.int n) v ∧ dens K H (ns.map Dv.int) r from h)
    rw [dens_ints_eq h3, show v = V.int n from h2]; rfl
noncomputable def goM (o : Option (List Int)) (d : Dv) (S : Sto) (Q : QE) : Prop := match o with
  | some [] => Q d S
  | some (n :: r) => Q (.int (big n r)) S
  | none => False
noncomputable def wMaxD (t : WA) (wd : WE) : WE := fun ρ S Q => t ρ S fun l S1 => wd ρ S1 fun dd S2 => one l fun d => goL (rdL S2 d) fun ds => goM (ints? ds) dd S2 Q
theorem de_maxD {X : Cx} {e dflt : Expr} {t : WA} {wd : WE} {p pos kp : Pos} (hm : X.mg "max" = none) (ha : DA X [e] t) (hd : DE X dflt wd) (hg : Gl X "max" := by rfl) (hc : X.calm = true := by rfl)
    (he : backTo pos (starEach [e] X.env) = (false, eval e X.env) :: backTo pos (starEach [] X.env) := by rfl) (hpl : (backTo pos (starEach [e] X.env)).any (·.1) = false := by rfl)
    (hks : (backToKw pos (keywordEach [⟨some "default", dflt, kp⟩] X.env)).filterMap (·.1) = [Str.ofString "default"] := by rfl)
    (hall : (backToKw pos (keywordEach [⟨some "default", dflt, kp⟩] X.env)).all (·.1.isSome) = true := by rfl) (hkw : (backToKw pos (keywordEach [⟨some "default", dflt, kp⟩] X.env)).any (·.1.isNone) = false := by rfl) :
    DE X (.Call (.Name "max" p) [e] [⟨some "default", dflt, kp⟩] pos) (wMaxD t wd) := by
  intro pins s σ H Q I ⟨ρ, S, Q', env, st, hw, post⟩
  refine wpAny_Call_Name_kw (ld_blt I hg hm boot_max ?_ (by decide) (by decide))
  have hk : PK X [⟨some "default", dflt, kp⟩] (tCons (lE X.K wd) tNil) := pk_cons hd pk_nil
  refine PyProof.Rows.callWith_kw (thn (ha pos pins s σ H (fun vs H1 => (tCons (lE X.K wd) tNil) σ H1 fun zs H2 => ∃ d dd ds v u S2, vs = [v] ∧ zs = [u] ∧ den X.K H2 d v ∧ den X.K H2 dd u ∧ StOk X.K H2 S2 ∧ Ext H H2 ∧ rdL S2 d = some ds ∧ goM (ints? ds) dd S2 Q') I
    ⟨ρ, S, _, env, st, hw, fun l S1 vs H1 q1 e1 st1 hl => ⟨ρ, S1, _, env.ext e1, st1, q1, fun dd S2 u H2 q2 e2 st2 hu => ?_⟩⟩) fun us s1 ⟨vs, H1, I1, r1, q1⟩ => thn (hk pos pins s1 σ H1 _ I1 q1) fun ws s2 ⟨zs, H2, I2, r2, q2⟩ => ?_) he hpl hall hkw
  · obtain ⟨d, rfl, q2⟩ := one_inv q2
    obtain ⟨ds, hds, q2⟩ := goL_inv q2
    obtain ⟨v, rfl, hv⟩ := dens1 hl
    exact ⟨d, dd, ds, v, u, S2, rfl, rfl, den_ext e2 _ _ hv, hu, st2, e1.trans e2, hds, q2⟩
  · obtain ⟨d, dd, ds, v, u, S2, rfl, rfl, hv, hu, st2, ex, hds, q⟩ := q2
    obtain ⟨w1, rfl, rw1⟩ := r1.one
    obtain ⟨w2, rfl, rw2⟩ := r2.one
    obtain ⟨a, ys, rfl, h1, h2⟩ := rdL_ok st2 hv hds
    cases rw1
    cases hi : ints? ds with
    | none => rw [hi] at q; exact q.elim
    | some ns =>
      rw [hi] at q
      have eds := ints?_eq hi
      subst eds
      have eys := dens_ints_eq h2
      subst eys
      obtain ⟨its, rv, pl, hz⟩ := I2.list h1
      rw [hks]
      refine max_run rv (show X.A.in1.handled = none from I.ok.hd hc) pl.isList w2 fun h' tk kp => ?_
      have I3 : L2.Inv X pins σ H2 { s2 with heap := h', toks := tk } := I2.kept (t' := tk) kp
      cases ns with
      | nil => exact ⟨u, H2, I3, rw2, post dd S2 u H2 q ex st2 hu⟩
      | cons n r => exact fun t' => ⟨.int (big n r), H2, I3, ⟨t', rfl⟩, post _ S2 _ H2 q ex st2 rfl⟩
end MQ
namespace MQ
open PySem PySem.Spec PyProof.Rows L2
structure Kp {α : Type} (a : α) : Type where
structure KpP (a : Prop) : Type where
noncomputable def goK (o : Option Dv) (S : Sto) (Q : QE) (_ : Kp Q := ⟨⟩) (_ : True := trivial) : Prop := go o S Q
noncomputable def goBK (o : Option Bool) (S : Sto) (Q : Bool → Sto → Prop) (_ : Kp Q := ⟨⟩) (_ : True := trivial) : Prop := goB o S Q
noncomputable def goLK (o : Option (List Dv)) (Q : List Dv → Prop) (_ : Kp Q := ⟨⟩) (_ : True := trivial) : Prop := goL o Q
noncomputable def goMK (o : Option (List Int)) (d : Dv) (S : Sto) (Q : QE) (_ : Kp Q := ⟨⟩) (_ : True := trivial) : Prop := goM o d S Q
noncomputable def oneK (l : List Dv) (k : Dv → Prop) (_ : Kp k := ⟨⟩) (_ : True := trivial) : Prop := one l k
noncomputable def onLstK (S : Sto) (d : Dv) (k : Addr → List Dv → Prop) (_ : Kp k := ⟨⟩) (_ : True := trivial) : Prop := onLst S d k
noncomputable def goR1K (l : List Dv) (k : Int → Prop) (_ : Kp k := ⟨⟩) (_ : True := trivial) : Prop := goR1 l k
noncomputable def goR2K (l : List Dv) (k : Int → Int → Prop) (_ : Kp k := ⟨⟩) (_ : True := trivial) : Prop := goR2 l k
@[simp] theorem go_some {d : Dv} {S : Sto} {Q : QE} : goK (some d) S Q = Q d S := id rfl
@[simp] theorem goB_some {b : Bool} {S : Sto} {Q : Bool → Sto → Prop} : goBK (some b) S Q = Q b S := id rfl
@[simp] theorem goL_some {ds : List Dv} {Q : List Dv → Prop} : goLK (some ds) Q = Q ds := id rfl
@[simp] theorem ev?_z {d : Dv} {r : Ev} : ev? (some d :: r) 0 = some d := id rfl
@[simp] theorem ev?_s {x : Option Dv} {r : Ev} {n : Nat} : ev? (x :: r) (n + 1) = ev? r n := by simp [ev?]
@[simp ↓] theorem wVar_eq {i : Nat} {ρ : Ev} {S : Sto} {Q : QE} : wVar i ρ S Q = goK (ev? ρ i) S Q := id rfl
@[simp ↓] theorem wC_eq {d : Dv} {ρ : Ev} {S : Sto} {Q : QE} : wC d ρ S Q = Q d S := id rfl
@[simp ↓] theorem wOp_eq {f : F2} {a b : WE} {ρ : Ev} {S : Sto} {Q : QE} : wOp f a b ρ S Q = a ρ S (fun x S1 => b ρ S1 fun y S2 => goK (f S2 x y) S2 Q) := id rfl
@[simp ↓] theorem wCmp_eq {f : F2b} {a b : WE} {ρ : Ev} {S : Sto} {Q : Bool → Sto → Prop} : wCmp f a b ρ S Q = a ρ S (fun x S1 => b ρ S1 fun y S2 => goBK (f S2 x y) S2 Q) := id rfl
@[simp ↓] theorem wTest_eq {w : WE} {ρ : Ev} {S : Sto} {Q : Bool → Sto → Prop} : wTest w ρ S Q = w ρ S (fun d S1 => goBK (tru S1 d) S1 Q) := id rfl
@[simp ↓] theorem wAnd_eq {a b : WT} {ρ : Ev} {S : Sto} {Q : Bool → Sto → Prop} : wAnd a b ρ S Q = a ρ S (fun c S1 => if c = true then b ρ S1 Q else Q false S1) := id rfl
@[simp ↓] theorem wOr_eq {a b : WT} {ρ : Ev} {S : Sto} {Q : Bool → Sto → Prop} : wOr a b ρ S Q = a ρ S (fun c S1 => if c = true then Q true S1 else b ρ S1 Q) := id rfl
@[simp ↓] theorem wNot_eq {a : WT} {ρ : Ev} {S : Sto} {Q : Bool → Sto → Prop} : wNot a ρ S Q = a ρ S (fun c S1 => Q (!c) S1) := id rfl
noncomputable def selV (x : Dv) (t f : Prop) (_ : KpP t := ⟨⟩) (_ : KpP f := ⟨⟩) (_ : True := trivial) : Prop := match x with
  | .bl true => t
  | .bl false => f
  | _ => False
@[simp] theorem selV_bl {b : Bool} {t f : Prop} : selV (.bl b) t f = if b = true then t else f := by cases b <;> rfl
@[simp ↓] theorem wAndV_eq {a b : WE} {ρ : Ev} {S : Sto} {Q : QE} : wAndV a b ρ S Q = a ρ S (fun x S1 => selV x (b ρ S1 Q) (Q (.bl false) S1)) := by
  unfold wAndV; congr 1
noncomputable def notD (x : Dv) (k : Bool → Prop) (_ : Kp k := ⟨⟩) (_ : True := trivial) : Prop := match x with
  | .bl c => k (!c)
  | _ => False
@[simp] theorem notD_bl {b : Bool} {k : Bool → Prop} : notD (.bl b) k = k (!b) := id rfl
@[simp ↓] theorem wNotV_eq {a : WE} {ρ : Ev} {S : Sto} {Q : QE} : wNotV a ρ S Q = a ρ S (fun x S1 => notD x fun c => Q (.bl c) S1) := by
  unfold wNotV; congr 1
@[simp ↓] theorem wNil_eq {ρ : Ev} {S : Sto} {Q : List Dv → Sto → Prop} : wNil ρ S Q = Q [] S := id rfl
@[simp ↓] theorem wCons_eq {a : WE} {r : WA} {ρ : Ev} {S : Sto} {Q : List Dv → Sto → Prop} : wCons a r ρ S Q = a ρ S (fun x S1 => r ρ S1 fun xs S2 => Q (x :: xs) S2) := id rfl
@[simp ↓] theorem wTup_eq {t : WA} {ρ : Ev} {S : Sto} {Q : QE} : wTup t ρ S Q = t ρ S (fun ds S1 => ds.length ≤ 1000 ∧ Q (.tup ds) S1) := id rfl
@[simp ↓] theorem wLst_eq {t : WA} {ρ : Ev} {S : Sto} {Q : QE} : wLst t ρ S Q = t ρ S (fun ds S1 => ds.length ≤ 1000 ∧ Q (.lst ds) S1) := id rfl
@[simp ↓] theorem wLstM_eq {t : WA} {ρ : Ev} {S : Sto} {Q : QE} : wLstM t ρ S Q = t ρ S (fun ds S1 => ds.length ≤ 1000 ∧ ∀ p, S1 p = none → Q (.ref p) (sset S1 p (.lst ds))) := id rfl
@[simp ↓] theorem wSeq_eq {a b : WS} {D : Dn} {ρ : Ev} {S : Sto} : wSeq a b D ρ S = a { D with nx := b D } ρ S := id rfl
@[simp ↓] theorem wSet_eq {i : Nat} {w : WE} {D : Dn} {ρ : Ev} {S : Sto} : wSet i w D ρ S = w ρ S (fun d S1 => D.nx (ρ.set i (some d)) S1) := id rfl
@[simp ↓] theorem wRet_eq {w : WE} {D : Dn} {ρ : Ev} {S : Sto} : wRet w D ρ S = w ρ S D.rt := id rfl
@[simp ↓] theorem wIf_eq {c : WT} {a b : WS} {D : Dn} {ρ : Ev} {S : Sto} : wIf c a b D ρ S = c ρ S (fun t S1 => if t = true then a D ρ S1 else b D ρ S1) := id rfl
@[simp ↓] theorem wDrop_eq {w : WE} {D : Dn} {ρ : Ev} {S : Sto} : wDrop w D ρ S = w ρ S (fun _ S1 => D.nx ρ S1) := id rfl
@[simp ↓] theorem wNext_eq {D : Dn} {ρ : Ev} {S : Sto} : wNext D ρ S = D.nx ρ S := id rfl
@[simp ↓] theorem wCall_eq {sp : Ds} {t : WA} {ρ : Ev} {S : Sto} {Q : QE} : wCall sp t ρ S Q = t ρ S (fun ds S1 => sp ds S1 Q) := id rfl
@[simp ↓] theorem wCB_eq {f : Fn} {t : WA} {ρ : Ev} {S : Sto} {Q : QE} : wCB f t ρ S Q = t ρ S (fun ds S1 => goK (f S1 ds) S1 Q) := id rfl
@[simp ↓] theorem wIsI_eq {T : String} {w : WE} {ρ : Ev} {S : Sto} {Q : QE} : wIsI T w ρ S Q = w ρ S (fun d S1 => goK (isI S1 T d) S1 Q) := id rfl
@[simp ↓] theorem wFor_eq {i : Nat} {src : WE} {b : WS} {D : Dn} {ρ : Ev} {S : Sto} : wFor i src b D ρ S = src ρ S (fun d S1 => goLK (roL d) fun xs => forL i b D xs ρ S1) := id rfl
@[simp ↓] theorem wForR1_eq {i : Nat} {t : WA} {b : WS} {D : Dn} {ρ : Ev} {S : Sto} : wForR1 i t b D ρ S = t ρ S (fun l S1 => goR1K l fun j => forR i b D j.toNat 0 ρ S1) := id rfl
@[simp ↓] theorem wForR2_eq {i : Nat} {t : WA} {b : WS} {D : Dn} {ρ : Ev} {S : Sto} : wForR2 i t b D ρ S = t ρ S (fun l S1 => goR2K l fun lo j => forR i b D (j - lo).toNat lo ρ S1) := id rfl
@[simp] theorem goR1_int {j : Int} {Q : Int → Prop} : goR1K [.int j] Q = ((-(2 ^ 62) ≤ j ∧ j < 2 ^ 62) ∧ Q j) := id rfl
@[simp] theorem goR2_int {i j : Int} {Q : Int → Int → Prop} : goR2K [.int i, .int j] Q = ((-(2 ^ 62) ≤ i ∧ i < 2 ^ 62 ∧ -(2 ^ 62) ≤ j ∧ j < 2 ^ 62) ∧ Q i j) := id rfl
@[simp ↓] theorem wThen_eq {i : Nat} {a : WS} {D : Dn} {ρ : Ev} {S : Sto} : wThen i a D ρ S = a { D with nx := fun ρ1 S1 => frzAt i ρ1 S1 D.nx } ρ S := id rfl
@[simp] theorem one_x {x : Dv} {k : Dv → Prop} : oneK [x] k = k x := id rfl
@[simp ↓] theorem wApp_eq {o : WE} {a : WA} {ρ : Ev} {S : Sto} {Q : QE} : wApp o a ρ S Q = o ρ S (fun d S1 => onLstK S1 d fun _ _ => a ρ S1 fun l S2 => onLstK S2 d fun p ds => oneK l fun x => ds.length < lim ∧ Q .non (sset S2 p (.lst (ds ++ [x])))) := id rfl
@[simp] theorem onLst_set {S : Sto} {p : Addr} {ds : List Dv} {k : Addr → List Dv → Prop} : onLstK (sset S p (.lst ds)) (.ref p) k = k p ds := by
  simp [onLstK, onLst, sset_same]
@[simp ↓] theorem wSl_eq {e : WE} {lo hi : Option WE} {ρ : Ev} {S : Sto} {Q : QE} : wSl e lo hi ρ S Q = e ρ S (fun d S1 => wPart lo ρ S1 fun l S2 => wPart hi ρ S2 fun h S3 => goLK (rdL S3 d) fun ds => Q (.lst (cutD ds l h)) S3) := id rfl
@[simp ↓] theorem wPart_none {ρ : Ev} {S : Sto} {Q : Option Int → Sto → Prop} : wPart none ρ S Q = Q none S := id rfl
noncomputable def asI (d : Dv) (k : Int → Prop) (_ : Kp k := ⟨⟩) (_ : True := trivial) : Prop := match d with
  | .int i => k i
  | _ => False
@[simp] theorem asI_int {i : Int} {k : Int → Prop} : asI (.int i) k = k i := id rfl
@[simp ↓] theorem wPart_some {w : WE} {ρ : Ev} {S : Sto} {Q : Option Int → Sto → Prop} : wPart (some w) ρ S Q = w ρ S (fun d S1 => asI d fun i => Q (some i) S1) := by
  unfold wPart; dsimp only; congr 1
@[simp ↓] theorem wMaxD_eq {t : WA} {wd : WE} {ρ : Ev} {S : Sto} {Q : QE} : wMaxD t wd ρ S Q = t ρ S (fun l S1 => wd ρ S1 fun dd S2 => oneK l fun d => goLK (rdL S2 d) fun ds => goMK (ints? ds) dd S2 Q) := id rfl
@[simp ↓] theorem wCompIf_eq {src : WE} {wt : WT} {we : WE} {ρ : Ev} {S : Sto} {Q : QE} : wCompIf src wt we ρ S Q = src ρ S (fun d S1 => goLK (roL d) fun xs => cmpL wt we xs S1 [] fun ys S2 => Q (.lst ys) S2) := id rfl
@[simp ↓] theorem wComp_eq {src we : WE} : wComp src we = wCompIf src wYes we := id rfl
@[simp ↓] theorem wYes_eq {ρ : Ev} {S : Sto} {Q : Bool → Sto → Prop} : wYes ρ S Q = Q true S := id rfl
@[simp] theorem oAdd_int {S : Sto} {i j : Int} : oAdd S (.int i) (.int j) = some (.int (i + j)) := id rfl
@[simp] theorem oSub_int {S : Sto} {i j : Int} : oSub S (.int i) (.int j) = some (.int (i - j)) := id rfl
@[simp] theorem oLt_int {S : Sto} {i j : Int} : oLt S (.int i) (.int j) = some (decide (i < j)) := id rfl
@[simp] theorem oLe_int {S : Sto} {i j : Int} : oLe S (.int i) (.int j) = some (decide (i ≤ j)) := id rfl
@[simp] theorem oGt_int {S : Sto} {i j : Int} : oGt S (.int i) (.int j) = some (decide (j < i)) := id rfl
@[simp] theorem oGe_int {S : Sto} {i j : Int} : oGe S (.int i) (.int j) = some (decide (j ≤ i)) := id rfl
@[simp] theorem asD_some {f : F2b} {S : Sto} {x y : Dv} : asD f S x y = (f S x y).map .bl := id rfl
@[simp] theorem oEq_int {S : Sto} {i j : Int} : oEq S (.int i) (.int j) = some (decide (i = j)) := by
  have e : deq (.int i) (.int j) = (i == j) := rfl
  show (if (pur (.int i) && pur (.int j)) = true then some (deq (.int i) (.int j)) else none) = _
  rw [e, Bool.beq_eq_decide_eq]
  exact if_pos rfl
@[simp] theorem oNe_int {S : Sto} {i j : Int} : oNe S (.int i) (.int j) = some (!decide (i = j)) := by
  have e : deq (.int i) (.int j) = (i == j) := rfl
  show (if (pur (.int i) && pur (.int j)) = true then some (!deq (.int i) (.int j)) else none) = _
  rw [e, Bool.beq_eq_decide_eq]
  exact if_pos rfl
@[simp] theorem oNe_bl {S : Sto} {i j : Bool} : oNe S (.bl i) (.bl j) = some (!decide (i = j)) := by
  have e : deq (.bl i) (.bl j) = (i == j) := rfl
  show (if (pur (.bl i) && pur (.bl j)) = true then some (!deq (.bl i) (.bl j)) else none) = _
  rw [e, Bool.beq_eq_decide_eq]
  exact if_pos rfl
theorem deq_tag {a b c d : Int} : deq (.tup [.int a, .int b]) (.tup [.int c, .int d]) = decide (a = c ∧ b = d) := by
  have e : deq (.tup [.int a, .int b]) (.tup [.int c, .int d]) = (a == c && (b == d && true)) := rfl
  rw [e, Bool.eq_iff_iff]; simp
@[simp] theorem oEq_tag {S : Sto} {a b c d : Int} : oEq S (.tup [.int a, .int b]) (.tup [.int c, .int d]) = some (decide (a = c ∧ b = d)) := by
  show (if (pur (.tup [.int a, .int b]) && pur (.tup [.int c, .int d])) = true then some (deq (.tup [.int a, .int b]) (.tup [.int c, .int d])) else none) = _
  rw [deq_tag]
  exact if_pos rfl
@[simp] theorem oNe_tag {S : Sto} {a b c d : Int} : oNe S (.tup [.int a, .int b]) (.tup [.int c, .int d]) = some (!decide (a = c ∧ b = d)) := by
  show (if (pur (.tup [.int a, .int b]) && pur (.tup [.int c, .int d])) = true then some (!deq (.tup [.int a, .int b]) (.tup [.int c, .int d])) else none) = _
  rw [deq_tag]
  exact if_pos rfl
@[simp] theorem ix_t0 {S : Sto} {a : Dv} {r : List Dv} : oIx S (.tup (a :: r)) (.int 0) = some a := by
  show atI (a :: r) 0 = some a
  simp [atI, ixN]
theorem atI_ok {ds : List Dv} {i : Int} {d : Dv} (h0 : 0 ≤ i) (h : ds[i.toNat]? = some d) : atI ds i = some d := by
  have hl : i.toNat < ds.length := (List.getElem?_eq_some_iff.mp h).1
  unfold atI ixN
  rw [if_pos h0, if_pos (by omega)]
  exact h
@[simp] theorem ix_t1 {S : Sto} {a b : Dv} {r : List Dv} : oIx S (.tup (a :: b :: r)) (.int 1) = some b := atI_ok (i := 1) (by decide) rfl
@[simp] theorem ix_t2 {S : Sto} {a b c : Dv} {r : List Dv} : oIx S (.tup (a :: b :: c :: r)) (.int 2) = some c := atI_ok (i := 2) (by decide) rfl
@[simp] theorem ix_t3 {S : Sto} {a b c d : Dv} {r : List Dv} : oIx S (.tup (a :: b :: c :: d :: r)) (.int 3) = some d := atI_ok (i := 3) (by decide) rfl
theorem ix_lst {S : Sto} {ds : List Dv} {i : Int} {d : Dv} (h0 : 0 ≤ i) (h : ds[i.toNat]? = some d) : oIx S (.lst ds) (.int i) = some d := atI_ok h0 h
theorem ix_scr {S : Sto} {ns : List Int} {i : Int} (h0 : 0 ≤ i) (h : i.toNat < ns.length) : oIx S (.scr ns) (.int i) = some (.int (ns.getD i.toNat 0)) :=
  atI_ok h0 (by simp [h])
@[simp] theorem fLen_scr {S : Sto} {ns : List Int} : fLen S [.scr ns] = some (.int ns.length) := by simp [fLen, rdL]
@[simp] theorem fLen_lst {S : Sto} {ds : List Dv} : fLen S [.lst ds] = some (.int ds.length) := by simp [fLen, rdL]
@[simp] theorem fLen_tup {S : Sto} {ds : List Dv} : fLen S [.tup ds] = some (.int ds.length) := id rfl
@[simp] theorem fLen_set {S : Sto} {p : Addr} {ds : List Dv} : fLen (sset S p (.lst ds)) [.ref p] = some (.int ds.length) := by simp [fLen, rdL, sset_same]
@[simp] theorem fList_lst {S : Sto} {ds : List Dv} : fList S [.lst ds] = some (.lst ds) := id rfl
@[simp] theorem roL_lst {ds : List Dv} : roL (.lst ds) = some ds := id rfl
@[simp] theorem rdL_lst {S : Sto} {ds : List Dv} : rdL S (.lst ds) = some ds := id rfl
@[simp] theorem rdL_scr {S : Sto} {ns : List Int} : rdL S (.scr ns) = some (ns.map .int) := id rfl
@[simp] theorem rdL_set {S : Sto} {p : Addr} {ds : List Dv} : rdL (sset S p (.lst ds)) (.ref p) = some ds := by simp [rdL, sset_same]
@[simp] theorem tru_bl {S : Sto} {b : Bool} : tru S (.bl b) = some b := id rfl
@[simp] theorem isI_int_int {S : Sto} {i : Int} : isI S "int" (.int i) = some (.bl true) := id rfl
@[simp] theorem isI_int_bool {S : Sto} {i : Int} : isI S "bool" (.int i) = some (.bl false) := id rfl
@[simp] theorem isI_bool_bool {S : Sto} {i : Bool} : isI S "bool" (.bl i) = some (.bl true) := id rfl
@[simp] theorem isI_tup_tuple {S : Sto} {ds : List Dv} : isI S "tuple" (.tup ds) = some (.bl true) := id rfl
@[simp] theorem isI_lst_list {S : Sto} {ds : List Dv} : isI S "list" (.lst ds) = some (.bl true) := id rfl
@[simp] theorem isI_str_str {S : Sto} {x : Str} : isI S "str" (.str x) = some (.bl true) := id rfl
theorem frzAt_set {i : Nat} {ρ : Ev} {S : Sto} {p : Addr} {ds : List Dv} {k : Ev → Sto → Prop} (h1 : ev? ρ i = some (.ref p)) (h2 : S p = none) (h : k (ρ.set i (some (.lst ds))) S) : frzAt i ρ (sset S p (.lst ds)) k := by
  simp only [frzAt, h1, sset_same, sdel_sset h2]
  exact h
end MQ
namespace MQ
open PySem PySem.Spec PyProof.Rows L2
noncomputable def Ite (K : PySem.W.Frag) (a : Addr) : It :=
  ⟨fun i H => ∃ xs x, SqL K H a xs ∧ xs[i]? = some x, fun i H v H' => ∃ p x, v = .ref p ∧ H p = none ∧ H' = upd H p (.tup [.int i, x]) ∧ ∀ xs, SqL K H a xs → xs[i]? = some x, fun i H => ∃ xs, SqL K H a xs ∧ xs.length ≤ i⟩
theorem turn_enum {P : Program} {w : World} {K : PySem.W.Frag} {es : List Expr} {k : Nat} {pt : Pos} (a e it : Addr) (hne : e ≠ it) :
    Turn P w K (.Tuple es k pt) (Ite K a) [e, it] e (fun i h => (∃ old, IsEnum h e it (i : Int) old) ∧ h.IsListIter it a i) where
  mem := by simp
  obj := fun i h st b hb => by
    obtain ⟨⟨old, h1⟩, o, h2, h3, h4⟩ := st
    rcases List.mem_cons.mp hb with rfl | hb
    · exact ⟨_, h1, fun v z => by
        have z' : Data.fields _ = Data.cell v := z
        cases z'⟩
    · cases List.mem_singleton.mp hb
      exact ⟨o, h2, fun v z => by rw [h4] at z; cases z⟩
  keep := fun i h h' st kp => by
    obtain ⟨⟨old, h1⟩, h2⟩ := st
    exact ⟨⟨old, kp e (by simp) _ h1⟩, h2.at fun o q => kp it (by simp) o q⟩
  item := by
    intro X hP hw hK hc i pins s σ H E I hf st hg
    subst hP hw hK
    obtain ⟨xs, x, hq, hx⟩ := hg
    obtain ⟨⟨old, he⟩, hit⟩ := st
    obtain ⟨its, rv, pl, hz⟩ := I.list hq
    obtain ⟨u, hu, ru⟩ := rv.get hx
    have fe := hf e (by simp)
    have fi := hf it (by simp)
    refine wpAny_pyNext_enum_item he hit pl.isList (x := u) (by simpa using hu) hne fun h1 heo hit1 ht1 hz1 hk1 => ⟨_, rfl, ?_⟩
    refine wpAny_letOwnedTupleGo_enum heo fun h2 he2 hs2 => ?_
    have hs2' : Heap.SameBut e h1 h2 := hs2
    have kp : ∀ b o, b ≠ e → b ≠ it → s.heap.get? b = some o → h2.get? b = some o := fun b o b1 b2 q => (hs2'.2 b b1).trans (hk1 b o b1 b2 q)
    have hel : e < s.heap.objs.size := Heap.lt_size he
    have hT : h2.get? s.heap.objs.size = some { cls := .type "tuple", data := .seq #[.int i s.toks, u] } := (hs2'.2 _ (Nat.ne_of_gt hel)).trans ht1
    have hTn : H s.heap.objs.size = none := I.fresh
    have big : ∀ {b : Addr} {o : HO}, H b = some o → b ≠ s.heap.objs.size := fun q => ne_of_none q hTn
    have I2 : L2.Inv X pins σ (upd H s.heap.objs.size (.tup [.int i, x])) { s with heap := h2, toks := s.toks + 1 } := by
      refine I.call' (s' := { s with heap := h2, toks := s.toks + 1 }) (ch := [e, it]) rfl ⟨fun b o q n hb hx => ?_, fun b o q n hb hx => ⟨o.slots, ?_⟩, fun b o q n hx => ?_, fun b o q hx => ⟨o, ?_⟩, fun b ys q => ?_, fun b o u q => ?_, fun b ps q => ⟨#[], ?_⟩⟩ ?_ I.bare fun b hb => ?_
      · exact kp b o (fun z => hx (by simp [z])) (fun z => hx (by simp [z])) q
      · exact kp b o (fun z => hx (by simp [z])) (fun z => hx (by simp [z])) q
      · rw [upd_ne (Nat.ne_of_lt (Heap.lt_size q))]; exact n
      · exact kp b o (fun z => hx (by simp [z])) (fun z => hx (by simp [z])) q
      · rw [upd_ne (big q)]; exact q
      · rw [upd_ne (big q)]; exact q
      · rw [upd_ne (big q), Array.append_empty]; exact q
      · intro b ob q
        by_cases hb : b = s.heap.objs.size
        · subst hb
          rw [upd_same] at q
          cases q
          exact ⟨by show 2 ≤ sizeLine; decide, [.int i s.toks, u], .cons ⟨_, rfl⟩ (.cons ru .nil), ⟨_, hT, rfl, _, rfl⟩⟩
        · rw [upd_ne hb] at q
          refine (I.hok b ob q).stay (fun c w hc qc => kp c w (fun z => ?_) (fun z => ?_) qc) (fun c hc => ?_) fun c ys hc => ?_
          · rcases hc with hc | hc
            · rw [← hc, z, fe.1] at q; cases q
            · rw [z, fe.1] at hc; cases hc
          · rcases hc with hc | hc
            · rw [← hc, z, fi.1] at q; cases q
            · rw [z, fi.1] at hc; cases hc
          · rw [upd_ne (big hc)]; exact hc
          · rw [upd_ne (big hc)]; exact hc
      · rcases List.mem_cons.mp hb with rfl | hb
        · exact ⟨fe.2.2.2.1, fe.2.1, fe.2.2.2.2.1, fe.2.2.2.2.2⟩
        · cases List.mem_singleton.mp hb
          exact ⟨fi.2.2.2.1, fi.2.1, fi.2.2.2.2.1, fi.2.2.2.2.2⟩
    refine ⟨.ref s.heap.objs.size, _, I2, rfl, ⟨_, x, rfl, hTn, rfl, fun ys hy => by rw [I.list_inj hy hq]; exact hx⟩, ⟨⟨u, he2⟩, hit1.at fun o q => (hs2'.2 it (Ne.symm hne)).trans q⟩, fun b hb => ?_⟩
    rcases List.mem_cons.mp hb with rfl | hb
    · rw [upd_ne (Nat.ne_of_lt hel)]; exact fe.1
    · cases List.mem_singleton.mp hb
      obtain ⟨o, q, _⟩ := hit
      rw [upd_ne (Nat.ne_of_lt (Heap.lt_size q))]; exact fi.1
  done := by
    intro X hP hw hK hc i pins s σ H E I hf st hg
    subst hP hw hK
    obtain ⟨xs, hq, hx⟩ := hg
    obtain ⟨⟨old, he⟩, hit⟩ := st
    obtain ⟨its, rv, pl, hz⟩ := I.list hq
    obtain ⟨f0, f1, f2, f3, f4, f5⟩ := hf it (by simp)
    have hl := rv.length
    exact wpAny_pyNext_enum_end (I.ok.hd hc) he hit pl.isList (by simp; omega) fun h' eb => ⟨rfl, I.turned (t' := s.toks) (fun b o hb q => eb b o hb q) f0 f1 f3 f4 f5⟩
  self := fun A i s Q E st h => by
    obtain ⟨⟨old, he⟩, hit⟩ := st
    exact wpAny_pyIter_enum he h
noncomputable def iEnum (K : PySem.W.Frag) (ta : TA) : TI := fun σ H R => ta σ H fun vs H1 => ∃ a, vs = [.ref a] ∧ (∃ xs, SqL K H1 a xs) ∧ R (Ite K a) H1
section
variable {X : Cx}
theorem pi_enum {a : Expr} {ta : TA} {es : List Expr} {k : Nat} {pt p pos : Pos} (hg : Gl X "enumerate") (hm : X.mg "enumerate" = none) (ha : PA X [a] ta) (hs : starEach [a] X.env = [(false, eval a X.env)]) :
    PI X (.Tuple es k pt) (.Call (.Name "enumerate" p) [a] [] pos) (iEnum X.K ta) := by
  intro pins s σ H R I h
  refine Call_ (ld_blt I hg hm boot_enumerate (PyProof.Rows.callWith_type1 (thn (ha pos pins s σ H _ I h) fun us s1 ⟨vs, H1, I1, r1, q1⟩ => ?_) hs rfl))
  obtain ⟨l, e, ⟨xs, hq⟩, q⟩ := q1
  subst e
  obtain ⟨u, rfl, ru⟩ := r1.one
  cases ru
  obtain ⟨its, rv, pl, hz⟩ := I1.list hq
  refine call_enumerate_list pl.isList fun h' he hit hsz kp => wpAny_pyIter_enum he ?_
  have I2 : L2.Inv X pins σ H1 { s1 with heap := h' } := I1.kept (t' := s1.toks) kp
  refine ⟨s1.heap.objs.size + 1, [s1.heap.objs.size + 1, s1.heap.objs.size], _, _, H1, rfl, I2, turn_enum l _ _ (Nat.succ_ne_self _), ⟨⟨_, he⟩, hit⟩, fun b hb => ?_, q⟩
  rcases List.mem_cons.mp hb with rfl | hb
  · exact I1.fpOk (Nat.le_succ _) (I1.hok.fresh (Nat.le_succ _))
  · cases List.mem_singleton.mp hb
    exact I1.fpOk (Nat.le_refl _) (I1.hok.fresh (Nat.le_refl _))
noncomputable def forE (i j : Nat) (b : WS) (D : Dn) : Int → List Dv → Ev → Sto → Prop
  | _, [], ρ, S => D.nx ρ S
  | k, x :: xs, ρ, S => b { D with nx := forE i j b D (k + 1) xs, ct := forE i j b D (k + 1) xs, bk := D.nx } ((ρ.set i (some (.int k))).set j (some x)) S
noncomputable def wForE (i j : Nat) (src : WA) (b : WS) : WS := fun D ρ S => src ρ S fun l S1 => one l fun d => goL (roL d) fun xs => forE i j b D 0 xs ρ S1
theorem lift_forE {K : PySem.W.Frag} {i j : Nat} {src : WA} {b : WS} (D : Ends) (σ : L2.St) (H : Hp) (h : lS K (wForE i j src b) D σ H) : tFor (iEnum K (lA K src)) (gTup K 2 (gCons (gName i) (gCons (gName j) gNil))) (lS K b) D σ H := by
  obtain ⟨ρ, S, D', env, st, hw, dn⟩ := h
  refine ⟨ρ, S, _, env, st, hw, fun l S1 us H1 q e st1 hl => ?_⟩
  obtain ⟨d, rfl, q⟩ := one_inv q
  obtain ⟨v, rfl, hd⟩ := dens1 hl
  obtain ⟨ds, hds, q⟩ := goL_inv q
  obtain ⟨a, vs, rfl, hq, hv⟩ := roL_ok hd hds
  refine ⟨a, rfl, ⟨vs, hq.sq⟩, fun t m σ2 H2 => m = vs.length - t ∧ t ≤ vs.length ∧ LoopAt K H1 (forE i j b D' (t : Int) (ds.drop t)) σ2 H2, ⟨vs.length, rfl, Nat.zero_le _, ρ, S1, env.ext e, st1, Ext.refl _, q⟩, ?_⟩
  rintro t m σ2 H2 ⟨rfl, ht, ρ2, S2, env2, st2, e2, q2⟩
  have sq := (e2.sqR hq).sq
  by_cases hlt : t < vs.length
  · have hvt : vs[t]? = some vs[t] := by simp [hlt]
    obtain ⟨y, hy, dy⟩ := dens_get' hv hvt
    rw [drop_cons' hy] at q2
    refine .inr ⟨⟨vs, vs[t], sq, hvt⟩, fun σ3 H3 => ∃ ρ3 S3, EnvOk K H3 ρ3 σ3 ∧ StOk K H3 S3 ∧ Ext H1 H3 ∧ forE i j b D' ((t : Int) + 1) (ds.drop (t + 1)) ρ3 S3, fun σ3 H3 ⟨ρ3, S3, en3, s3, e3, q3⟩ => ⟨vs.length - (t + 1), by omega, rfl, hlt, ρ3, S3, en3, s3, e3, q3⟩, fun w H3 hw3 => ?_⟩
    obtain ⟨p, x, rfl, hp, rfl, hx⟩ := hw3
    have ex : x = vs[t] := by
      have z := hx vs sq
      rw [hvt] at z
      exact (Option.some.inj z).symm
    subst ex
    have sm := same_new hp (.tup [.int (t : Int), vs[t]])
    have dy' := den_ext (e2.trans (ext_same sm)) _ _ dy
    refine ⟨p, _, rfl, .inl (.inl upd_same), rfl, _, _, rfl, _, _, rfl, rfl, ?_⟩
    refine ⟨_, S2, _, ((env2.ext (ext_same sm)).set (i := i) (d := .int t) (v := .int t) rfl).set (i := j) dy', st2.same sm, q2, ⟨?_, ?_, ?_, ?_⟩⟩
    · exact fun ρ4 S4 σ4 H4 q4 e4 env4 st4 => ⟨ρ4, S4, env4, st4, (e2.trans (ext_same sm)).trans e4, q4⟩
    · exact fun d S4 v H4 q4 e4 st4 hd => dn.rt d S4 v H4 q4 ((e.trans (e2.trans (ext_same sm))).trans e4) st4 hd
    · exact fun ρ4 S4 σ4 H4 q4 e4 env4 st4 => dn.nx ρ4 S4 σ4 H4 q4 ((e.trans (e2.trans (ext_same sm))).trans e4) env4 st4
    · exact fun ρ4 S4 σ4 H4 q4 e4 env4 st4 => ⟨ρ4, S4, env4, st4, (e2.trans (ext_same sm)).trans e4, q4⟩
  · have et : t = vs.length := by omega
    subst et
    rw [List.drop_eq_nil_of_le (by rw [dens_len hv]; exact Nat.le_refl _)] at q2
    exact .inl ⟨⟨vs, sq, Nat.le_refl _⟩, dn.nx ρ2 S2 σ2 H2 q2 (e.trans e2) env2 st2⟩
theorem ds_forE {i j : Nat} {x y : Str} {a : Expr} {body : List Stmt} {t : WA} {tb : WS} {pos px py pt pc pr : Pos} {k : Nat} (hp : PassesOwn (model X.prog X.w) X.A X.env X.xe) (hN : X.N.Nodup) (hm : X.mg "enumerate" = none) (ha : DA X [a] t) (hb : DSs X body tb) (hc : X.calm = true := by rfl)
    (hg : Gl X "enumerate" := by rfl) (hi : X.N[i]? = some x := by rfl) (hj : X.N[j]? = some y := by rfl) (hx : Loc X.env.scope x := by first | exact Or.inl rfl | exact Or.inr rfl) (hy : Loc X.env.scope y := by first | exact Or.inl rfl | exact Or.inr rfl)
    (hfx : X.fn x = true ∨ X.env.scope.names.lookup x = some .local := by first | exact .inl rfl | exact .inr rfl | assumption) (hfy : X.fn y = true ∨ X.env.scope.names.lookup y = some .local := by first | exact .inl rfl | exact .inr rfl | assumption)
    (hst : starEach [a] X.env = [(false, eval a X.env)] := by rfl) (hs : ∀ x, foldedSetIterable (.Call (.Name "enumerate" pr) [a] [] pc) X.env x = pure x := by intro _; rfl)
    (h1 : (assignEach [.Name x px, .Name y py] X.env).map (·.2) = assign (.Name x px) X.env :: (assignEach [.Name y py] X.env).map (·.2) := by rfl) (h2 : (assignEach [.Name y py] X.env).map (·.2) = assign (.Name y py) X.env :: (assignEach [] X.env).map (·.2) := by rfl)
    (hn : (assignEach [.Name x px, .Name y py] X.env).length = 2 := by rfl) (hsn : (assignEach [.Name x px, .Name y py] X.env).findIdx? (·.1) = none := by rfl) :
    DS X (.For (.Tuple [.Name x px, .Name y py] k pt) (.Call (.Name "enumerate" pr) [a] [] pc) body [] pos) (wForE i j t tb) :=
  PS.weak (ps_for hp hc (pi_enum hg hm ha hst) (pg_tup hc (pgs_cons (pg_name hN hi hx hfx) (pgs_cons (pg_name hN hj hy hfy) pgs_nil h2) h1) hn hsn) hb hs) lift_forE
end
@[simp ↓] theorem wForE_eq {i j : Nat} {src : WA} {b : WS} {D : Dn} {ρ : Ev} {S : Sto} : wForE i j src b D ρ S = src ρ S (fun l S1 => oneK l fun d => goLK (roL d) fun xs => forE i j b D 0 xs ρ S1) := id rfl
theorem de_neg {X : Cx} {i : Int} {j : Nat} {pos p : Pos} : DE X (.UnaryOp .USub (.Constant (.int i) j pos) p) (wC (.int (-i))) :=
  PE.weak (pe_un un_neg pe_int) fun σ H Q ⟨ρ, S, Q', env, st, hw, post⟩ => ⟨i, rfl, post (.int (-i)) S _ H hw (Ext.refl H) st rfl⟩
noncomputable def isTagObj (o : Obj) (a b : Int) : Bool := match o.cls, o.data with
  | .type "tuple", .seq ⟨[.int x _, .int y _]⟩ _ => x == a && y == b
  | _, _ => false
theorem den_tagObj {K : PySem.W.Frag} {A : Addr} {o : Obj} (x : K.lookup A = some o) (v : isTagObj o 0 0 = true) : ∀ H, den K H (.tup [.int 0, .int 0]) (.ref A) := fun H => by
  unfold isTagObj at v
  split at v
  · rename_i x1 t1 y1 t2 n hc hd
    obtain ⟨e1, e2⟩ := Bool.and_eq_true_iff.mp v
    have e1' : x1 = 0 := eq_of_beq e1
    have e2' : y1 = 0 := eq_of_beq e2
    subst e1' e2'
    refine ⟨A, [.int 0, .int 0], rfl, .inr ⟨.inr ⟨o, _, n, x, hc, hd, by show 2 ≤ sizeLine; decide, .cons ⟨t1, rfl⟩ (.cons ⟨t2, rfl⟩ .nil)⟩, rfl⟩, dens_cons rfl (dens_cons rfl dens_nil)⟩
  · cases v
noncomputable def c_BEGINNING : Dv := .tup [.int 0, .int 0]
end MQ
namespace MQ
open PySem PySem.Spec PyProof.Rows L2
@[simp] theorem oMod_lit {S : Sto} {i j : Int} (h : 0 < j) : oMod S (.int i) (.int j) = some (.int (i % j)) := if_pos h
@[simp] theorem oMul_lit {S : Sto} {i j : Int} (h1 : -18446744073709551616 < j) (h2 : j < 18446744073709551616) : oMul S (.int i) (.int j) = some (.int (i * j)) := if_pos (mulOk_of (.inr ⟨h1, h2⟩))
@[simp] theorem oDiv_lit {S : Sto} {i j : Int} (h1 : 0 < j) (h2 : j < 1073741824) : oDiv S (.int i) (.int j) = some (.int (i / j)) := if_pos (divOk_of ⟨h1, h2⟩)
theorem oMul_small {S : Sto} {i j : Int} (h0 : 0 ≤ i) (h1 : i ≤ 1000000) : oMul S (.int i) (.int j) = some (.int (i * j)) :=
  if_pos (mulOk_of (.inl ⟨Int.lt_of_lt_of_le (show -(2 ^ 64 : Int) < 0 by decide) h0, Int.lt_of_le_of_lt h1 (show (1000000 : Int) < 2 ^ 64 by decide)⟩))
structure Rw where
  tc : Int
  th : Int
  bc : Int
  bh : Int
  sg : Str
  out : Bool
noncomputable def rowD (r : Rw) : Dv := .tup [.tup [.int r.tc, .int r.th], .tup [.int r.bc, .int r.bh], .str r.sg, .bl r.out]
theorem rowD_e {r : Rw} : rowD r = .tup [.tup [.int r.tc, .int r.th], .tup [.int r.bc, .int r.bh], .str r.sg, .bl r.out] := id rfl
theorem noRefs_rows : ∀ rows : List Rw, noRefs (rows.map rowD) = true
  | [] => rfl
  | r :: rs => by rw [List.map_cons, noRefs, noRefs_rows rs]; rfl
theorem lay_rows : ∀ rows : List Rw, (∀ r ∈ rows, PyData.strOk r.sg = true) → PyData.canLayAll0 (dPs (rows.map rowD)) = true ∧ PyData.depthAll (dPs (rows.map rowD)) ≤ 2
  | [], _ => ⟨rfl, by decide⟩
  | r :: rs, h => by
    obtain ⟨h1, h2⟩ := lay_rows rs fun x hx => h x (List.mem_cons_of_mem _ hx)
    have hr := h r List.mem_cons_self
    refine ⟨?_, ?_⟩
    · rw [List.map_cons, dPs, PyData.canLayAll0, h1, Bool.and_true]
      show (true && (true && (PyData.strOk r.sg && (true && true)))) = true
      rw [hr]; rfl
    · rw [List.map_cons, dPs, PyData.depthAll]
      exact Nat.max_le.mpr ⟨Nat.le_refl 2, h2⟩
theorem pur_rows {rows : List Rw} (h : ∀ r ∈ rows, PyData.strOk r.sg = true) : pur (.lst (rows.map rowD)) = true := by
  obtain ⟨h1, h2⟩ := lay_rows rows h
  have e1 : noRef (.lst (rows.map rowD)) = true := noRefs_rows rows
  have e2 : SeqAt.shaped (dP (.lst (rows.map rowD))) = true := by
    show (PyData.canLayAll0 (dPs (rows.map rowD)) && decide (PyData.depthAll (dPs (rows.map rowD)) + 1 ≤ 64)) = true
    rw [h1, decide_eq_true (by omega)]; rfl
  show (noRef (.lst (rows.map rowD)) && SeqAt.shaped (dP (.lst (rows.map rowD)))) = true
  rw [e1, e2]; rfl
theorem deq_refl {d : Dv} (h : pur d = true) : deq d d = true := SeqAt.eqv_refl _ (SeqAt.canLay_of_shaped (pur_inv h).2)
theorem oNe_self {S : Sto} {d : Dv} (hd : drf S d = d) (h : pur d = true) : oNe S d d = some false := by
  unfold oNe; rw [hd, h, deq_refl h]; rfl
theorem ix_sign {S : Sto} {z : Str} {i : Int} (hz : z.length ≤ lim) (ok : PyData.strOk z = true) (h0 : 0 ≤ i) (h1 : i < (z.length : Int)) : ∃ x : Str, oIx S (.str z) (.int i) = some (.str x) ∧ PyData.strOk x = true ∧ x.length = 1 := by
  have hl : i.toNat < z.cps.toList.length := by
    have : z.cps.toList.length = z.length := by simp [Str.length]
    omega
  have e : atI z.cps.toList i = some z.cps.toList[i.toNat] := by
    unfold atI ixN
    rw [if_pos h0, if_pos (by omega)]
    exact List.getElem?_eq_getElem hl
  refine ⟨⟨#[z.cps.toList[i.toNat]]⟩, ?_, ?_, rfl⟩
  · show (if z.length ≤ lim then (atI z.cps.toList i).map fun c => Dv.str ⟨#[c]⟩ else none) = _
    rw [if_pos hz, e]; rfl
  · have all : z.cps.all (· < 0x110000) = true := ok
    rw [← Array.all_toList, List.all_eq_true] at all
    have q := all _ (List.getElem_mem hl)
    show (#[z.cps.toList[i.toNat]] : Array Nat).all (· < 0x110000) = true
    simpa using q
noncomputable def cell (ns : List Int) (k : Int) : Int := ns.getD k.toNat 0
noncomputable def sp_law_at : Ds := fun ds S Q => ∃ ns k, ds = [.scr ns, .int k] ∧ 0 ≤ k ∧ Q (.int (cell ns k)) S
theorem ln_law_at : ∀ ds S Q, sp_law_at ds S Q → ds.length = 2 := by rintro _ S Q ⟨ns, k, rfl, _⟩; rfl
noncomputable def sp_law_whole : Ds := fun ds S Q => ∃ i, ds = [.int i] ∧ Q (.bl true) S
theorem ln_law_whole : ∀ ds S Q, sp_law_whole ds S Q → ds.length = 1 := by rintro _ S Q ⟨i, rfl, _⟩; rfl
noncomputable def lat (a b c d : Int) : Bool := if a = c then decide (d < b) else decide (c < a)
noncomputable def sp_later : Ds := fun ds S Q => ∃ a b c d, ds = [.tup [.int a, .int b], .tup [.int c, .int d]] ∧ Q (.bl (lat a b c d)) S
theorem ln_later : ∀ ds S Q, sp_later ds S Q → ds.length = 2 := by rintro _ S Q ⟨a, b, c, d, rfl, _⟩; rfl
@[simp] theorem call_law_at {ns : List Int} {k : Int} {S : Sto} {Q : QE} : sp_law_at [.scr ns, .int k] S Q = (0 ≤ k ∧ Q (.int (cell ns k)) S) := propext ⟨fun ⟨_, _, e, h⟩ => by cases e; exact h, fun h => ⟨ns, k, rfl, h⟩⟩
@[simp] theorem call_law_whole {i : Int} {S : Sto} {Q : QE} : sp_law_whole [.int i] S Q = Q (.bl true) S := by simp [sp_law_whole]
@[simp] theorem call_later {a b c d : Int} {S : Sto} {Q : QE} : sp_later [.tup [.int a, .int b], .tup [.int c, .int d]] S Q = Q (.bl (lat a b c d)) S := propext ⟨fun ⟨_, _, _, _, e, h⟩ => by cases e; exact h, fun h => ⟨a, b, c, d, rfl, h⟩⟩
theorem cutD_map (ns : List Int) (lo hi : Option Int) : ∃ ms : List Int, cutD (ns.map .int) lo hi = ms.map .int ∧ ms.length ≤ ns.length := by
  refine ⟨(ns.drop (HT.sIx ns.length 0 lo)).take (HT.sIx ns.length ns.length hi - HT.sIx ns.length 0 lo), ?_, ?_⟩
  · unfold cutD
    simp [List.map_take, List.map_drop]
  · rw [List.length_take, List.length_drop]; omega
end MQ
namespace MQ
open PySem PySem.Spec PyProof.Rows L2
noncomputable abbrev Tag := Int × Int
noncomputable def Rw.tag (r : Rw) : Tag := (r.tc, r.th)
noncomputable def Rw.bhd (r : Rw) : Tag := (r.bc, r.bh)
theorem rowD_inj {a b : Rw} (h : rowD a = rowD b) : a = b := by
  cases a; cases b
  simp [rowD] at h
  obtain ⟨⟨h1, h2⟩, ⟨h3, h4⟩, h5, h6⟩ := h
  subst h1 h2 h3 h4 h5 h6; rfl
theorem rows_inj : ∀ {a b : List Rw}, a.map rowD = b.map rowD → a = b
  | [], [], _ => rfl
  | [], _ :: _, h => by cases h
  | _ :: _, [], h => by cases h
  | x :: xs, y :: ys, h => by
    rw [List.map_cons, List.map_cons] at h
    injection h with h1 h2
    rw [rowD_inj h1, rows_inj h2]
noncomputable def okS (rows : List Rw) : Prop := ∀ r ∈ rows, PyData.strOk r.sg = true
noncomputable def fnd (t : Tag) : List Rw → Option Nat
  | [] => none
  | r :: rs => if r.tag = t then some 0 else (fnd t rs).map (· + 1)
noncomputable def ixD : Option Nat → Dv
  | none => .non
  | some i => .int i
noncomputable def bix (rows : List Rw) (t : Tag) : Option Nat := if t = (0, 0) then some 0 else (fnd t rows).map (· + 1)
noncomputable def past (t : Tag) : List Rw → Nat
  | [] => 0
  | r :: rs => if lat r.tc r.th t.1 t.2 = true then past t rs + 1 else 0
noncomputable def putF (rows : List Rw) (t b : Tag) (x : Str) : Option (List Rw) := match fnd t rows with
  | some k => if (rows[k]?.any fun r => decide (r.bhd = b ∧ r.sg = x)) = true then some rows else none
  | none => match bix rows b with
    | none => none
    | some s => if lat t.1 t.2 b.1 b.2 = true then some (rows.take (s + past t (rows.drop s)) ++ [⟨t.1, t.2, b.1, b.2, x, false⟩] ++ rows.drop (s + past t (rows.drop s))) else none
noncomputable def cutF (rows : List Rw) (t : Tag) : Option (List Rw) := match fnd t rows with
  | some k => match rows[k]? with
    | some r => some (rows.take k ++ [{ r with out := true }] ++ rows.drop (k + 1))
    | none => none
  | none => none
inductive Slip where
  | put (t b : Tag) (x : Str)
  | cut (t : Tag)
noncomputable def slipD : Slip → Dv
  | .put t b x => .tup [.str "put", .tup [.int t.1, .int t.2], .tup [.int b.1, .int b.2], .str x]
  | .cut t => .tup [.str "cut", .tup [.int t.1, .int t.2]]
noncomputable def hrdF (rows : List Rw) : Slip → Option (List Rw)
  | .put t b x => putF rows t b x
  | .cut t => cutF rows t
noncomputable def okSl : Slip → Prop
  | .put _ _ x => PyData.strOk x = true
  | .cut _ => True
noncomputable def sp_place_or_none : Ds := fun ds S Q => ∃ (rows : List Rw) (c h : Int), ds = [.lst (rows.map rowD), .tup [.int c, .int h]] ∧ Q (ixD (fnd (c, h) rows)) S
noncomputable def sp_place_of : Ds := fun ds S Q => ∃ (rows : List Rw) (c h : Int) (i : Nat), ds = [.lst (rows.map rowD), .tup [.int c, .int h]] ∧ fnd (c, h) rows = some i ∧ Q (.int i) S
noncomputable def sp_place_behind : Ds := fun ds S Q => ∃ (rows : List Rw) (c h : Int) (i : Nat), ds = [.lst (rows.map rowD), .tup [.int c, .int h]] ∧ bix rows (c, h) = some i ∧ Q (.int i) S
noncomputable def sp_past_later : Ds := fun ds S Q => ∃ (rows : List Rw) (p : Nat) (c h : Int), ds = [.lst (rows.map rowD), .int p, .tup [.int c, .int h]] ∧ p ≤ rows.length ∧ Q (.int ((p + past (c, h) (rows.drop p) : Nat) : Int)) S
noncomputable def sp_with_put : Ds := fun ds S Q => ∃ (rows : List Rw) (c h c' h' : Int) (x : Str) (rows' : List Rw), ds = [.lst (rows.map rowD), .tup [.int c, .int h], .tup [.int c', .int h'], .str x] ∧ rows.length ≤ 100000 ∧ okS rows ∧ PyData.strOk x = true ∧ putF rows (c, h) (c', h') x = some rows' ∧ Q (.lst (rows'.map rowD)) S
noncomputable def sp_with_cut : Ds := fun ds S Q => ∃ (rows : List Rw) (c h : Int) (rows' : List Rw), ds = [.lst (rows.map rowD), .tup [.int c, .int h]] ∧ rows.length ≤ 100000 ∧ cutF rows (c, h) = some rows' ∧ Q (.lst (rows'.map rowD)) S
noncomputable def sp_heard : Ds := fun ds S Q => ∃ (rows : List Rw) (s : Slip) (rows' : List Rw), ds = [.lst (rows.map rowD), slipD s] ∧ rows.length ≤ 100000 ∧ okS rows ∧ okSl s ∧ hrdF rows s = some rows' ∧ Q (.lst (rows'.map rowD)) S
noncomputable def sp_law_is_tag : Ds := fun ds S Q => ∃ c h, ds = [.tup [.int c, .int h]] ∧ Q (.bl true) S
noncomputable def sp_law_is_sheet : Ds := fun ds S Q => ∃ rows : List Rw, ds = [.lst (rows.map rowD)] ∧ Q (.bl true) S
theorem ln_place_or_none : ∀ ds S Q, sp_place_or_none ds S Q → ds.length = 2 := by rintro _ S Q ⟨_, _, _, rfl, _⟩; rfl
theorem ln_place_of : ∀ ds S Q, sp_place_of ds S Q → ds.length = 2 := by rintro _ S Q ⟨_, _, _, _, rfl, _⟩; rfl
theorem ln_place_behind : ∀ ds S Q, sp_place_behind ds S Q → ds.length = 2 := by rintro _ S Q ⟨_, _, _, _, rfl, _⟩; rfl
theorem ln_past_later : ∀ ds S Q, sp_past_later ds S Q → ds.length = 3 := by rintro _ S Q ⟨_, _, _, _, rfl, _⟩; rfl
theorem ln_with_put : ∀ ds S Q, sp_with_put ds S Q → ds.length = 4 := by rintro _ S Q ⟨_, _, _, _, _, _, _, rfl, _⟩; rfl
theorem ln_with_cut : ∀ ds S Q, sp_with_cut ds S Q → ds.length = 2 := by rintro _ S Q ⟨_, _, _, _, rfl, _⟩; rfl
theorem ln_heard : ∀ ds S Q, sp_heard ds S Q → ds.length = 2 := by rintro _ S Q ⟨_, _, _, rfl, _⟩; rfl
theorem ln_law_is_tag : ∀ ds S Q, sp_law_is_tag ds S Q → ds.length = 1 := by rintro _ S Q ⟨_, _, rfl, _⟩; rfl
theorem ln_law_is_sheet : ∀ ds S Q, sp_law_is_sheet ds S Q → ds.length = 1 := by rintro _ S Q ⟨_, rfl, _⟩; rfl
@[simp] theorem call_place_or_none {rows : List Rw} {c h : Int} {S : Sto} {Q : QE} : sp_place_or_none [.lst (rows.map rowD), .tup [.int c, .int h]] S Q = Q (ixD (fnd (c, h) rows)) S :=
  propext ⟨fun ⟨r, _, _, e, q⟩ => by
    simp only [List.cons.injEq, Dv.lst.injEq, Dv.tup.injEq, Dv.int.injEq, and_true] at e
    obtain ⟨e1, e2, e3⟩ := e
    rw [rows_inj e1, e2, e3]; exact q, fun q => ⟨rows, c, h, rfl, q⟩⟩
@[simp] theorem call_law_is_tag {c h : Int} {S : Sto} {Q : QE} : sp_law_is_tag [.tup [.int c, .int h]] S Q = Q (.bl true) S := propext ⟨fun ⟨_, _, _, q⟩ => q, fun q => ⟨c, h, rfl, q⟩⟩
@[simp] theorem call_law_is_sheet {rows : List Rw} {S : Sto} {Q : QE} : sp_law_is_sheet [.lst (rows.map rowD)] S Q = Q (.bl true) S := propext ⟨fun ⟨_, _, q⟩ => q, fun q => ⟨rows, rfl, q⟩⟩
noncomputable def wb_place_or_none_0 : WS :=
  (wIf (wCmp oEq (wOp oIx (wVar 3) (wC (.int 0))) (wVar 1))
  (wRet (wVar 2))
  wNext)
noncomputable def w_place_or_none : WS :=
  (wSeq (wForE 2 3 (wCons (wVar 0) wNil)
  wb_place_or_none_0)
  (wRet (wC .non)))
noncomputable def w_place_of : WS :=
  (wSeq (wSet 2 (wCall sp_place_or_none (wCons (wVar 0) (wCons (wVar 1) wNil))))
  (wSeq (wIf (wCmp oIs (wVar 2) (wC .non))
  wNo
  wNext)
  (wRet (wVar 2))))
noncomputable def w_with_cut : WS :=
  (wSeq (wSet 2 (wCall sp_place_of (wCons (wVar 0) (wCons (wVar 1) wNil))))
  (wSeq (wSet 3 (wOp oIx (wVar 0) (wVar 2)))
  (wRet (wOp oAdd (wOp oAdd (wSl (wVar 0) none (some (wVar 2))) (wLst (wCons (wTup (wCons (wOp oIx (wVar 3) (wC (.int 0))) (wCons (wOp oIx (wVar 3) (wC (.int 1))) (wCons (wOp oIx (wVar 3) (wC (.int 2))) (wCons (wC (.bl true)) wNil))))) wNil))) (wSl (wVar 0) (some (wOp oAdd (wVar 2) (wC (.int 1)))) none)))))
noncomputable def w_place_behind : WS :=
  (wSeq (wIf (wCmp oEq (wVar 1) (wC c_BEGINNING))
  (wRet (wC (.int 0)))
  wNext)
  (wRet (wOp oAdd (wCall sp_place_of (wCons (wVar 0) (wCons (wVar 1) wNil))) (wC (.int 1)))))
noncomputable def w_later : WS :=
  (wSeq (wIf (wCmp oEq (wOp oIx (wVar 0) (wC (.int 0))) (wOp oIx (wVar 1) (wC (.int 0))))
  (wRet (wOp (asD oGt) (wOp oIx (wVar 0) (wC (.int 1))) (wOp oIx (wVar 1) (wC (.int 1)))))
  wNext)
  (wRet (wOp (asD oGt) (wOp oIx (wVar 0) (wC (.int 0))) (wOp oIx (wVar 1) (wC (.int 0))))))
noncomputable def wb_past_later_0 : WS :=
  (wSet 1 (wOp oAdd (wVar 1) (wC (.int 1))))
noncomputable def w_past_later : WS :=
  (wSeq (wWhile (wAnd (wCmp oLt (wVar 1) (wCB fLen (wCons (wVar 0) wNil))) (wTest (wCall sp_later (wCons (wOp oIx (wOp oIx (wVar 0) (wVar 1)) (wC (.int 0))) (wCons (wVar 2) wNil)))))
  wb_past_later_0)
  (wRet (wVar 1)))
noncomputable def wt_with_put_5 : WS :=
  (wRet (wOp oAdd (wOp oAdd (wSl (wVar 0) none (some (wVar 6))) (wLst (wCons (wTup (wCons (wVar 1) (wCons (wVar 2) (wCons (wVar 3) (wCons (wC (.bl false)) wNil))))) wNil))) (wSl (wVar 0) (some (wVar 6)) none)))
noncomputable def wt_with_put_4 : WS :=
  (wSeq (wSet 6 (wCall sp_past_later (wCons (wVar 0) (wCons (wVar 5) (wCons (wVar 1) wNil)))))
  wt_with_put_5)
noncomputable def wt_with_put_3 : WS :=
  (wSeq (wIf (wNot (wTest (wCall sp_later (wCons (wVar 1) (wCons (wVar 2) wNil)))))
  wNo
  wNext)
  wt_with_put_4)
noncomputable def wt_with_put_2 : WS :=
  (wSeq (wSet 5 (wCall sp_place_behind (wCons (wVar 0) (wCons (wVar 2) wNil))))
  wt_with_put_3)
noncomputable def wt_with_put_1 : WS :=
  (wSeq (wIf (wCmp oIsNot (wVar 4) (wC .non))
  (wSeq (wIf (wOr (wCmp oNe (wOp oIx (wOp oIx (wVar 0) (wVar 4)) (wC (.int 1))) (wVar 2)) (wCmp oNe (wOp oIx (wOp oIx (wVar 0) (wVar 4)) (wC (.int 2))) (wVar 3)))
  wNo
  wNext)
  (wRet (wCB fList (wCons (wVar 0) wNil))))
  wNext)
  wt_with_put_2)
noncomputable def w_with_put : WS :=
  (wSeq (wSet 4 (wCall sp_place_or_none (wCons (wVar 0) (wCons (wVar 1) wNil))))
  wt_with_put_1)
noncomputable def w_heard : WS :=
  (wSeq (wIf (wCmp oEq (wOp oIx (wVar 1) (wC (.int 0))) (wC (.str "put")))
  (wRet (wCall sp_with_put (wCons (wVar 0) (wCons (wOp oIx (wVar 1) (wC (.int 1))) (wCons (wOp oIx (wVar 1) (wC (.int 2))) (wCons (wOp oIx (wVar 1) (wC (.int 3))) wNil))))))
  wNext)
  (wRet (wCall sp_with_cut (wCons (wVar 0) (wCons (wOp oIx (wVar 1) (wC (.int 1))) wNil)))))
noncomputable def w_law_whole : WS :=
  (wRet (wAndV (wIsI "int" (wVar 0)) (wNotV (wIsI "bool" (wVar 0)))))
noncomputable def w_law_is_tag : WS :=
  (wSeq (wIf (wOr (wNot (wTest (wIsI "tuple" (wVar 0)))) (wCmp oNe (wCB fLen (wCons (wVar 0) wNil)) (wC (.int 2))))
  (wRet (wC (.bl false)))
  wNext)
  (wRet (wAndV (wCall sp_law_whole (wCons (wOp oIx (wVar 0) (wC (.int 0))) wNil)) (wCall sp_law_whole (wCons (wOp oIx (wVar 0) (wC (.int 1))) wNil)))))
noncomputable def wb_law_is_sheet_0 : WS :=
  (wSeq (wIf (wOr (wNot (wTest (wIsI "tuple" (wVar 1)))) (wCmp oNe (wCB fLen (wCons (wVar 1) wNil)) (wC (.int 4))))
  (wRet (wC (.bl false)))
  wNext)
  (wSeq (wIf (wOr (wNot (wTest (wCall sp_law_is_tag (wCons (wOp oIx (wVar 1) (wC (.int 0))) wNil)))) (wNot (wTest (wCall sp_law_is_tag (wCons (wOp oIx (wVar 1) (wC (.int 1))) wNil)))))
  (wRet (wC (.bl false)))
  wNext)
  (wIf (wOr (wNot (wTest (wIsI "str" (wOp oIx (wVar 1) (wC (.int 2)))))) (wNot (wTest (wIsI "bool" (wOp oIx (wVar 1) (wC (.int 3)))))))
  (wRet (wC (.bl false)))
  wNext)))
noncomputable def w_law_is_sheet : WS :=
  (wSeq (wIf (wNot (wTest (wIsI "list" (wVar 0))))
  (wRet (wC (.bl false)))
  wNext)
  (wSeq (wFor 1 (wVar 0)
  wb_law_is_sheet_0)
  (wRet (wC (.bl true)))))
noncomputable def w_law_at : WS :=
  (wSeq (wIf (wCmp oLt (wVar 1) (wCB fLen (wCons (wVar 0) wNil)))
  (wRet (wOp oIx (wVar 0) (wVar 1)))
  wNext)
  (wRet (wC (.int 0))))
theorem ok_later : ∀ ds S Q, sp_later ds S Q → w_later { nx := fun _ S' => Q .non S', rt := Q } (ent 2 ds) S := by
  rintro _ S Q ⟨a, b, c, d, rfl, q⟩
  simp [w_later, ent]
  unfold lat at q
  split <;> simp_all
theorem ok_law_at : ∀ ds S Q, sp_law_at ds S Q → w_law_at { nx := fun _ S' => Q .non S', rt := Q } (ent 2 ds) S := by
  rintro _ S Q ⟨ns, k, rfl, h0, q⟩
  simp [w_law_at, ent]
  split
  · rename_i h
    rw [ix_scr h0 (by omega)]
    exact q
  · rename_i h
    have e : cell ns k = 0 := by unfold cell; rw [List.getD_eq_getElem?_getD, List.getElem?_eq_none (by omega)]; rfl
    rw [e] at q
    exact q
theorem ok_law_whole : ∀ ds S Q, sp_law_whole ds S Q → w_law_whole { nx := fun _ S' => Q .non S', rt := Q } (ent 1 ds) S := by
  rintro _ S Q ⟨i, rfl, q⟩
  simp [w_law_whole, ent]
  exact q
theorem ok_law_is_tag : ∀ ds S Q, sp_law_is_tag ds S Q → w_law_is_tag { nx := fun _ S' => Q .non S', rt := Q } (ent 1 ds) S := by
  rintro _ S Q ⟨c, h, rfl, q⟩
  simp [w_law_is_tag, ent]
  exact q
theorem sheet_turns {D : Dn} {S : Sto} {x0 : Option Dv} (h : ∀ y, D.nx [x0, y] S) : ∀ (rows : List Rw) (x1 : Option Dv), forL 1 wb_law_is_sheet_0 D (rows.map rowD) [x0, x1] S
  | [], x1 => h x1
  | r :: rs, x1 => by
    have step := sheet_turns h rs (some (rowD r))
    show wb_law_is_sheet_0 { D with nx := forL 1 wb_law_is_sheet_0 D (rs.map rowD), ct := forL 1 wb_law_is_sheet_0 D (rs.map rowD), bk := D.nx } [x0, some (rowD r)] S
    generalize forL 1 wb_law_is_sheet_0 D (rs.map rowD) = N at step ⊢
    simp [wb_law_is_sheet_0, rowD] at step ⊢
    exact step
theorem ok_law_is_sheet : ∀ ds S Q, sp_law_is_sheet ds S Q → w_law_is_sheet { nx := fun _ S' => Q .non S', rt := Q } (ent 2 ds) S := by
  rintro _ S Q ⟨rows, rfl, q⟩
  simp [w_law_is_sheet, ent]
  exact sheet_turns (fun y => by simp; exact q) rows none
theorem place_turns {D : Dn} {S : Sto} {x0 : Option Dv} {c h : Int} : ∀ (rows : List Rw) (k : Int) (x2 x3 : Option Dv),
    (match fnd (c, h) rows with
      | some i => D.rt (.int (k + i)) S
      | none => ∀ y2 y3, D.nx [x0, some (.tup [.int c, .int h]), y2, y3] S) →
    forE 2 3 wb_place_or_none_0 D k (rows.map rowD) [x0, some (.tup [.int c, .int h]), x2, x3] S
  | [], k, x2, x3, q => q x2 x3
  | r :: rs, k, x2, x3, q => by
    have step := place_turns (D := D) (S := S) (x0 := x0) (c := c) (h := h) rs (k + 1) (some (.int k)) (some (rowD r))
    show wb_place_or_none_0 { D with nx := forE 2 3 wb_place_or_none_0 D (k + 1) (rs.map rowD), ct := forE 2 3 wb_place_or_none_0 D (k + 1) (rs.map rowD), bk := D.nx } [x0, some (.tup [.int c, .int h]), some (.int k), some (rowD r)] S
    generalize forE 2 3 wb_place_or_none_0 D (k + 1) (rs.map rowD) = N at step ⊢
    simp [wb_place_or_none_0, rowD] at step ⊢
    unfold fnd at q
    split
    · rename_i e
      rw [if_pos (show r.tag = (c, h) from by unfold Rw.tag; rw [e.1, e.2])] at q
      simpa using q
    · rename_i e
      rw [if_neg (show ¬ r.tag = (c, h) from fun z => e (by unfold Rw.tag at z; exact ⟨congrArg Prod.fst z, congrArg Prod.snd z⟩))] at q
      refine step ?_
      cases f : fnd (c, h) rs with
      | none => rw [f] at q; exact q
      | some i =>
        rw [f] at q
        have q' : D.rt (.int (k + ((i + 1 : Nat) : Int))) S := q
        have e1 : k + ((i + 1 : Nat) : Int) = k + 1 + i := by omega
        rw [e1] at q'
        exact q'
theorem ok_place_or_none : ∀ ds S Q, sp_place_or_none ds S Q → w_place_or_none { nx := fun _ S' => Q .non S', rt := Q } (ent 4 ds) S := by
  rintro _ S Q ⟨rows, c, h, rfl, q⟩
  simp [w_place_or_none, ent]
  refine place_turns rows 0 none none ?_
  cases f : fnd (c, h) rows with
  | none => rw [f] at q; intro y2 y3; simp; exact q
  | some i => rw [f] at q; simpa [ixD] using q
@[simp] theorem oIs_int {S : Sto} {i : Int} : oIs S (.int i) .non = some false := id rfl
@[simp] theorem oIs_non {S : Sto} : oIs S .non .non = some true := id rfl
@[simp] theorem oIsNot_int {S : Sto} {i : Int} : oIsNot S (.int i) .non = some true := id rfl
@[simp] theorem oIsNot_non {S : Sto} : oIsNot S .non .non = some false := id rfl
theorem ok_place_of : ∀ ds S Q, sp_place_of ds S Q → w_place_of { nx := fun _ S' => Q .non S', rt := Q } (ent 3 ds) S := by
  rintro _ S Q ⟨rows, c, h, i, rfl, f, q⟩
  simp [w_place_of, ent, f, ixD]
  exact q
theorem ok_place_behind : ∀ ds S Q, sp_place_behind ds S Q → w_place_behind { nx := fun _ S' => Q .non S', rt := Q } (ent 2 ds) S := by
  rintro _ S Q ⟨rows, c, h, i, rfl, f, q⟩
  simp [w_place_behind, ent, c_BEGINNING]
  unfold bix at f
  split
  · rename_i e
    rw [if_pos (by rw [e.1, e.2])] at f
    cases f
    exact q
  · rename_i e
    rw [if_neg (fun z => e ⟨congrArg Prod.fst z, congrArg Prod.snd z⟩)] at f
    cases g : fnd (c, h) rows with
    | none => rw [g] at f; cases f
    | some j =>
      rw [g] at f
      cases f
      exact ⟨rows, c, h, j, rfl, g, by simpa using q⟩
@[simp] theorem wWhile_eq {c : WT} {b : WS} {D : Dn} {ρ : Ev} {S : Sto} : wWhile c b D ρ S = ∃ n, whl c b D n ρ S := id rfl
theorem past_le (t : Tag) : ∀ rows : List Rw, past t rows ≤ rows.length
  | [] => Nat.le_refl 0
  | r :: rs => by
    unfold past
    split
    · exact Nat.succ_le_succ (past_le t rs)
    · exact Nat.zero_le _
theorem row_at {rows : List Rw} {p : Nat} (hp : p < rows.length) (S : Sto) : oIx S (.lst (rows.map rowD)) (.int (p : Int)) = some (rowD rows[p]) := ix_lst (by omega) (by simp [hp])
theorem past_turns {D : Dn} {S : Sto} {rows : List Rw} {c h : Int} : ∀ (n p : Nat), rows.length - p = n → p ≤ rows.length →
    D.nx [some (.lst (rows.map rowD)), some (.int ((p + past (c, h) (rows.drop p) : Nat) : Int)), some (.tup [.int c, .int h])] S →
    whl (wAnd (wCmp oLt (wVar 1) (wCB fLen (wCons (wVar 0) wNil))) (wTest (wCall sp_later (wCons (wOp oIx (wOp oIx (wVar 0) (wVar 1)) (wC (.int 0))) (wCons (wVar 2) wNil))))) wb_past_later_0 D (n + 1) [some (.lst (rows.map rowD)), some (.int p), some (.tup [.int c, .int h])] S := by
  intro n
  induction n with
  | zero =>
    intro p hn hp q
    have e : p = rows.length := by omega
    subst e
    simp only [List.drop_length, past, Nat.add_zero] at q
    unfold whl
    simp
    exact q
  | succ n ih =>
    intro p hn hp q
    have hlt : p < rows.length := by omega
    rw [List.drop_eq_getElem_cons hlt] at q
    have step := ih (p + 1) (by omega) hlt
    unfold whl
    generalize whl (wAnd (wCmp oLt (wVar 1) (wCB fLen (wCons (wVar 0) wNil))) (wTest (wCall sp_later (wCons (wOp oIx (wOp oIx (wVar 0) (wVar 1)) (wC (.int 0))) (wCons (wVar 2) wNil))))) wb_past_later_0 D (n + 1) = N at step ⊢
    have ex := row_at hlt
    simp [ex, hlt, rowD]
    unfold past at q
    split
    · rename_i hl
      rw [if_pos hl] at q
      simp [wb_past_later_0]
      have z := step (by
        have e1 : p + 1 + past (c, h) (rows.drop (p + 1)) = p + (past (c, h) (rows.drop (p + 1)) + 1) := by omega
        rw [e1]; exact q)
      simpa using z
    · rename_i hl
      rw [if_neg hl] at q
      exact q
theorem ok_past_later : ∀ ds S Q, sp_past_later ds S Q → w_past_later { nx := fun _ S' => Q .non S', rt := Q } (ent 3 ds) S := by
  rintro _ S Q ⟨rows, p, c, h, rfl, hp, q⟩
  simp [w_past_later, ent]
  exact ⟨_, past_turns _ p rfl hp (by simp; simpa using q)⟩
theorem fnd_lt {t : Tag} : ∀ {rows : List Rw} {k : Nat}, fnd t rows = some k → k < rows.length
  | [], k, h => by cases h
  | r :: rs, k, h => by
    unfold fnd at h
    split at h
    · cases h; simp
    · cases f : fnd t rs with
      | none => rw [f] at h; cases h
      | some j => rw [f] at h; cases h; simp [fnd_lt f]
theorem cut_take {α : Type} {f : α → Dv} {l : List α} {p : Nat} (hp : p ≤ l.length) : cutD (l.map f) none (some (p : Int)) = (l.take p).map f := by
  unfold cutD
  rw [HT.sIx_none, HT.sIx_nat, List.length_map, Nat.min_eq_left hp, List.drop_zero, Nat.sub_zero, List.map_take]
theorem cut_drop {α : Type} {f : α → Dv} {l : List α} {p : Nat} (hp : p ≤ l.length) : cutD (l.map f) (some (p : Int)) none = (l.drop p).map f := by
  unfold cutD
  rw [HT.sIx_none, HT.sIx_nat, List.length_map, Nat.min_eq_left hp, List.map_drop]
  exact List.take_of_length_le (by simp)
theorem oAdd_lst {S : Sto} {a b : List Dv} (h : a.length + b.length ≤ lim) : oAdd S (.lst a) (.lst b) = some (.lst (a ++ b)) := if_pos h
theorem oNe_str {S : Sto} {x y : Str} (hx : PyData.strOk x = true) (hy : PyData.strOk y = true) : oNe S (.str x) (.str y) = some (!decide (x = y)) := by
  have p1 : pur (.str x) = true := by show (true && (PyData.strOk x && decide (0 ≤ 64))) = true; rw [hx]; rfl
  have p2 : pur (.str y) = true := by show (true && (PyData.strOk y && decide (0 ≤ 64))) = true; rw [hy]; rfl
  have e : deq (.str x) (.str y) = (x == y) := rfl
  show (if (pur (.str x) && pur (.str y)) = true then some (!deq (.str x) (.str y)) else none) = _
  rw [p1, p2, e]
  have z : (x == y) = decide (x = y) := by rw [Bool.eq_iff_iff]; simp
  rw [z]; rfl
theorem oEq_str {S : Sto} {x y : Str} (hx : PyData.strOk x = true) (hy : PyData.strOk y = true) : oEq S (.str x) (.str y) = some (decide (x = y)) := by
  have p1 : pur (.str x) = true := by show (true && (PyData.strOk x && decide (0 ≤ 64))) = true; rw [hx]; rfl
  have p2 : pur (.str y) = true := by show (true && (PyData.strOk y && decide (0 ≤ 64))) = true; rw [hy]; rfl
  have e : deq (.str x) (.str y) = (x == y) := rfl
  show (if (pur (.str x) && pur (.str y)) = true then some (deq (.str x) (.str y)) else none) = _
  rw [p1, p2, e]
  have z : (x == y) = decide (x = y) := by rw [Bool.eq_iff_iff]; simp
  rw [z]; rfl
theorem ok_put : PyData.strOk ("put" : Str) = true := by decide +kernel
theorem ok_cut : PyData.strOk ("cut" : Str) = true := by decide +kernel
theorem cut_ne_put : ¬ (("cut" : Str) = "put") := by decide +kernel
theorem put_ne_cut : ¬ (("put" : Str) = "cut") := by decide +kernel
@[simp] theorem oEq_pp {S : Sto} : oEq S (.str "put") (.str "put") = some true := by rw [oEq_str ok_put ok_put]; simp
@[simp] theorem oEq_cp {S : Sto} : oEq S (.str "cut") (.str "put") = some false := by rw [oEq_str ok_cut ok_put, decide_eq_false cut_ne_put]
@[simp] theorem oEq_cc {S : Sto} : oEq S (.str "cut") (.str "cut") = some true := by rw [oEq_str ok_cut ok_cut]; simp
@[simp] theorem oEq_pc {S : Sto} : oEq S (.str "put") (.str "cut") = some false := by rw [oEq_str ok_put ok_cut, decide_eq_false put_ne_cut]
theorem bix_le {rows : List Rw} {t : Tag} {s : Nat} (h : bix rows t = some s) : s ≤ rows.length := by
  unfold bix at h
  split at h
  · cases h; exact Nat.zero_le _
  · cases f : fnd t rows with
    | none => rw [f] at h; cases h
    | some j => rw [f] at h; cases h; exact fnd_lt f
theorem ok_with_put : ∀ ds S Q, sp_with_put ds S Q → w_with_put { nx := fun _ S' => Q .non S', rt := Q } (ent 7 ds) S := by
  rintro _ S Q ⟨rows, c, h, c', h', x, rows', rfl, hl, ok, okx, f, q⟩
  simp [w_with_put, ent]
  unfold putF at f
  cases g : fnd (c, h) rows with
  | some k =>
    rw [g] at f
    have hk := fnd_lt g
    have ex := row_at hk
    dsimp only at f
    rw [List.getElem?_eq_getElem hk] at f
    simp at f
    obtain ⟨⟨f1, f2⟩, f3⟩ := f
    subst f3
    have e1 : rows[k].bc = c' := congrArg Prod.fst f1
    have e2 : rows[k].bh = h' := congrArg Prod.snd f1
    have on := oNe_str (S := S) (ok _ (List.getElem_mem hk)) okx
    rw [f2] at on
    simp [wt_with_put_1, ixD, ex, rowD, e1, e2, f2, on]
    exact q
  | none =>
    rw [g] at f
    dsimp only at f
    cases b : bix rows (c', h') with
    | none => rw [b] at f; cases f
    | some s =>
      rw [b] at f
      dsimp only at f
      split at f
      · rename_i hlat
        have f' := Option.some.inj f
        have hs := bix_le b
        have hp := past_le (c, h) (rows.drop s)
        rw [List.length_drop] at hp
        have hpl : s + past (c, h) (rows.drop s) ≤ rows.length := by omega
        simp [wt_with_put_1, wt_with_put_2, ixD]
        refine ⟨rows, c', h', s, rfl, b, ?_⟩
        simp [wt_with_put_3, wt_with_put_4, hlat]
        refine ⟨rows, s, c, h, rfl, hs, ?_⟩
        have z1 := cut_take (f := rowD) hpl
        have z2 := cut_drop (f := rowD) hpl
        simp only [wt_with_put_5, wRet_eq, wOp_eq, wSl_eq, wVar_eq, ev?_z, ev?_s, go_some, wPart_none, wPart_some, asI_int, rdL_lst, goL_some, wLst_eq, wCons_eq, wNil_eq, wTup_eq, wC_eq, List.set_cons_succ, List.set_cons_zero, z1, z2]
        refine ⟨by simp, by simp, ?_⟩
        rw [oAdd_lst (by simp [lim]; omega)]
        simp only [go_some]
        rw [oAdd_lst (by simp [lim]; omega)]
        simp only [go_some]
        rw [← f'] at q
        simpa [rowD] using q
      · cases f
theorem ok_with_cut : ∀ ds S Q, sp_with_cut ds S Q → w_with_cut { nx := fun _ S' => Q .non S', rt := Q } (ent 4 ds) S := by
  rintro _ S Q ⟨rows, c, h, rows', rfl, hl, f, q⟩
  simp [w_with_cut, ent]
  unfold cutF at f
  cases g : fnd (c, h) rows with
  | none => rw [g] at f; cases f
  | some k =>
    rw [g] at f
    have hk := fnd_lt g
    have ex := row_at hk
    dsimp only at f
    rw [List.getElem?_eq_getElem hk] at f
    have f' := Option.some.inj f
    refine ⟨rows, c, h, k, rfl, g, ?_⟩
    have z1 := cut_take (f := rowD) (Nat.le_of_lt hk)
    have z2 := cut_drop (f := rowD) (l := rows) (p := k + 1) hk
    have ec : ((k + 1 : Nat) : Int) = (k : Int) + 1 := by omega
    rw [ec] at z2
    simp [ex, rowD, z1, z2]
    rw [oAdd_lst (by simp [lim]; omega)]
    simp [z2]
    rw [oAdd_lst (by simp [lim]; omega)]
    simp only [go_some]
    rw [← f'] at q
    simpa [rowD] using q
theorem ok_heard : ∀ ds S Q, sp_heard ds S Q → w_heard { nx := fun _ S' => Q .non S', rt := Q } (ent 2 ds) S := by
  rintro _ S Q ⟨rows, s, rows', rfl, hl, ok, oks, f, q⟩
  cases s with
  | put t b x =>
    simp [w_heard, ent, slipD]
    exact ⟨rows, t.1, t.2, b.1, b.2, x, rows', rfl, hl, ok, oks, f, q⟩
  | cut t =>
    simp [w_heard, ent, slipD]
    exact ⟨rows, t.1, t.2, rows', rfl, hl, f, q⟩
noncomputable def tagD (t : Tag) : Dv := .tup [.int t.1, .int t.2]
theorem ix_neg {S : Sto} {xs : List Dv} {d : Dv} (h : xs.getLast? = some d) : oIx S (.lst xs) (.int (-1)) = some d := by
  rw [List.getLast?_eq_getElem?] at h
  have hl : xs.length - 1 < xs.length := (List.getElem?_eq_some_iff.mp h).1
  show atI xs (-1) = some d
  unfold atI ixN
  rw [if_neg (by decide), if_pos (by omega)]
  have e : ((-1 : Int) + (xs.length : Int)).toNat = xs.length - 1 := by omega
  rw [e]
  exact h
section
variable {D : Dn} {p : Addr} {S0 S : Sto} {ns : List Int} {b : Bool} {rows : List Rw} {road : List Tag} {xs : List Dv} {k deep : Nat} {n : Int} {x7 : Option Dv} {sg : Str} {d t : Dv}
end
theorem fnd_at {t : Tag} : ∀ {rows : List Rw} {i : Nat}, fnd t rows = some i → ∃ r, rows[i]? = some r ∧ r.tag = t
  | [], _, h => by cases h
  | r :: rs, i, h => by
    unfold fnd at h
    split at h
    · rename_i e; cases h; exact ⟨r, rfl, e⟩
    · cases f : fnd t rs with
      | none => rw [f] at h; cases h
      | some j =>
        rw [f] at h; cases h
        obtain ⟨q, h1, h2⟩ := fnd_at f
        exact ⟨q, by simpa using h1, h2⟩
theorem fnd_no {t : Tag} : ∀ {rows : List Rw}, fnd t rows = none → ∀ r ∈ rows, r.tag ≠ t
  | [], _, r, hr => by cases hr
  | x :: rs, h, r, hr => by
    unfold fnd at h
    split at h
    · cases h
    · rename_i ne
      cases f : fnd t rs with
      | some j => rw [f] at h; cases h
      | none =>
        rcases List.mem_cons.mp hr with e | hr
        · rw [e]; exact ne
        · exact fnd_no f r hr
theorem fnd_none {t : Tag} : ∀ {rows : List Rw}, (∀ r ∈ rows, r.tag ≠ t) → fnd t rows = none
  | [], _ => rfl
  | x :: rs, h => by
    unfold fnd
    rw [if_neg (h x List.mem_cons_self), fnd_none fun r hr => h r (List.mem_cons_of_mem _ hr)]; rfl
noncomputable def Uniq (rows : List Rw) : Prop := ∀ (i j : Nat) (a b : Rw), rows[i]? = some a → rows[j]? = some b → a.tag = b.tag → i = j
end MQ
namespace MQ
open PySem PySem.Spec PyProof.Rows L2
noncomputable def ltr (a b : Tag) : Prop := lat a.1 a.2 b.1 b.2 = true
theorem ltr_iff {a b : Tag} : ltr a b ↔ b.1 < a.1 ∨ (a.1 = b.1 ∧ b.2 < a.2) := by
  unfold ltr lat
  split
  · rename_i h; simp; omega
  · rename_i h; simp; omega
theorem ltr_irr {a : Tag} (h : ltr a a) : False := by rw [ltr_iff] at h; omega
theorem ltr_trans {a b c : Tag} (h : ltr a b) (k : ltr b c) : ltr a c := by rw [ltr_iff] at h k ⊢; omega
theorem ltr_asym {a b : Tag} (h : ltr a b) (k : ltr b a) : False := ltr_irr (ltr_trans h k)
theorem ltr_tot {a b : Tag} (h : a ≠ b) : ltr a b ∨ ltr b a := by
  rw [ltr_iff, ltr_iff]
  have : a.1 ≠ b.1 ∨ a.2 ≠ b.2 := by
    by_cases h1 : a.1 = b.1
    · exact .inr fun h2 => h (Prod.ext h1 h2)
    · exact .inl h1
  omega
inductive Wk : List Tag → List Rw → List Tag → Prop
  | nil {st : List Tag} : Wk st [] st
  | cons {st pre post st' : List Tag} {r : Rw} {rs : List Rw} : st = pre ++ r.bhd :: post → (∀ y, pre.getLast? = some y → ltr y r.tag) → ltr r.tag r.bhd → Wk (r.tag :: r.bhd :: post) rs st' → Wk st (r :: rs) st'
noncomputable abbrev Srt (st : List Tag) : Prop := st.Pairwise ltr
theorem Srt.tail {pre post : List Tag} {t p : Tag} (h : Srt (pre ++ p :: post)) (k : ltr t p) : Srt (t :: p :: post) := by
  have h2 := (List.pairwise_append.mp h).2.1
  refine List.pairwise_cons.mpr ⟨fun x hx => ?_, h2⟩
  rcases List.mem_cons.mp hx with e | hx
  · rw [e]; exact k
  · exact ltr_trans k ((List.pairwise_cons.mp h2).1 x hx)
theorem Wk.app {st m st' : List Tag} {a b : List Rw} (h : Wk st a m) (k : Wk m b st') : Wk st (a ++ b) st' := by
  induction h with
  | nil => exact k
  | cons e1 e2 e3 _ ih => exact .cons e1 e2 e3 (ih k)
theorem Wk.split {b : List Rw} {st' : List Tag} : ∀ {a : List Rw} {st : List Tag}, Wk st (a ++ b) st' → ∃ m, Wk st a m ∧ Wk m b st'
  | [], st, h => ⟨st, .nil, h⟩
  | r :: a, st, h => by
    cases h with
    | cons e1 e2 e3 e4 =>
      obtain ⟨m, h1, h2⟩ := Wk.split e4
      exact ⟨m, .cons e1 e2 e3 h1, h2⟩
theorem Wk.top {r : Rw} : ∀ {a : List Rw} {st m : List Tag}, Wk st (a ++ [r]) m → ∃ post, m = r.tag :: post
  | [], st, m, h => by
    cases h with
    | cons e1 e2 e3 e4 => cases e4; exact ⟨_, rfl⟩
  | x :: a, st, m, h => by
    cases h with
    | cons e1 e2 e3 e4 => exact Wk.top e4
theorem Wk.srt {st m : List Tag} {a : List Rw} (h : Wk st a m) : Srt st → Srt m := by
  induction h with
  | nil => exact id
  | cons e1 e2 e3 _ ih => intro s; subst e1; exact ih (s.tail e3)
theorem last_app {pre a : List Tag} {b : Tag} : (pre ++ b :: a).getLast? = (b :: a).getLast? := by
  rw [List.getLast?_append]
  cases h : (b :: a).getLast? with
  | none => simp at h
  | some y => rfl
theorem Wk.put {t b : Tag} {post : List Tag} {n : Rw} (hb : ltr t b) (nt : n.tag = t) (nb : n.bhd = b) : ∀ {B : List Rw} {pre st' : List Tag}, Wk (pre ++ b :: post) B st' → Srt (pre ++ b :: post) → (∀ x ∈ pre, ltr x t) → (∀ r ∈ B, r.tag ≠ t) →
    ∃ st'', Wk (pre ++ b :: post) (B.take (past t B) ++ n :: B.drop (past t B)) st''
  | [], pre, st', _, _, hp, _ => ⟨_, .cons (pre := pre) (post := post) (by rw [nb]) (fun y hy => by rw [nt]; exact hp y (List.mem_of_getLast? hy)) (by rw [nt, nb]; exact hb) .nil⟩
  | r :: rs, pre, st', h, s, hp, hn => by
    cases h with
    | @cons _ pre1 post1 _ _ _ e1 e2 e3 e4 =>
      have s' : Srt (r.tag :: r.bhd :: post1) := Srt.tail (pre := pre1) (by rw [← e1]; exact s) e3
      have hn' : ∀ x ∈ rs, x.tag ≠ t := fun x hx => hn x (List.mem_cons_of_mem _ hx)
      have here : r.bhd = b ∧ post1 = post ∨ (∃ a, pre1 = pre ++ b :: a ∧ post = a ++ r.bhd :: post1) ∨ ∃ c, pre = pre1 ++ r.bhd :: c ∧ post1 = c ++ b :: post := by
        rcases List.append_eq_append_iff.mp e1 with ⟨a, h1, h2⟩ | ⟨c, h1, h2⟩
        · cases a with
          | nil => injection h2 with h3 h4; exact .inl ⟨h3.symm, h4.symm⟩
          | cons y a => injection h2 with h3 h4; subst h3; exact .inr (.inl ⟨a, h1, h4⟩)
        · cases c with
          | nil => injection h2 with h3 h4; exact .inl ⟨h3, h4⟩
          | cons y c => injection h2 with h3 h4; subst h3; exact .inr (.inr ⟨c, h1, h4⟩)
      unfold past
      by_cases hl : lat r.tc r.th t.1 t.2 = true
      · have hl' : ltr r.tag t := hl
        rw [if_pos hl]
        rcases here with ⟨h1, h2⟩ | ⟨a, h1, h2⟩ | ⟨c, h1, h2⟩
        · subst h2
          rw [h1] at e4 s' e1
          obtain ⟨q, hq⟩ := Wk.put (pre := [r.tag]) hb nt nb e4 s' (fun x hx => by rw [List.mem_singleton.mp hx]; exact hl') hn'
          exact ⟨q, .cons (pre := pre1) (post := post1) (by rw [h1]; exact e1) e2 e3 (by rw [h1]; exact hq)⟩
        · exfalso
          have hy : pre1.getLast? = some ((b :: a).getLast (by simp)) := by
            rw [h1, last_app]; exact List.getLast?_eq_some_getLast _
          have z := e2 _ hy
          have m := List.getLast_mem (l := b :: a) (by simp)
          have sb := (List.pairwise_append.mp s).2.1
          have lb : ltr r.tag b := ltr_trans hl' hb
          rcases List.mem_cons.mp m with e | hm
          · rw [e] at z; exact ltr_asym z lb
          · exact ltr_asym z (ltr_trans lb ((List.pairwise_cons.mp sb).1 _ (by rw [h2]; exact List.mem_append_left _ hm)))
        · subst h2
          have hp' : ∀ x ∈ r.tag :: r.bhd :: c, ltr x t := fun x hx => by
            rcases List.mem_cons.mp hx with e | hx
            · rw [e]; exact hl'
            · exact hp x (by rw [h1]; exact List.mem_append_right _ hx)
          obtain ⟨q, hq⟩ := Wk.put (pre := r.tag :: r.bhd :: c) hb nt nb e4 s' hp' hn'
          exact ⟨q, .cons (pre := pre1) (post := c ++ b :: post) e1 e2 e3 hq⟩
      · rw [if_neg hl]
        have hl' : ltr t r.tag := (ltr_tot (hn r List.mem_cons_self)).resolve_left hl
        refine ⟨st', .cons (pre := pre) (post := post) (by rw [nb]) (fun y hy => by rw [nt]; exact hp y (List.mem_of_getLast? hy)) (by rw [nt, nb]; exact hb) ?_⟩
        rw [nt, nb]
        show Wk (t :: b :: post) (r :: rs) st'
        rcases here with ⟨h1, h2⟩ | ⟨a, h1, h2⟩ | ⟨c, h1, h2⟩
        · exact .cons (pre := [t]) (post := post1) (by rw [h1, h2]; rfl) (fun y hy => by cases hy; exact hl') e3 e4
        · refine .cons (pre := t :: b :: a) (post := post1) (by rw [h2]; rfl) (fun y hy => e2 y ?_) e3 e4
          rw [h1, last_app]
          rw [List.getLast?_cons_cons] at hy
          exact hy
        · exact absurd (ltr_trans e3 (hp r.bhd (by rw [h1]; simp))) hl
theorem Wk.parents {st st' : List Tag} {rows : List Rw} (h : Wk st rows st') : ∀ r ∈ rows, r.bhd ∈ st ∨ ∃ q ∈ rows, q.tag = r.bhd := by
  induction h with
  | nil => intro r hr; cases hr
  | @cons st pre post st' x rs e1 e2 e3 _ ih =>
    intro r hr
    rcases List.mem_cons.mp hr with e | hr
    · rw [e, e1]; exact .inl (by simp)
    · rcases ih r hr with h1 | ⟨q, h1, h2⟩
      · rcases List.mem_cons.mp h1 with e | h1
        · exact .inr ⟨x, List.mem_cons_self, e.symm⟩
        · rw [e1]; exact .inl (List.mem_append_right _ h1)
      · exact .inr ⟨q, List.mem_cons_of_mem _ h1, h2⟩
theorem Srt.ne {a b : List Tag} {x : Tag} (h : Srt (a ++ x :: b)) : x ∉ b := fun hx => ltr_irr ((List.pairwise_cons.mp (List.pairwise_append.mp h).2.1).1 x hx)
theorem Wk.falls {e : Tag} : ∀ {rows : List Rw} {pre post st' : List Tag} {x : Tag}, Wk (pre ++ x :: e :: post) rows st' → Srt (pre ++ x :: e :: post) → (∀ r ∈ rows, r.tag ∉ pre ++ x :: e :: post) → (rows.map Rw.tag).Nodup → ∀ r ∈ rows, r.bhd = e → ltr x r.tag
  | [], _, _, _, _, _, _, _, _, r, hr, _ => by cases hr
  | y :: rs, pre, post, st', x, h, s, fr, nd, r, hr, he => by
    cases h with
    | @cons _ pre1 post1 _ _ _ e1 e2 e3 e4 =>
      rw [List.map_cons] at nd
      obtain ⟨nd1, nd2⟩ := List.nodup_cons.mp nd
      have s0 : Srt (pre1 ++ y.bhd :: post1) := by rw [← e1]; exact s
      have s' : Srt (y.tag :: y.bhd :: post1) := s0.tail e3
      have sub : ∀ z ∈ y.bhd :: post1, z ∈ pre ++ x :: e :: post := fun z hz => by rw [e1]; exact List.mem_append_right _ hz
      have fr' : ∀ q ∈ rs, q.tag ∉ y.tag :: y.bhd :: post1 := fun q hq z => by
        rcases List.mem_cons.mp z with z | z
        · exact nd1 (by rw [← z]; exact List.mem_map_of_mem hq)
        · exact fr q (List.mem_cons_of_mem _ hq) (sub _ z)
      have eq2 : (pre ++ [x]) ++ e :: post = pre1 ++ y.bhd :: post1 := by rw [← e1]; simp
      have here : y.bhd = e ∧ post1 = post ∧ pre1 = pre ++ [x] ∨ (∃ a, pre1 = pre ++ [x] ++ e :: a ∧ post = a ++ y.bhd :: post1) ∨ ∃ c, y.bhd :: post1 = c ++ x :: e :: post := by
        rcases List.append_eq_append_iff.mp eq2 with ⟨a, h1, h2⟩ | ⟨c, h1, h2⟩
        · cases a with
          | nil => injection h2 with h3 h4; exact .inl ⟨h3.symm, h4.symm, by simpa using h1⟩
          | cons z a => injection h2 with h3 h4; subst h3; exact .inr (.inl ⟨a, h1, h4⟩)
        · rcases List.eq_nil_or_concat c with e0 | ⟨c0, z, e0⟩
          · rw [e0] at h1 h2; injection h2 with h3 h4; exact .inl ⟨h3, h4, by simpa using h1.symm⟩
          · rw [e0, List.concat_eq_append] at h1 h2
            rw [← List.append_assoc] at h1
            obtain ⟨h3, h4⟩ := List.append_inj' h1 rfl
            injection h4 with h4
            subst h4
            exact .inr (.inr ⟨c0, by rw [h2]; simp⟩)
      rcases here with ⟨h1, h2, h3⟩ | ⟨a, h1, h2⟩ | ⟨c, h1⟩
      · have z : ltr x y.tag := e2 x (by rw [h3]; simp)
        rcases List.mem_cons.mp hr with e0 | hr
        · rw [e0]; exact z
        · rw [h1, h2] at e4 s' fr'
          exact ltr_trans z (Wk.falls (pre := []) e4 s' fr' nd2 r hr he)
      · exfalso
        have nin : e ∉ y.bhd :: post1 := fun z => by
          have s2 : Srt ((pre ++ [x]) ++ e :: post) := by simpa using s
          exact s2.ne (by rw [h2]; exact List.mem_append_right _ z)
        rcases List.mem_cons.mp hr with e0 | hr
        · rw [← e0, he] at nin; exact nin List.mem_cons_self
        · rcases e4.parents r hr with z | ⟨q, hq, z⟩
          · rw [he] at z
            rcases List.mem_cons.mp z with z | z
            · exact fr y List.mem_cons_self (by rw [← z]; simp)
            · exact nin z
          · exact fr q (List.mem_cons_of_mem _ hq) (by rw [z, he]; simp)
      · rcases List.mem_cons.mp hr with e0 | hr
        · exfalso
          have s2 : Srt (pre1 ++ y.bhd :: post1) := s0
          cases c with
          | nil =>
            injection h1 with h3 h4
            rw [e0, h3] at he
            have s3 : Srt (pre ++ x :: e :: post) := s
            exact s3.ne (by rw [he]; simp)
          | cons z c =>
            injection h1 with h3 h4
            rw [e0] at he
            exact s2.ne (by rw [h4, he]; simp)
        · rw [h1] at e4 s' fr'
          exact Wk.falls (pre := y.tag :: c) e4 s' fr' nd2 r hr he
theorem Wk.same : ∀ {a b : List Rw} {st m m' : List Tag}, Wk st a m → Wk st b m' → Srt st → a.Perm b → (∀ r ∈ a, r.tag ∉ st) → (a.map Rw.tag).Nodup → a = b
  | [], b, _, _, _, _, _, _, p, _, _ => (List.Perm.nil_eq p)
  | x :: a, [], _, _, _, _, _, _, p, _, _ => by have := p.length_eq; simp at this
  | x :: a, y :: b, st, m, m', h, k, s, p, fr, nd => by
    by_cases e : x = y
    · subst e
      cases h with
      | @cons _ pre1 post1 _ _ _ e1 e2 e3 e4 =>
        cases k with
        | @cons _ pre2 post2 _ _ _ f1 f2 f3 f4 =>
          have s1 : Srt (pre1 ++ x.bhd :: post1) := by rw [← e1]; exact s
          have ep : post1 = post2 := by
            have q : pre1 ++ x.bhd :: post1 = pre2 ++ x.bhd :: post2 := by rw [← e1, f1]
            have s2 : Srt (pre2 ++ x.bhd :: post2) := by rw [← q]; exact s1
            rcases List.append_eq_append_iff.mp q with ⟨c, h1, h2⟩ | ⟨c, h1, h2⟩
            · cases c with
              | nil => injection h2
              | cons z c => injection h2 with h3 h4; exact absurd (show x.bhd ∈ post1 by rw [h4]; simp) s1.ne
            · cases c with
              | nil => injection h2 with h3 h4; exact h4.symm
              | cons z c => injection h2 with h3 h4; exact absurd (show x.bhd ∈ post2 by rw [h4]; simp) s2.ne
          subst ep
          rw [List.map_cons] at nd
          obtain ⟨nd1, nd2⟩ := List.nodup_cons.mp nd
          have fr' : ∀ q ∈ a, q.tag ∉ x.tag :: x.bhd :: post1 := fun q hq z => by
            rcases List.mem_cons.mp z with z | z
            · exact nd1 (by rw [← z]; exact List.mem_map_of_mem hq)
            · exact fr q (List.mem_cons_of_mem _ hq) (by rw [e1]; exact List.mem_append_right _ z)
          rw [Wk.same e4 f4 (s1.tail e3) (List.Perm.cons_inv p) fr' nd2]
    · exfalso
      have ya : y ∈ a := by
        have := p.mem_iff.mpr (List.mem_cons_self (a := y) (l := b))
        rcases List.mem_cons.mp this with z | z
        · exact absurd z.symm e
        · exact z
      have xb : x ∈ b := by
        have := p.mem_iff.mp (List.mem_cons_self (a := x) (l := a))
        rcases List.mem_cons.mp this with z | z
        · exact absurd z e
        · exact z
      have nd' : ((y :: b).map Rw.tag).Nodup := (p.map Rw.tag).nodup_iff.mp nd
      have frb : ∀ r ∈ y :: b, r.tag ∉ st := fun r hr => fr r (p.mem_iff.mpr hr)
      have key : ∀ {u v : Rw} {c : List Rw} {q : List Tag}, Wk st (u :: c) q → v ∈ c → v.bhd ∈ st → (∀ r ∈ u :: c, r.tag ∉ st) → ((u :: c).map Rw.tag).Nodup → ∃ pre post, st = pre ++ u.bhd :: post ∧ (v.bhd = u.bhd ∨ v.bhd ∈ post) ∧ (v.bhd = u.bhd → ltr u.tag v.tag) := by
        intro u v c q hw hv hvs hfr hnd
        cases hw with
        | @cons _ pre1 post1 _ _ _ e1 e2 e3 e4 =>
          rw [List.map_cons] at hnd
          obtain ⟨nd1, nd2⟩ := List.nodup_cons.mp hnd
          have s1 : Srt (pre1 ++ u.bhd :: post1) := by rw [← e1]; exact s
          have fr' : ∀ q ∈ c, q.tag ∉ u.tag :: u.bhd :: post1 := fun q hq z => by
            rcases List.mem_cons.mp z with z | z
            · exact nd1 (by rw [← z]; exact List.mem_map_of_mem hq)
            · exact hfr q (List.mem_cons_of_mem _ hq) (by rw [e1]; exact List.mem_append_right _ z)
          refine ⟨pre1, post1, e1, ?_, fun z => Wk.falls (pre := []) e4 (s1.tail e3) fr' nd2 v hv z⟩
          rcases e4.parents v hv with z | ⟨w, hw, z⟩
          · rcases List.mem_cons.mp z with z | z
            · exact absurd (by rw [← z]; exact hvs) (hfr u List.mem_cons_self)
            · exact List.mem_cons.mp z
          · exact absurd (by rw [z]; exact hvs) (hfr w (List.mem_cons_of_mem _ hw))
      have xs : x.bhd ∈ st := by cases h with | cons e1 _ _ _ => rw [e1]; simp
      have ys : y.bhd ∈ st := by cases k with | cons e1 _ _ _ => rw [e1]; simp
      obtain ⟨p1, q1, g1, g2, g3⟩ := key h ya ys fr nd
      obtain ⟨p2, q2, l1, l2, l3⟩ := key k xb xs frb nd'
      have sa : Srt (p1 ++ x.bhd :: q1) := by rw [← g1]; exact s
      have sb : Srt (p2 ++ y.bhd :: q2) := by rw [← l1]; exact s
      rcases g2 with g2 | g2
      · exact ltr_asym (g3 g2) (l3 g2.symm)
      · rcases l2 with l2 | l2
        · exact ltr_asym (g3 l2.symm) (l3 l2)
        · have u1 := (List.pairwise_cons.mp (List.pairwise_append.mp sa).2.1).1 _ g2
          have u2 := (List.pairwise_cons.mp (List.pairwise_append.mp sb).2.1).1 _ l2
          exact ltr_asym u1 u2
structure Gd (rows : List Rw) : Prop where
  wk : ∃ st, Wk [(0, 0)] rows st
  nd : (rows.map Rw.tag).Nodup
  nz : ∀ r ∈ rows, r.tag ≠ (0, 0)
theorem Gd.nil : Gd [] := ⟨⟨_, .nil⟩, List.nodup_nil, fun _ h => by cases h⟩
theorem Gd.uniq {rows : List Rw} (g : Gd rows) : Uniq rows := fun i j a b ha hb e => by
  have h1 : (rows.map Rw.tag)[i]? = some a.tag := by rw [List.getElem?_map, ha]; rfl
  have h2 : (rows.map Rw.tag)[j]? = some b.tag := by rw [List.getElem?_map, hb]; rfl
  exact (List.getElem?_inj (List.getElem?_eq_some_iff.mp h1).1 g.nd).mp (by rw [h1, h2, e])
theorem srt0 : Srt [(0, 0)] := List.pairwise_singleton _ _
theorem Gd.same {a b : List Rw} (ga : Gd a) (gb : Gd b) (p : a.Perm b) : a = b := by
  obtain ⟨m, h⟩ := ga.wk
  obtain ⟨m', k⟩ := gb.wk
  exact Wk.same h k srt0 p (fun r hr z => ga.nz r hr (List.mem_singleton.mp z)) ga.nd
theorem Gd.ndr {rows : List Rw} (g : Gd rows) : rows.Nodup := by
  have h := g.nd
  rw [List.nodup_iff_pairwise_ne, List.pairwise_map] at h
  exact List.nodup_iff_pairwise_ne.mpr (h.imp fun z e => z (by rw [e]))
theorem Wk.like {st m : List Tag} {a : List Rw} (h : Wk st a m) : ∀ {b : List Rw}, a.map (fun r => (r.tag, r.bhd)) = b.map (fun r => (r.tag, r.bhd)) → Wk st b m := by
  induction h with
  | nil => intro b e; cases b with
    | nil => exact .nil
    | cons => cases e
  | @cons st pre post st' r rs e1 e2 e3 _ ih =>
    intro b e
    cases b with
    | nil => cases e
    | cons x b =>
      rw [List.map_cons, List.map_cons] at e
      injection e with h1 h2
      have t : r.tag = x.tag := congrArg Prod.fst h1
      have p : r.bhd = x.bhd := congrArg Prod.snd h1
      rw [t, p] at e3
      rw [t] at e2
      rw [p] at e1
      refine .cons e1 e2 e3 ?_
      rw [← t, ← p]
      exact ih h2
theorem Gd.like {a b : List Rw} (g : Gd a) (e : a.map (fun r => (r.tag, r.bhd)) = b.map (fun r => (r.tag, r.bhd))) : Gd b := by
  have et : a.map Rw.tag = b.map Rw.tag := by
    have z := congrArg (List.map Prod.fst) e
    simpa [List.map_map, Function.comp_def] using z
  refine ⟨g.wk.imp fun _ h => h.like e, by rw [← et]; exact g.nd, fun r hr z => ?_⟩
  have h1 : r.tag ∈ a.map Rw.tag := by rw [et]; exact List.mem_map_of_mem hr
  obtain ⟨q, h2, h3⟩ := List.mem_map.mp h1
  exact g.nz q h2 (h3.trans z)
theorem Wk.at {rows : List Rw} {st' : List Tag} {b : Tag} {s : Nat} (h : Wk [(0, 0)] rows st') (hb : bix rows b = some s) : ∃ post, Wk [(0, 0)] (rows.take s) (b :: post) ∧ Wk (b :: post) (rows.drop s) st' := by
  unfold bix at hb
  split at hb
  · rename_i e
    cases hb
    subst e
    exact ⟨[], .nil, h⟩
  · cases f : fnd b rows with
    | none => rw [f] at hb; cases hb
    | some i =>
      rw [f] at hb
      cases hb
      obtain ⟨r, hr, ht⟩ := fnd_at f
      have hi := (List.getElem?_eq_some_iff.mp hr).1
      have er : rows[i] = r := (List.getElem?_eq_some_iff.mp hr).2
      rw [← List.take_append_drop (i + 1) rows] at h
      obtain ⟨m, h1, h2⟩ := Wk.split h
      have e : rows.take (i + 1) = rows.take i ++ [r] := by rw [List.take_succ_eq_append_getElem hi, er]
      rw [e] at h1
      obtain ⟨post, hm⟩ := Wk.top h1
      rw [ht] at hm
      subst hm
      exact ⟨post, by rw [e]; exact h1, h2⟩
theorem Gd.put {rows : List Rw} (g : Gd rows) {t b : Tag} {s : Nat} {n : Rw} (f : fnd t rows = none) (hb : bix rows b = some s) (hl : ltr t b) (nz : t ≠ (0, 0)) (nt : n.tag = t) (nb : n.bhd = b) :
    Gd (rows.take (s + past t (rows.drop s)) ++ n :: rows.drop (s + past t (rows.drop s))) := by
  have fr := fnd_no f
  obtain ⟨st, hw⟩ := g.wk
  obtain ⟨post, h1, h2⟩ := hw.at hb
  obtain ⟨st2, h3⟩ := Wk.put (pre := []) hl nt nb h2 (h1.srt srt0) (fun x hx => by cases hx) fun r hr => fr r (List.mem_of_mem_drop hr)
  have e1 : rows.take (s + past t (rows.drop s)) = rows.take s ++ (rows.drop s).take (past t (rows.drop s)) := by rw [List.take_add]
  have e2 : rows.drop (s + past t (rows.drop s)) = (rows.drop s).drop (past t (rows.drop s)) := by rw [List.drop_drop]
  have hp : (rows.take (s + past t (rows.drop s)) ++ n :: rows.drop (s + past t (rows.drop s))).Perm (n :: rows) := by
    have z := List.perm_middle (a := n) (l₁ := rows.take (s + past t (rows.drop s))) (l₂ := rows.drop (s + past t (rows.drop s)))
    rw [List.take_append_drop] at z
    exact z
  refine ⟨⟨st2, ?_⟩, ?_, fun r hr => ?_⟩
  · rw [e1, e2, List.append_assoc]
    exact h1.app h3
  · refine (hp.map Rw.tag).nodup_iff.mpr ?_
    rw [List.map_cons]
    refine List.nodup_cons.mpr ⟨fun z => ?_, g.nd⟩
    obtain ⟨q, h4, h5⟩ := List.mem_map.mp z
    exact fr q h4 (h5.trans nt)
  · rcases List.mem_cons.mp (hp.mem_iff.mp hr) with e | hr
    · rw [e, nt]; exact nz
    · exact g.nz r hr
structure Fit (U : Slip → Prop) : Prop where
  put : ∀ t b x, U (.put t b x) → ltr t b ∧ t ≠ (0, 0) ∧ PyData.strOk x = true
  one : ∀ t b x b' x', U (.put t b x) → U (.put t b' x') → b = b' ∧ x = x'
noncomputable def okAt (done : List Slip) : Slip → Prop
  | .put _ b _ => b = (0, 0) ∨ ∃ b' x', Slip.put b b' x' ∈ done
  | .cut t => ∃ b x, Slip.put t b x ∈ done
structure Hrd (U : Slip → Prop) (rows : List Rw) (done : List Slip) : Prop where
  gd : Gd rows
  ok : okS rows
  len : rows.length ≤ done.length
  all : ∀ s ∈ done, U s
  put : ∀ r ∈ rows, Slip.put r.tag r.bhd r.sg ∈ done ∧ (r.out = true ↔ Slip.cut r.tag ∈ done)
  has : ∀ t b x, Slip.put t b x ∈ done → ∃ r ∈ rows, r.tag = t
  cut : ∀ t, Slip.cut t ∈ done → ∃ r ∈ rows, r.tag = t
theorem Hrd.nil {U : Slip → Prop} : Hrd U [] [] := ⟨.nil, fun _ h => (List.not_mem_nil h).elim, Nat.le_refl _, fun _ h => (List.not_mem_nil h).elim, fun _ h => (List.not_mem_nil h).elim, fun _ _ _ h => (List.not_mem_nil h).elim, fun _ h => (List.not_mem_nil h).elim⟩
theorem fnd_some {t : Tag} {rows : List Rw} {r : Rw} (hr : r ∈ rows) (e : r.tag = t) : ∃ i, fnd t rows = some i := by
  cases f : fnd t rows with
  | none => exact absurd e (fnd_no f r hr)
  | some i => exact ⟨i, rfl⟩
theorem Hrd.step {U : Slip → Prop} (F : Fit U) {rows : List Rw} {done : List Slip} (h : Hrd U rows done) {s : Slip} (us : U s) (oa : okAt done s) :
    ∃ rows', hrdF rows s = some rows' ∧ Hrd U rows' (done ++ [s]) := by
  cases s with
  | put t b x =>
    obtain ⟨hl, nz, okx⟩ := F.put t b x us
    cases f : fnd t rows with
    | some i =>
      obtain ⟨r, hr, ht⟩ := fnd_at f
      have mr := List.mem_of_getElem? hr
      obtain ⟨h1, h2⟩ := h.put r mr
      rw [ht] at h1
      obtain ⟨e1, e2⟩ := F.one t _ _ b x (h.all _ h1) us
      refine ⟨rows, ?_, h.gd, h.ok, by rw [List.length_append]; exact Nat.le_trans h.len (Nat.le_add_right _ _), fun s hs => ?_, fun q hq => ?_, fun t' b' x' hs => ?_, fun t' hs => ?_⟩
      · show MQ.putF rows t b x = some rows
        unfold MQ.putF
        rw [f]
        simp [hr, e1, e2]
      · rcases List.mem_append.mp hs with hs | hs
        · exact h.all s hs
        · rw [List.mem_singleton.mp hs]; exact us
      · obtain ⟨q1, q2⟩ := h.put q hq
        refine ⟨List.mem_append_left _ q1, q2.trans ⟨fun z => List.mem_append_left _ z, fun z => ?_⟩⟩
        rcases List.mem_append.mp z with z | z
        · exact z
        · cases List.mem_singleton.mp z
      · rcases List.mem_append.mp hs with hs | hs
        · exact h.has _ _ _ hs
        · cases List.mem_singleton.mp hs; exact ⟨r, mr, ht⟩
      · rcases List.mem_append.mp hs with hs | hs
        · exact h.cut _ hs
        · cases List.mem_singleton.mp hs
    | none =>
      obtain ⟨k, hk⟩ : ∃ k, bix rows b = some k := by
        unfold bix
        split
        · exact ⟨0, rfl⟩
        · rename_i nb
          rcases oa with z | ⟨b', x', z⟩
          · exact absurd z nb
          · obtain ⟨q, hq, hq2⟩ := h.has _ _ _ z
            obtain ⟨i, hi⟩ := fnd_some hq hq2
            exact ⟨i + 1, by rw [hi]; rfl⟩
      have g' := h.gd.put (n := ⟨t.1, t.2, b.1, b.2, x, false⟩) f hk hl nz rfl rfl
      have hp : (rows.take (k + past t (rows.drop k)) ++ (⟨t.1, t.2, b.1, b.2, x, false⟩ : Rw) :: rows.drop (k + past t (rows.drop k))).Perm (⟨t.1, t.2, b.1, b.2, x, false⟩ :: rows) := by
        have z := List.perm_middle (a := (⟨t.1, t.2, b.1, b.2, x, false⟩ : Rw)) (l₁ := rows.take (k + past t (rows.drop k))) (l₂ := rows.drop (k + past t (rows.drop k)))
        rw [List.take_append_drop] at z
        exact z
      refine ⟨_, ?_, g', fun r hr => ?_, ?_, fun s hs => ?_, fun q hq => ?_, fun t' b' x' hs => ?_, fun t' hs => ?_⟩
      · show MQ.putF rows t b x = _
        unfold MQ.putF
        rw [f, hk]
        dsimp only
        rw [if_pos (show lat t.1 t.2 b.1 b.2 = true from hl), List.append_assoc]
        rfl
      · rcases List.mem_cons.mp (hp.mem_iff.mp hr) with e | hr
        · rw [e]; exact okx
        · exact h.ok r hr
      · rw [hp.length_eq, List.length_append]; exact Nat.succ_le_succ h.len
      · rcases List.mem_append.mp hs with hs | hs
        · exact h.all s hs
        · rw [List.mem_singleton.mp hs]; exact us
      · rcases List.mem_cons.mp (hp.mem_iff.mp hq) with e | hq
        · rw [e]
          refine ⟨List.mem_append_right _ (List.mem_singleton.mpr rfl), ⟨fun z => Bool.noConfusion z, fun z => ?_⟩⟩
          rcases List.mem_append.mp z with z | z
          · obtain ⟨r, hr, ht⟩ := h.cut _ z
            exact absurd ht (fnd_no f r hr)
          · cases List.mem_singleton.mp z
        · obtain ⟨q1, q2⟩ := h.put q hq
          refine ⟨List.mem_append_left _ q1, q2.trans ⟨fun z => List.mem_append_left _ z, fun z => ?_⟩⟩
          rcases List.mem_append.mp z with z | z
          · exact z
          · cases List.mem_singleton.mp z
      · rcases List.mem_append.mp hs with hs | hs
        · obtain ⟨r, hr, ht⟩ := h.has _ _ _ hs
          exact ⟨r, hp.mem_iff.mpr (List.mem_cons_of_mem _ hr), ht⟩
        · cases List.mem_singleton.mp hs
          exact ⟨_, hp.mem_iff.mpr List.mem_cons_self, rfl⟩
      · rcases List.mem_append.mp hs with hs | hs
        · obtain ⟨r, hr, ht⟩ := h.cut _ hs
          exact ⟨r, hp.mem_iff.mpr (List.mem_cons_of_mem _ hr), ht⟩
        · cases List.mem_singleton.mp hs
  | cut t =>
    obtain ⟨b, x, z⟩ := oa
    obtain ⟨q, hq, hq2⟩ := h.has _ _ _ z
    obtain ⟨i, hi⟩ := fnd_some hq hq2
    obtain ⟨r, hr, ht⟩ := fnd_at hi
    have u := h.gd.uniq
    have il := (List.getElem?_eq_some_iff.mp hr).1
    have mr := List.mem_of_getElem? hr
    have like : rows.map (fun r => (r.tag, r.bhd)) = (rows.set i { r with out := true }).map (fun r => (r.tag, r.bhd)) := by
      rw [List.map_set]
      apply List.ext_getElem?
      intro j
      rw [List.getElem?_set]
      split
      · rename_i ej
        subst ej
        rw [if_pos (by rw [List.length_map]; exact il), List.getElem?_map, hr]; rfl
      · rfl
    have back : ∀ r' ∈ rows.set i { r with out := true }, (r' ∈ rows ∧ r'.tag ≠ t) ∨ r' = { r with out := true } := fun r' hr' => by
      obtain ⟨j, hj⟩ := List.mem_iff_getElem?.mp hr'
      rw [List.getElem?_set] at hj
      split at hj
      · rename_i ej
        exact .inr (Option.some.inj hj).symm
      · rename_i ej
        refine .inl ⟨List.mem_of_getElem? hj, fun e => ej ?_⟩
        exact u i j r r' hr hj (by rw [ht, e])
    have keep : ∀ t', (∃ r ∈ rows, r.tag = t') → ∃ r' ∈ rows.set i { r with out := true }, r'.tag = t' := fun t' ⟨r', h1, h2⟩ => by
      have et : rows.map Rw.tag = (rows.set i { r with out := true }).map Rw.tag := by
        have z := congrArg (List.map Prod.fst) like
        simpa [List.map_map, Function.comp_def] using z
      have m : t' ∈ rows.map Rw.tag := by rw [← h2]; exact List.mem_map_of_mem h1
      rw [et] at m
      exact List.mem_map.mp m
    refine ⟨rows.set i { r with out := true }, ?_, h.gd.like like, fun r' hr' => ?_, ?_, fun s hs => ?_, fun r' hr' => ?_, fun t' b' x' hs => ?_, fun t' hs => ?_⟩
    · show cutF rows t = _
      unfold cutF
      rw [hi]
      dsimp only
      rw [hr, List.set_eq_take_append_cons_drop, if_pos il]
      simp
    · rcases back r' hr' with ⟨h1, _⟩ | h1
      · exact h.ok r' h1
      · rw [h1]; exact h.ok r mr
    · rw [List.length_set, List.length_append]; exact Nat.le_trans h.len (Nat.le_add_right _ _)
    · rcases List.mem_append.mp hs with hs | hs
      · exact h.all s hs
      · rw [List.mem_singleton.mp hs]; exact us
    · rcases back r' hr' with ⟨h1, h2⟩ | h1
      · obtain ⟨q1, q2⟩ := h.put r' h1
        refine ⟨List.mem_append_left _ q1, q2.trans ⟨fun z => List.mem_append_left _ z, fun z => ?_⟩⟩
        rcases List.mem_append.mp z with z | z
        · exact z
        · have e := List.mem_singleton.mp z
          injection e with e
          exact absurd e h2
      · rw [h1]
        exact ⟨List.mem_append_left _ (h.put r mr).1, fun _ => List.mem_append_right _ (List.mem_singleton.mpr (by show Slip.cut r.tag = Slip.cut t; rw [ht])), fun _ => rfl⟩
    · rcases List.mem_append.mp hs with hs | hs
      · exact keep _ (h.has _ _ _ hs)
      · cases List.mem_singleton.mp hs
    · rcases List.mem_append.mp hs with hs | hs
      · exact keep _ (h.cut _ hs)
      · cases List.mem_singleton.mp hs; exact ⟨_, List.mem_iff_getElem?.mpr ⟨i, List.getElem?_set_self il⟩, ht⟩
noncomputable def Cz (done : List Slip) : List Slip → Prop
  | [] => True
  | s :: ss => okAt done s ∧ Cz (done ++ [s]) ss
theorem Hrd.same {U : Slip → Prop} (F : Fit U) {a b : List Rw} {da db : List Slip} (ha : Hrd U a da) (hb : Hrd U b db) (e : ∀ s, s ∈ da ↔ s ∈ db) : a = b := by
  have half : ∀ {a b : List Rw} {da db : List Slip}, Hrd U a da → Hrd U b db → (∀ s, s ∈ da ↔ s ∈ db) → ∀ r ∈ a, r ∈ b := fun {a b da db} ha hb e r hr => by
    obtain ⟨h1, h2⟩ := ha.put r hr
    have h1' := (e _).mp h1
    obtain ⟨q, hq, eq⟩ := hb.has _ _ _ h1'
    obtain ⟨k1, k2⟩ := hb.put q hq
    rw [eq] at k1 k2
    obtain ⟨f1, f2⟩ := F.one _ _ _ _ _ (hb.all _ h1') (hb.all _ k1)
    have eo : r.out = q.out := by
      have z := h2.trans ((e _).trans k2.symm)
      cases hr : r.out <;> cases hq : q.out <;> simp_all
    have er : r = q := by
      cases r; cases q
      simp [Rw.tag, Rw.bhd] at eq f1 f2 eo
      obtain ⟨e1, e2⟩ := eq
      obtain ⟨e3, e4⟩ := f1
      subst e1 e2 e3 e4 f2 eo; rfl
    rw [er]; exact hq
  exact ha.gd.same hb.gd ((List.perm_ext_iff_of_nodup ha.gd.ndr hb.gd.ndr).mpr fun r => ⟨half ha hb e r, half hb ha (fun s => (e s).symm) r⟩)
theorem Wk.stack {st m : List Tag} {rows : List Rw} (h : Wk st rows m) : ∀ x ∈ m, x ∈ st ∨ ∃ q ∈ rows, q.tag = x := by
  induction h with
  | nil => intro x hx; exact .inl hx
  | @cons st pre post st' r rs e1 e2 e3 _ ih =>
    intro x hx
    rcases ih x hx with z | ⟨q, h1, h2⟩
    · rcases List.mem_cons.mp z with z | z
      · exact .inr ⟨r, List.mem_cons_self, z.symm⟩
      · rw [e1]; exact .inl (List.mem_append_right _ z)
    · exact .inr ⟨q, List.mem_cons_of_mem _ h1, h2⟩
theorem okAt_mono {a b : List Slip} (h : ∀ s ∈ a, s ∈ b) {s : Slip} (k : okAt a s) : okAt b s := by
  cases s with
  | put t p x =>
    rcases k with e | ⟨b', x', k⟩
    · exact .inl e
    · exact .inr ⟨b', x', h _ k⟩
  | cut t => obtain ⟨p, x, k⟩ := k; exact ⟨p, x, h _ k⟩
theorem Cz.app : ∀ {a b d : List Slip}, Cz d (a ++ b) ↔ Cz d a ∧ Cz (d ++ a) b
  | [], b, d => by rw [List.nil_append, List.append_nil]; exact ⟨fun h => ⟨trivial, h⟩, fun h => h.2⟩
  | s :: a, b, d => by
    show okAt d s ∧ Cz (d ++ [s]) (a ++ b) ↔ (okAt d s ∧ Cz (d ++ [s]) a) ∧ Cz (d ++ s :: a) b
    rw [Cz.app, List.append_assoc, List.singleton_append, and_assoc]
end MQ
namespace MQ
open PySem PySem.Spec PyProof.Rows L2
noncomputable def cntD (ds : List Dv) (x : Dv) : Nat := ds.countP fun y => deq y x
theorem countP_dPs (ds : List Dv) (d : PyData) : (dPs ds).countP (fun y => PyData.eqv y d) = ds.countP fun y => PyData.eqv (dP y) d := by
  induction ds with
  | nil => rfl
  | cons a l ih => rw [dPs, List.countP_cons, List.countP_cons, ih]
section
variable {X : Cx}
noncomputable def rCnt (K : PySem.W.Frag) : V → List V → Hp → VK → Prop := fun x vs H Q => ∃ (ds : List Dv) (dx : Dv) (y : V), vs = [y] ∧ den K H (.lst ds) x ∧ den K H dx y ∧ pur (.lst ds) = true ∧ pur dx = true ∧ Q (.int (cntD ds dx : Nat)) H
theorem mt_count (hu : X.A.units + 128 < cLine) : MtR X "list.count" (rCnt X.K) := by
  intro pins s σ H x vs v us Q I rx rv ⟨ds, dx, y, e0, hd, hy, p1, p2, q⟩
  subst e0
  obtain ⟨u, rfl, ru⟩ := rv.one
  obtain ⟨n1, s1⟩ := pur_inv p1
  obtain ⟨n2, s2⟩ := pur_inv p2
  obtain ⟨as, r1⟩ := reads_of I _ _ _ n1 hd rx
  obtain ⟨bs, r2⟩ := reads_of I _ _ _ n2 hy ru
  obtain ⟨c1, c2⟩ := shaped_all (.inl rfl) s1
  have d2 := SeqAt.depth_of_shaped s2
  have hu2 : X.A.units + 1 + min (PyData.depthAll (dPs ds)) (dP dx).depth < cLine := by
    have := Nat.min_le_left (PyData.depthAll (dPs ds)) (dP dx).depth
    omega
  cases r1 with
  | @list a o its n xs as' h1 h2 h3 h4 =>
    obtain ⟨cl, dd, da, sl⟩ := o
    cases (show cl = .type "list" from h2)
    cases (show da = .seq its n from h3)
    refine call_meets F.slot_list_count ⟨_, h1, rfl⟩ F.entry_list_count (F.args_list_count_2 _ _) (SeqAt.list_countAt a its n dd sl u fun y => PyData.eqv (SeqAt.readOf s.heap y) (dP dx)) ⟨h1, SeqAt.items_eqAt h4 r2 c1 (SeqAt.canLay_of_shaped s2) hu2, ?_⟩
    have e : its.toList.countP (fun y => PyData.eqv (SeqAt.readOf s.heap y) (dP dx)) = cntD ds dx := by
      unfold cntD
      have z := SeqAt.readsAll_map (dPs ds) _ _ c1 h4
      have z2 : (dPs ds).countP (fun y => PyData.eqv y (dP dx)) = its.toList.countP (fun y => PyData.eqv (SeqAt.readOf s.heap y) (dP dx)) := by
        rw [← z, List.countP_map]; rfl
      rw [← z2, countP_dPs]; rfl
    rw [e]
    exact ⟨.int (cntD ds dx : Nat), H, I.tok _, ⟨_, rfl⟩, q⟩
end
noncomputable def isL (d : Dv) (k : List Dv → Prop) : Prop := match d with
  | .lst ds => k ds
  | _ => False
theorem isL_inv {d : Dv} {k : List Dv → Prop} (h : isL d k) : ∃ ds, d = .lst ds ∧ k ds := by
  unfold isL at h
  split at h
  · exact ⟨_, rfl, h⟩
  · exact h.elim
noncomputable def wCount (o : WE) (a : WA) : WE := fun ρ S Q => o ρ S fun d S1 => isL d fun ds => a ρ S1 fun l S2 => one l fun x => pur (.lst ds) = true ∧ pur x = true ∧ Q (.int (cntD ds x : Nat)) S2
section
variable {X : Cx} {o e : Expr} {wo : WE} {wa : WA} {apos cpos : Pos}
theorem de_count (hu : X.A.units + 128 < cLine) (ho : DE X o wo) (ha : DA X [e] wa) (hbase : attributeBase o "count" X.env (eval o X.env) = eval o X.env := by rfl)
    (hfew : ((backTo cpos (starEach [e] X.env)).all (fun x => !x.1) && (backToKw cpos (keywordEach [] X.env)).all (fun x => x.1.isSome)
      && decide ([e].length + ([] : List Keyword).length + (if ([] : List Keyword).isEmpty then 0 else 1) < 30)) = true := by rfl)
    (hline : (apos.endLine == cpos.line) = true := by rfl) (hs : starEach [e] X.env = (false, eval e X.env) :: starEach [] X.env := by rfl) (hplain : (backTo cpos (starEach [] X.env)).any (·.1) = false := by rfl) :
    DE X (.Call (.Attribute o "count" apos) [e] [] cpos) (wCount wo wa) :=
  PE.weak (pe_bm PySem.F.plainAttrs_list PySem.F.slot_list_count PySem.F.type_list_count (mt_count hu) ho ha hbase hfew hline hs hplain) fun σ H Q ⟨ρ, S, Q', env, st, hw, post⟩ => ⟨ρ, S, _, env, st, hw, fun d S1 v H1 q1 e1 st1 hd => by
    obtain ⟨ds, rfl, q1⟩ := isL_inv q1
    obtain ⟨a, vs, rfl, hq, hv⟩ := roL_ok (d := .lst ds) hd rfl
    refine ⟨.inl ⟨rfl, vs, hq.sq⟩, ρ, S1, _, env.ext e1, st1, q1, fun l S2 us H2 q2 e2 st2 hl => ?_⟩
    obtain ⟨x, rfl, p1, p2, q⟩ := one_inv q2
    obtain ⟨u, rfl, hx⟩ := dens1 hl
    exact ⟨ds, x, u, rfl, den_ext e2 _ _ hd, hx, p1, p2, post _ S2 _ H2 q (e1.trans e2) st2 rfl⟩⟩
end
noncomputable def isLK (d : Dv) (k : List Dv → Prop) (_ : Kp k := ⟨⟩) (_ : True := trivial) : Prop := isL d k
@[simp] theorem isL_lst {ds : List Dv} {k : List Dv → Prop} : isLK (.lst ds) k = k ds := id rfl
@[simp ↓] theorem wCount_eq {o : WE} {a : WA} {ρ : Ev} {S : Sto} {Q : QE} : wCount o a ρ S Q = o ρ S (fun d S1 => isLK d fun ds => a ρ S1 fun l S2 => oneK l fun x => pur (.lst ds) = true ∧ pur x = true ∧ Q (.int (cntD ds x : Nat)) S2) := id rfl
noncomputable def spLawX : Ds := fun ds S Q => ∃ ns : List Int, ds = [.scr ns] ∧ ns.length ≤ 63 ∧ ∀ S', Q (.bl true) S'
theorem spLawX_len (ds : List Dv) (S : Sto) (Q : QE) (h : spLawX ds S Q) : ds.length = 1 := by obtain ⟨ns, rfl, _⟩ := h; rfl
theorem law_startX {K : PySem.W.Frag} {H : Hp} {a : Addr} {ns : List Int} (hl : ns.length ≤ 63) (hO : Only H) (hS : SqL K H a (ns.map V.int)) : lSp K spLawX [.ref a] H (fun v _ => v = .bl true) fun _ _ _ => False := by
  have hR : SqR K H a (ns.map V.int) := by
    rcases hS with (h | ⟨o, h⟩) | h
    · rcases hO a with z | ⟨ob, xs, z⟩
      · rw [h] at z; cases z
      · rw [h] at z; cases z
    · exact .inl ⟨o, h⟩
    · exact .inr h
  exact ⟨[.scr ns], fun _ => none, fun d _ => d = .bl true, dens_cons ⟨a, rfl, hR⟩ dens_nil, (fun b o e => by cases e), ⟨ns, rfl, hl, fun _ => rfl⟩, fun d S' v H' e _ _ hd => by
    subst e; exact hd⟩
noncomputable def st2 (S0 : Sto) (p p2 : Addr) (m t : List Dv) : Sto := sset (sset S0 p (.lst m)) p2 (.lst t)
section
variable {S0 : Sto} {p p2 : Addr} {m t m' t' : List Dv} {k : Addr → List Dv → Prop} {i : Int} {d : Dv}
end
end MQ
namespace MQ
open PySem PySem.Spec PyProof.Rows L2
noncomputable def sgn (x : Str) (i : Nat) : Option V := x.cps[i]?.map fun c => .str ⟨#[c]⟩
noncomputable def Its (x : Str) : It := ⟨fun i _ => i < x.cps.size, fun i H v H' => H' = H ∧ sgn x i = some v, fun i _ => x.cps.size ≤ i⟩
theorem turn_ascii {P : Program} {w : World} {K : PySem.W.Frag} {tg : Expr} (it : Addr) (x : Str) (t : Tok) : Turn P w K tg (Its x) [it] it (fun i h => h.IsStrIter it "str_ascii_iterator" x t i) where
  mem := by simp
  obj := fun i h st b hb => by
    have e : b = it := by simpa using hb
    subst e
    obtain ⟨o, e, c, d⟩ := st
    exact ⟨o, e, fun v z => by rw [d] at z; cases z⟩
  keep := fun i h h' st k => by
    obtain ⟨o, e, r⟩ := st
    exact ⟨o, k it (by simp) o e, r⟩
  item := by
    intro X hP hw hK hc i pins s σ H E I hf st hg
    subst hP hw hK
    obtain ⟨f0, f1, f2, f3, f4, f5⟩ := hf it (by simp)
    have hg' : i < x.cps.size := hg
    have hx : x.cps[i]? = some x.cps[i] := by simp [hg']
    refine wpAny_pyNext_ascii_item st hx fun h' st' sb => ?_
    have I1 : Inv X pins σ H { s with heap := h', toks := s.toks + 1 } := I.turned (t' := s.toks + 1) (fun b o hb e => (sb.2 b hb).trans e) f0 f1 f3 f4 f5
    obtain ⟨o, e, c, d⟩ := id st'
    exact ⟨_, rfl, go_of (s := { s with heap := h', toks := s.toks + 1 }) e c d (by decide) ⟨.str ⟨#[x.cps[i]]⟩, H, I1, ⟨_, rfl⟩, ⟨rfl, by unfold sgn; rw [hx]; rfl⟩, st', fun b hb => (hf b hb).1⟩⟩
  done := by
    intro X hP hw hK hc i pins s σ H E I hf st hg
    subst hP hw hK
    obtain ⟨f0, f1, f2, f3, f4, f5⟩ := hf it (by simp)
    have hg' : x.cps.size ≤ i := hg
    exact wpAny_pyNext_ascii_end (I.ok.hd hc) st (by simp [hg']) fun h' eb => ⟨rfl, I.turned (t' := s.toks) (fun b o hb e => eb b o hb e) f0 f1 f3 f4 f5⟩
  self := fun _ _ _ _ _ st h => wpAny_pyIter_striter_ascii st h
theorem turn_wide {P : Program} {w : World} {K : PySem.W.Frag} {tg : Expr} (it : Addr) (x : Str) (t : Tok) : Turn P w K tg (Its x) [it] it (fun i h => h.IsStrIter it "str_iterator" x t i) where
  mem := by simp
  obj := fun i h st b hb => by
    have e : b = it := by simpa using hb
    subst e
    obtain ⟨o, e, c, d⟩ := st
    exact ⟨o, e, fun v z => by rw [d] at z; cases z⟩
  keep := fun i h h' st k => by
    obtain ⟨o, e, r⟩ := st
    exact ⟨o, k it (by simp) o e, r⟩
  item := by
    intro X hP hw hK hc i pins s σ H E I hf st hg
    subst hP hw hK
    obtain ⟨f0, f1, f2, f3, f4, f5⟩ := hf it (by simp)
    have hg' : i < x.cps.size := hg
    have hx : x.cps[i]? = some x.cps[i] := by simp [hg']
    refine wpAny_pyNext_wide_item st hx fun h' st' sb => ?_
    have I1 : Inv X pins σ H { s with heap := h', toks := s.toks + 1 } := I.turned (t' := s.toks + 1) (fun b o hb e => (sb.2 b hb).trans e) f0 f1 f3 f4 f5
    obtain ⟨o, e, c, d⟩ := id st'
    exact ⟨_, rfl, go_of (s := { s with heap := h', toks := s.toks + 1 }) e c d (by decide) ⟨.str ⟨#[x.cps[i]]⟩, H, I1, ⟨_, rfl⟩, ⟨rfl, by unfold sgn; rw [hx]; rfl⟩, st', fun b hb => (hf b hb).1⟩⟩
  done := by
    intro X hP hw hK hc i pins s σ H E I hf st hg
    subst hP hw hK
    obtain ⟨f0, f1, f2, f3, f4, f5⟩ := hf it (by simp)
    have hg' : x.cps.size ≤ i := hg
    exact wpAny_pyNext_wide_end (I.ok.hd hc) st (by simp [hg']) fun h' eb => ⟨rfl, I.turned (t' := s.toks) (fun b o hb e => eb b o hb e) f0 f1 f3 f4 f5⟩
  self := fun _ _ _ _ _ st h => wpAny_pyIter_striter_wide st h
section
variable {X : Cx} {tg l : Expr} {tl : TE}
noncomputable def iStr (tl : TE) : TI := fun σ H R => tl σ H fun v H1 => ∃ x, v = .str x ∧ R (Its x) H1
theorem pi_str (hl : PE X l tl) : PI X tg l (iStr tl) := by
  intro pins s σ H R I h
  refine thn (hl pins s σ H _ I h) fun v s1 ⟨y, H1, I1, r1, q1⟩ => ?_
  obtain ⟨x, e, q⟩ := q1
  subst e
  obtain ⟨t, rfl⟩ := r1
  have fp : ∀ b ∈ [s1.heap.objs.size], FpOk X pins H1 b := fun b hb => by
    have e : b = s1.heap.objs.size := by simpa using hb
    subst e
    exact I1.fpOk (Nat.le_refl _) (I1.hok.fresh (Nat.le_refl _))
  cases ha : x.cps.all (· < 128)
  · exact wpAny_pyIter_wide ha ⟨s1.heap.objs.size, [s1.heap.objs.size], _, _, H1, rfl, I1.kept (t' := s1.toks) fun b o e => Heap.get?_push_of_some _ e, turn_wide _ x t, ⟨_, Heap.get?_push_size _ rfl, rfl, rfl⟩, fp, q⟩
  · exact wpAny_pyIter_ascii ha ⟨s1.heap.objs.size, [s1.heap.objs.size], _, _, H1, rfl, I1.kept (t' := s1.toks) fun b o e => Heap.get?_push_of_some _ e, turn_ascii _ x t, ⟨_, Heap.get?_push_size _ rfl, rfl, rfl⟩, fp, q⟩
end
theorem for_str {x : Str} {g : TG} {tb : TS} {D : Ends} {σ : L2.St} {H : Hp} (Pv : Nat → L2.St → Hp → Prop) (h0 : Pv 0 σ H)
    (hs : ∀ i v σ H, sgn x i = some v → Pv i σ H → g v σ H fun σ2 H2 => tb { D with nx := Pv (i + 1), ct := Pv (i + 1), bk := D.nx } σ2 H2) (hd : ∀ σ H, Pv x.cps.size σ H → D.nx σ H) :
    ∃ W : Nat → Nat → L2.St → Hp → Prop, (∃ m, W 0 m σ H) ∧ ∀ i m σ H, W i m σ H →
      ((Its x).stop i H ∧ D.nx σ H) ∨ ((Its x).go i H ∧ ∃ N : L2.St → Hp → Prop, (∀ σ' H', N σ' H' → ∃ m', m' < m ∧ W (i + 1) m' σ' H') ∧ ∀ v H', (Its x).yld i H v H' → g v σ H' fun σ2 H2 => tb { D with nx := N, ct := N, bk := D.nx } σ2 H2) := by
  refine ⟨fun i m σ H => m = x.cps.size - i ∧ i ≤ x.cps.size ∧ Pv i σ H, ⟨x.cps.size, by simp, Nat.zero_le _, h0⟩, ?_⟩
  rintro i m σ H ⟨rfl, hi, p⟩
  by_cases hlt : i < x.cps.size
  · refine .inr ⟨hlt, Pv (i + 1), fun σ' H' p' => ⟨x.cps.size - (i + 1), by omega, rfl, hlt, p'⟩, fun v H' y => ?_⟩
    obtain ⟨e, y⟩ := y
    subst e
    exact hs i v σ _ y p
  · have e : i = x.cps.size := by omega
    subst e
    exact .inl ⟨Nat.le_refl _, hd σ H p⟩
noncomputable def sgs (x : Str) : List Dv := x.cps.toList.map fun c => .str ⟨#[c]⟩
noncomputable def isS (d : Dv) (k : Str → Prop) : Prop := match d with
  | .str x => k x
  | _ => False
theorem isS_inv {d : Dv} {k : Str → Prop} (h : isS d k) : ∃ x, d = .str x ∧ k x := by
  unfold isS at h
  split at h
  · exact ⟨_, rfl, h⟩
  · exact h.elim
noncomputable def wForS (i : Nat) (src : WE) (b : WS) : WS := fun D ρ S => src ρ S fun d S1 => isS d fun x => forL i b D (sgs x) ρ S1
theorem ds_forS {X : Cx} {i : Nat} {x : Str} {iter : Expr} {body : List Stmt} {src : WE} {tb : WS} {pos px : Pos} (hp : PassesOwn (model X.prog X.w) X.A X.env X.xe) (hN : X.N.Nodup) (hi : DE X iter src) (hb : DSs X body tb) (hc : X.calm = true := by rfl)
    (hix : X.N[i]? = some x := by rfl) (hx : Loc X.env.scope x := by first | exact Or.inl rfl | exact Or.inr rfl) (hf : X.fn x = true ∨ X.env.scope.names.lookup x = some .local := by first | exact .inl rfl | exact .inr rfl | assumption)
    (hs : ∀ x, foldedSetIterable iter X.env x = pure x := by intro _; rfl) : DS X (.For (.Name x px) iter body [] pos) (wForS i src tb) :=
  PS.weak (ps_for hp hc (pi_str hi) (pg_name hN hix hx hf) hb hs) fun D σ H ⟨ρ, S, D', env, st, hw, dn⟩ => ⟨ρ, S, _, env, st, hw, fun d S1 v H1 q e st1 hd => by
    obtain ⟨z, rfl, q⟩ := isS_inv q
    cases (show v = .str z from hd)
    refine ⟨z, rfl, ?_⟩
    refine for_str (x := z) (fun j σ2 H2 => LoopAt X.K H1 (forL i tb D' ((sgs z).drop j)) σ2 H2) ⟨ρ, S1, env.ext e, st1, Ext.refl _, q⟩ ?_ ?_
    · rintro j v σ2 H2 hv ⟨ρ2, S2, env2, st2, e2, q2⟩
      unfold sgn at hv
      cases hc : z.cps[j]? with
      | none => rw [hc] at hv; cases hv
      | some c =>
        rw [hc] at hv
        cases hv
        have hy : (sgs z)[j]? = some (.str ⟨#[c]⟩) := by unfold sgs; rw [List.getElem?_map, Array.getElem?_toList, hc]; rfl
        rw [drop_cons' hy] at q2
        refine ⟨ρ2.set i (some (.str ⟨#[c]⟩)), S2, _, env2.set (d := .str ⟨#[c]⟩) (v := .str ⟨#[c]⟩) rfl, st2, q2, ⟨?_, ?_, ?_, ?_⟩⟩
        · exact fun ρ3 S3 σ3 H3 q3 e3 env3 st3 => ⟨ρ3, S3, env3, st3, e2.trans e3, q3⟩
        · exact fun d S3 v H3 q3 e3 st3 hd => dn.rt d S3 v H3 q3 ((e.trans e2).trans e3) st3 hd
        · exact fun ρ3 S3 σ3 H3 q3 e3 env3 st3 => dn.nx ρ3 S3 σ3 H3 q3 ((e.trans e2).trans e3) env3 st3
        · exact fun ρ3 S3 σ3 H3 q3 e3 env3 st3 => ⟨ρ3, S3, env3, st3, e2.trans e3, q3⟩
    · rintro σ2 H2 ⟨ρ2, S2, env2, st2, e2, q2⟩
      rw [List.drop_eq_nil_of_le (by unfold sgs; simp)] at q2
      exact dn.nx ρ2 S2 σ2 H2 q2 (e.trans e2) env2 st2⟩
section
variable {X : Cx}
noncomputable def glue (sep : Str) (ts : List Str) : Str := Builtin.Str.glued sep ts
theorem fold_len (g : Array Nat) : ∀ (ps : List Str) (a : Array Nat), (ps.foldl (fun acc p => acc ++ g ++ p.cps) a).size = a.size + (ps.map (·.length)).sum + ps.length * g.size
  | [], a => by simp
  | p :: ps, a => by
    rw [List.foldl_cons, fold_len g ps, Array.size_append, Array.size_append, List.map_cons, List.sum_cons, List.length_cons, Nat.succ_mul]
    have : p.cps.size = p.length := rfl
    omega
theorem glue_len (sep : Str) : ∀ ts : List Str, (glue sep ts).length ≤ (ts.map (·.length)).sum + ts.length * sep.length
  | [] => Nat.zero_le _
  | t :: ts => by
    show (ts.foldl (fun acc p => acc ++ sep.cps ++ p.cps) t.cps).size ≤ _
    rw [fold_len, List.map_cons, List.sum_cons, List.length_cons, Nat.succ_mul]
    have e1 : t.cps.size = t.length := rfl
    have e2 : sep.cps.size = sep.length := rfl
    rw [e1, e2]
    omega
theorem vals_strs : ∀ {ts : List Str} {us : List Value}, Vals (ts.map V.str) us → ∃ l : List (Str × Tok), strValues l = us ∧ l.map (·.1) = ts
  | [], us, h => by cases h; exact ⟨[], rfl, rfl⟩
  | t :: ts, us, h => by
    cases h with
    | cons h1 h2 =>
      obtain ⟨tk, rfl⟩ := h1
      obtain ⟨l, rfl, e⟩ := vals_strs h2
      exact ⟨(t, tk) :: l, rfl, by rw [List.map_cons, e]⟩
noncomputable def rJoin : V → List V → Hp → VK → Prop := fun x vs H Q => ∃ (sep : Str) (a : Addr) (o : Obj) (ts : List Str), x = .str sep ∧ vs = [.ref a] ∧ H a = some (.frz o (.lst (ts.map V.str))) ∧ (ts.map (·.length)).sum + ts.length * sep.length ≤ 1000000 ∧ Q (.str (glue sep ts)) H
theorem mt_join : MtR X "str.join" rJoin := by
  intro pins s σ H x vs v us Q I rx rv ⟨sep, a, o, ts, e1, e2, hH, hz, q⟩
  subst e1 e2
  obtain ⟨t, rfl⟩ := rx
  obtain ⟨u, rfl, ru⟩ := rv.one
  cases ru
  obtain ⟨its, rv2, p, _⟩ := I.list (.inl (.inr ⟨o, hH⟩))
  obtain ⟨l, rfl, el⟩ := vals_strs rv2
  have hl : Builtin.Str.tooLong ((l.map (·.1)).toArray.foldl (· + ·.length + sep.length) 0) = false := by
    rw [StrLaws.joinTotal, el]
    exact decide_eq_false (by show ¬ sizeLine < _; have : 1000000 ≤ sizeLine := by decide
                              omega)
  refine call_meets F.slot_str_join (typeIs_str _ _ _) F.entry_str_join (F.args_str_join_2 _ _) (meets_str_join_list sep t a l hl) ⟨p.isList, ?_⟩
  have hlen : (glue sep ts).length ≤ sizeLine := Nat.le_trans (glue_len sep ts) (Nat.le_trans hz (by decide))
  have made : (Made.str (glue sep ts)).post (fun v s' => wants (EP X pins σ Q) X.xe (.ok (.ret v)) s') s := ⟨hlen, ⟨.str (glue sep ts), H, I.tok _, ⟨_, rfl⟩, q⟩⟩
  subst el
  cases l with
  | nil => exact made
  | cons p0 l =>
    cases l with
    | nil => exact ⟨.str (glue sep [p0.1]), H, I, ⟨p0.2, rfl⟩, q⟩
    | cons p1 l => exact made
end
theorem dens_strs {K : PySem.W.Frag} {H : Hp} : ∀ {ts : List Str} {vs : List V}, dens K H (ts.map .str) vs → vs = ts.map V.str
  | [], vs, h => h
  | t :: ts, vs, h => by
    obtain ⟨v, r, rfl, h2, h3⟩ := (show ∃ v r, vs = v :: r ∧ den K H (.str t) v ∧ dens K H (ts.map .str) r from h)
    cases (show v = .str t from h2)
    rw [dens_strs h3]; rfl
noncomputable def wJoin (o : WE) (a : WA) : WE := fun ρ S Q => o ρ S fun d S1 => isS d fun sep => a ρ S1 fun l S2 => one l fun x => isL x fun ds => ∃ ts, ds = ts.map .str ∧ (ts.map (·.length)).sum + ts.length * sep.length ≤ 1000000 ∧ Q (.str (glue sep ts)) S2
section
variable {X : Cx} {o e : Expr} {wo : WE} {wa : WA} {apos cpos : Pos}
theorem de_join (ho : DE X o wo) (ha : DA X [e] wa) (hbase : attributeBase o "join" X.env (eval o X.env) = eval o X.env := by rfl)
    (hfew : ((backTo cpos (starEach [e] X.env)).all (fun x => !x.1) && (backToKw cpos (keywordEach [] X.env)).all (fun x => x.1.isSome)
      && decide ([e].length + ([] : List Keyword).length + (if ([] : List Keyword).isEmpty then 0 else 1) < 30)) = true := by rfl)
    (hline : (apos.endLine == cpos.line) = true := by rfl) (hs : starEach [e] X.env = (false, eval e X.env) :: starEach [] X.env := by rfl) (hplain : (backTo cpos (starEach [] X.env)).any (·.1) = false := by rfl) :
    DE X (.Call (.Attribute o "join" apos) [e] [] cpos) (wJoin wo wa) :=
  PE.weak (pe_bm PySem.F.plainAttrs_str PySem.F.slot_str_join PySem.F.type_str_join mt_join ho ha hbase hfew hline hs hplain) fun σ H Q ⟨ρ, S, Q', env, st, hw, post⟩ => ⟨ρ, S, _, env, st, hw, fun d S1 v H1 q1 e1 st1 hd => by
    obtain ⟨sep, rfl, q1⟩ := isS_inv q1
    cases (show v = .str sep from hd)
    refine ⟨rfl, ρ, S1, _, env.ext e1, st1, q1, fun l S2 us H2 q2 e2 st2 hl => ?_⟩
    obtain ⟨x, rfl, q2⟩ := one_inv q2
    obtain ⟨ds, rfl, ts, rfl, hz, q⟩ := isL_inv q2
    obtain ⟨u, rfl, hx⟩ := dens1 hl
    obtain ⟨a, ob, vs, rfl, h1, h2⟩ := (show ∃ a o vs, u = .ref a ∧ H2 a = some (.frz o (.lst vs)) ∧ dens X.K H2 (ts.map .str) vs from hx)
    rw [dens_strs h2] at h1
    exact ⟨sep, a, ob, ts, rfl, rfl, h1, hz, post _ S2 _ H2 q (e1.trans e2) st2 rfl⟩⟩
end
noncomputable def isSK (d : Dv) (k : Str → Prop) (_ : Kp k := ⟨⟩) (_ : True := trivial) : Prop := isS d k
@[simp] theorem isS_str {x : Str} {k : Str → Prop} : isSK (.str x) k = k x := id rfl
@[simp ↓] theorem wForS_eq {i : Nat} {src : WE} {b : WS} {D : Dn} {ρ : Ev} {S : Sto} : wForS i src b D ρ S = src ρ S (fun d S1 => isSK d fun x => forL i b D (sgs x) ρ S1) := id rfl
@[simp ↓] theorem wJoin_eq {o : WE} {a : WA} {ρ : Ev} {S : Sto} {Q : QE} : wJoin o a ρ S Q = o ρ S (fun d S1 => isSK d fun sep => a ρ S1 fun l S2 => oneK l fun x => isLK x fun ds => ∃ ts, ds = ts.map .str ∧ (ts.map (·.length)).sum + ts.length * sep.length ≤ 1000000 ∧ Q (.str (glue sep ts)) S2) := id rfl
end MQ
namespace MQ
open PySem PySem.Spec PyProof.Rows L2
section
variable {X : Cx}
noncomputable def cutS (x : Str) (lo hi : Option Int) : Str := ⟨((x.cps.toList.drop (HT.sIx x.length 0 lo)).take (HT.sIx x.length x.length hi - HT.sIx x.length 0 lo)).toArray⟩
theorem part_of {v : Value} {o : Option Int} (p : IsPart v o) : ∃ l : Option (Int × Tok), v = partValue l ∧ o = l.map (·.1) := by
  cases p with
  | none => exact ⟨none, rfl, rfl⟩
  | int i t => exact ⟨some (i, t), rfl, rfl⟩
theorem picked_eq (lo hi : Option Int) (n : Nat) : Builtin.Str.strSliceIndices lo hi 1 n = (List.range (HT.sIx n n hi - HT.sIx n 0 lo)).map (HT.sIx n 0 lo + ·) := by
  have c1 : ∀ (v : Int) (d : Nat), max 0 (min (if v < 0 then v + (n : Int) else v) (n : Int)) = ((HT.sIx n d (some v) : Nat) : Int) := fun v d => by
    show _ = (((if v < 0 then (v + (n : Int)).toNat else min v.toNat n) : Nat) : Int)
    by_cases hv : v < 0
    · simp only [if_pos hv]; omega
    · simp only [if_neg hv]; omega
  have h1 : (1 : Int) > 0 := by decide
  rw [← sliceRange_one]
  unfold Builtin.Str.strSliceIndices
  cases lo <;> cases hi <;> simp only [h1, if_true, c1 _ 0, c1 _ n] <;> rfl
noncomputable def rSlS : V → Option Int → Option Int → Hp → VK → Prop := fun x lo hi H Q => ∃ z : Str, x = .str z ∧ z.length ≤ sizeLine ∧ Q (.str (cutS z lo hi)) H
theorem sl_str : SlR X rSlS := by
  intro pins s σ H x v vl vu lo hi sl Q I rx hs pl pu ⟨z, ex, hz, q⟩
  subst ex
  obtain ⟨t, rfl⟩ := rx
  obtain ⟨l, rfl, rfl⟩ := part_of pl
  obtain ⟨u, rfl, rfl⟩ := part_of pu
  refine ⟨"str", _, F.slot_str_getitem.lookup, typeIs_str _ _ _, wpAny_getItem_str_slice (l := l) (u := u) (st := none) hs rfl ?_⟩
  have ep : slicePicked z l u none = (List.range (HT.sIx z.length z.length (u.map (·.1)) - HT.sIx z.length 0 (l.map (·.1)))).map (HT.sIx z.length 0 (l.map (·.1)) + ·) := picked_eq _ _ _
  have el : (slicePicked z l u none).length = HT.sIx z.length z.length (u.map (·.1)) - HT.sIx z.length 0 (l.map (·.1)) := by rw [ep]; simp
  have ek : (⟨((slicePicked z l u none).filterMap (z.cps[·]?)).toArray⟩ : Str) = cutS z (l.map (·.1)) (u.map (·.1)) := by
    rw [ep, pick_run]; rfl
  have hle := HT.sIx_le z.length z.length (Nat.le_refl _) (u.map (·.1))
  unfold sliceMade
  split
  · rename_i hc
    have hn : (slicePicked z l u none).length = z.length := by simpa using hc
    have hcz : cutS z (l.map (·.1)) (u.map (·.1)) = z := by
      unfold cutS
      have h0 : z.length ≤ HT.sIx z.length z.length (u.map (·.1)) - HT.sIx z.length 0 (l.map (·.1)) := by rw [← el, hn]; exact Nat.le_refl _
      have hzl : z.cps.toList.length = z.length := by simp [Str.length]
      by_cases h00 : z.length = 0
      · have e0 : z.cps.toList = [] := List.length_eq_zero_iff.mp (by rw [hzl]; exact h00)
        have e1 : z.cps = #[] := by simpa using e0
        rw [e1]; obtain ⟨c⟩ := z; simp at e1 ⊢; exact e1
      · have h1 : HT.sIx z.length 0 (l.map (·.1)) = 0 := by omega
        rw [h1, List.drop_zero, List.take_of_length_le (by rw [hzl]; omega)]
    rw [hcz] at q
    exact ⟨.str z, H, I, ⟨t, rfl⟩, q⟩
  · rw [ek]
    refine ⟨?_, ⟨.str _, H, I.tok _, ⟨_, rfl⟩, q⟩⟩
    refine Nat.le_trans ?_ hz
    show (((z.cps.toList.drop _).take _).toArray).size ≤ z.cps.size
    rw [List.size_toArray, List.length_take, List.length_drop, Array.length_toList]
    omega
noncomputable def wSlS (e : WE) (lo hi : Option WE) : WE := fun ρ S Q => e ρ S fun d S1 => wPart lo ρ S1 fun l S2 => wPart hi ρ S2 fun h S3 => isS d fun z => z.length ≤ lim ∧ Q (.str (cutS z l h)) S3
theorem de_sliceS {e : Expr} {lo hi : Option Expr} {we : WE} {wl wh : Option WE} {pos p2 : Pos} (he : DE X e we) (hl : PO X lo (lO X.K (wPart wl))) (hh : PO X hi (lO X.K (wPart wh))) : DE X (.Subscript e (.Slice lo hi none p2) pos) (wSlS we wl wh) :=
  PE.weak (pe_slice sl_str he hl hh) fun σ H Q ⟨ρ, S, Q', env, st, hw, post⟩ => ⟨ρ, S, _, env, st, hw, fun d S1 v H1 q1 e1 st1 hd =>
    ⟨ρ, S1, _, env.ext e1, st1, q1, fun l S2 H2 q2 e2 st2 => ⟨ρ, S2, _, env.ext (e1.trans e2), st2, q2, fun h S3 H3 q3 e3 st3 => by
      cases d with
      | str z =>
        cases (rD_str hd)
        exact ⟨z, rfl, lim_le q3.1, post _ S3 _ H3 q3.2 (e1.trans (e2.trans e3)) st3 rfl⟩
      | _ => exact (show False from q3).elim⟩⟩⟩
end
theorem de_call0 {X : Cx} {k : Nat} {ps : List Str} {sp : Ds} {x : Str} {p pos : Pos} (G : Has X.prog X.w X.K X.mg X.base k x ps sp) (hr : Room k X.A) (hg : Gl X x := by rfl) (hdb : (x == ("__debug__" : Str)) = false := by decide) :
    DE X (.Call (.Name x p) [] [] pos) (wCall sp wNil) := by
  obtain ⟨f, fd, F, hm, hk, hb⟩ := G.ex
  exact PE.weak (pe_call0 F hr hg hm hk hb .nil pass0 hdb) fun σ H Q ⟨ρ, S, Q', env, st, hw, post⟩ => ⟨[], S, Q', dens_nil, st, hw, fun d S2 v H2 q2 e2 st2 hd => post d S2 v H2 q2 e2 st2 hd⟩
@[simp ↓] theorem wSlS_eq {e : WE} {lo hi : Option WE} {ρ : Ev} {S : Sto} {Q : QE} : wSlS e lo hi ρ S Q = e ρ S (fun d S1 => wPart lo ρ S1 fun l S2 => wPart hi ρ S2 fun h S3 => isSK d fun z => z.length ≤ lim ∧ Q (.str (cutS z l h)) S3) := id rfl
end MQ
namespace MQ
open PySem PySem.Spec PyProof.Rows L2
noncomputable def tx (a : Str) (ts : List Str) : Str := ts.foldl (· ++ ·) a
noncomputable def there (rows : List Rw) : List Rw := rows.filter fun r => !r.out
noncomputable def one1 (rows : List Rw) : Prop := ∀ r ∈ rows, r.sg.length = 1
noncomputable def chs (z : Str) : List Str := z.cps.toList.map fun c => ⟨#[c]⟩
noncomputable def marks : Str := " !\"#$&'()*+,-./0123456789:;<=>?@ABCDEFGHIJKLMNOPQRSTUVWXYZ" ++ "[\\]^_`abcdefghijklmnopqrstuvwxyz{|}~"
theorem marks_len : marks.length = 94 := by decide +kernel
theorem marks_ok : PyData.strOk marks = true := by decide +kernel
noncomputable def most (rows : List Rw) : Int := match rows with
  | [] => 0
  | r :: rs => big r.tc (rs.map (·.tc))
noncomputable def ahead (rows : List Rw) (p : Nat) : Tag := ((((0, 0) : Tag) :: ((there rows).map Rw.tag).take p).getLast?).getD (0, 0)
noncomputable def putsOf (c n : Int) (b : Tag) : List Str → List Slip
  | [] => []
  | x :: xs => .put (c, n) b x :: putsOf (c + 1) n (c, n) xs
noncomputable def sp_law_marks : Ds := fun ds S Q => ds = [] ∧ Q (.str marks) S
theorem ln_law_marks : ∀ ds S Q, sp_law_marks ds S Q → ds.length = 0 := by rintro _ S Q ⟨rfl, _⟩; rfl
noncomputable def sp_standing : Ds := fun ds S Q => ∃ rows : List Rw, ds = [.lst (rows.map rowD)] ∧ Q (.lst ((there rows).map fun r => tagD r.tag)) S
theorem ln_standing : ∀ ds S Q, sp_standing ds S Q → ds.length = 1 := by rintro _ S Q ⟨_, rfl, _⟩; rfl
noncomputable def sp_just_ahead : Ds := fun ds S Q => ∃ (rows : List Rw) (p : Nat), ds = [.lst (rows.map rowD), .int p] ∧ rows.length ≤ 1000 ∧ Q (tagD (ahead rows p)) S
theorem ln_just_ahead : ∀ ds S Q, sp_just_ahead ds S Q → ds.length = 2 := by rintro _ S Q ⟨_, _, rfl, _⟩; rfl
noncomputable def sp_fresh : Ds := fun ds S Q => ∃ (rows : List Rw) (n : Int), ds = [.lst (rows.map rowD), .int n] ∧ Q (.tup [.int (most rows + 1), .int n]) S
theorem ln_fresh : ∀ ds S Q, sp_fresh ds S Q → ds.length = 2 := by rintro _ S Q ⟨i, n, rfl, _⟩; rfl
noncomputable def sp_written : Ds := fun ds S Q => ∃ (rows : List Rw) (n : Int) (p : Nat) (z : Str), ds = [.lst (rows.map rowD), .int n, .int p, .str z] ∧ rows.length ≤ 1000 ∧ z.length ≤ 1000 ∧ Q (.lst ((putsOf (most rows + 1) n (ahead rows p) (chs z)).map slipD)) S
theorem ln_written : ∀ ds S Q, sp_written ds S Q → ds.length = 4 := by rintro _ S Q ⟨_, _, _, _, rfl, _⟩; rfl
noncomputable def w_law_marks : WS :=
  (wSeq (wSet 0 (wC (.str " !\"#$&'()*+,-./0123456789:;<=>?@ABCDEFGHIJKLMNOPQRSTUVWXYZ")))
  (wRet (wOp oAdd (wVar 0) (wC (.str "[\\]^_`abcdefghijklmnopqrstuvwxyz{|}~")))))
theorem w_law_marks_e {D : Dn} {ρ : Ev} {S : Sto} : w_law_marks D ρ S =
  (wSeq (wSet 0 (wC (.str " !\"#$&'()*+,-./0123456789:;<=>?@ABCDEFGHIJKLMNOPQRSTUVWXYZ")))
  (wRet (wOp oAdd (wVar 0) (wC (.str "[\\]^_`abcdefghijklmnopqrstuvwxyz{|}~"))))) D ρ S := id rfl
noncomputable def w_standing : WS :=
  (wRet (wCompIf (wVar 0) (wNot (wTest (wOp oIx (wVar 0) (wC (.int 3))))) (wOp oIx (wVar 0) (wC (.int 0)))))
theorem w_standing_e {D : Dn} {ρ : Ev} {S : Sto} : w_standing D ρ S =
  (wRet (wCompIf (wVar 0) (wNot (wTest (wOp oIx (wVar 0) (wC (.int 3))))) (wOp oIx (wVar 0) (wC (.int 0))))) D ρ S := id rfl
noncomputable def w_just_ahead : WS :=
  (wRet (wOp oIx (wOp oAdd (wLst (wCons (wC c_BEGINNING) wNil)) (wSl (wCall sp_standing (wCons (wVar 0) wNil)) none (some (wVar 1)))) (wC (.int (-1)))))
theorem w_just_ahead_e {D : Dn} {ρ : Ev} {S : Sto} : w_just_ahead D ρ S =
  (wRet (wOp oIx (wOp oAdd (wLst (wCons (wC c_BEGINNING) wNil)) (wSl (wCall sp_standing (wCons (wVar 0) wNil)) none (some (wVar 1)))) (wC (.int (-1))))) D ρ S := id rfl
noncomputable def w_fresh : WS :=
  (wSeq (wSet 2 (wMaxD (wCons (wComp (wVar 0) (wOp oIx (wOp oIx (wVar 0) (wC (.int 0))) (wC (.int 0)))) wNil) (wC (.int 0))))
  (wRet (wTup (wCons (wOp oAdd (wVar 2) (wC (.int 1))) (wCons (wVar 1) wNil)))))
noncomputable def wb_written_0 : WS :=
  (wSeq (wDrop (wApp (wVar 4) (wCons (wTup (wCons (wC (.str "put")) (wCons (wVar 6) (wCons (wVar 5) (wCons (wVar 7) wNil))))) wNil)))
  (wSeq (wSet 5 (wVar 6))
  (wSet 6 (wTup (wCons (wOp oAdd (wOp oIx (wVar 6) (wC (.int 0))) (wC (.int 1))) (wCons (wVar 1) wNil))))))
theorem wb_written_0_e {D : Dn} {ρ : Ev} {S : Sto} : wb_written_0 D ρ S =
  (wSeq (wDrop (wApp (wVar 4) (wCons (wTup (wCons (wC (.str "put")) (wCons (wVar 6) (wCons (wVar 5) (wCons (wVar 7) wNil))))) wNil)))
  (wSeq (wSet 5 (wVar 6))
  (wSet 6 (wTup (wCons (wOp oAdd (wOp oIx (wVar 6) (wC (.int 0))) (wC (.int 1))) (wCons (wVar 1) wNil)))))) D ρ S := id rfl
noncomputable def w_written : WS :=
  (wSeq (wSet 4 (wLstM wNil))
  (wSeq (wSet 5 (wCall sp_just_ahead (wCons (wVar 0) (wCons (wVar 2) wNil))))
  (wSeq (wSet 6 (wCall sp_fresh (wCons (wVar 0) (wCons (wVar 1) wNil))))
  (wSeq (wThen 4 (wForS 7 (wVar 3)
  wb_written_0))
  (wRet (wVar 4))))))
theorem w_written_e {D : Dn} {ρ : Ev} {S : Sto} : w_written D ρ S =
  (wSeq (wSet 4 (wLstM wNil))
  (wSeq (wSet 5 (wCall sp_just_ahead (wCons (wVar 0) (wCons (wVar 2) wNil))))
  (wSeq (wSet 6 (wCall sp_fresh (wCons (wVar 0) (wCons (wVar 1) wNil))))
  (wSeq (wThen 4 (wForS 7 (wVar 3)
  wb_written_0))
  (wRet (wVar 4)))))) D ρ S := id rfl
theorem str_eta (x : Str) : (⟨x.cps⟩ : Str) = x := by cases x; rfl
theorem empty_cps : ("" : Str).cps = #[] := by decide +kernel
theorem app_cps (a b : Str) : (a ++ b).cps = a.cps ++ b.cps := rfl
theorem len_app (a b : Str) : (a ++ b).length = a.length + b.length := Array.size_append ..
theorem empty_app (a : Str) : "" ++ a = a := by
  show (⟨("" : Str).cps ++ a.cps⟩ : Str) = a
  rw [empty_cps, Array.empty_append]
theorem empty_len : ("" : Str).length = 0 := by show ("" : Str).cps.size = 0; rw [empty_cps]; rfl
theorem tx_len : ∀ (ts : List Str) (a : Str), (tx a ts).length = a.length + (ts.map (·.length)).sum
  | [], a => by simp [tx]
  | t :: ts, a => by
    show (tx (a ++ t) ts).length = _
    rw [tx_len ts, len_app, List.map_cons, List.sum_cons]; omega
theorem sum_ones : ∀ {rows : List Rw}, one1 rows → ((rows.map Rw.sg).map (·.length)).sum = rows.length
  | [], _ => rfl
  | r :: rs, h => by
    rw [List.map_cons, List.map_cons, List.sum_cons, h r List.mem_cons_self, sum_ones fun q hq => h q (List.mem_cons_of_mem _ hq), List.length_cons]; omega
theorem glue_tx (ts : List Str) : glue "" ts = tx "" ts := by
  have fold : ∀ (ps : List Str) (a : Str), (⟨ps.foldl (fun acc p => acc ++ ("" : Str).cps ++ p.cps) a.cps⟩ : Str) = tx a ps := by
    intro ps
    induction ps with
    | nil => intro a; exact str_eta a
    | cons p ps ih =>
      intro a
      have z := ih (a ++ p)
      rw [List.foldl_cons, empty_cps, Array.append_empty]
      rw [app_cps, empty_cps] at z
      exact z
  cases ts with
  | nil => show (⟨Str.empty.cps⟩ : Str) = ""; exact by decide +kernel
  | cons t ts =>
    show (⟨ts.foldl (fun acc p => acc ++ ("" : Str).cps ++ p.cps) t.cps⟩ : Str) = tx ("" ++ t) ts
    rw [fold, empty_app]
theorem ok_app {a b : Str} (ha : PyData.strOk a = true) (hb : PyData.strOk b = true) : PyData.strOk (a ++ b) = true := by
  have h1 : a.cps.all (· < 0x110000) = true := ha
  have h2 : b.cps.all (· < 0x110000) = true := hb
  show (a.cps ++ b.cps).all (· < 0x110000) = true
  rw [Array.all_append, h1, h2]; rfl
theorem ok_tx : ∀ {ts : List Str} {a : Str}, PyData.strOk a = true → (∀ t ∈ ts, PyData.strOk t = true) → PyData.strOk (tx a ts) = true
  | [], a, ha, _ => ha
  | t :: ts, a, ha, h => ok_tx (ts := ts) (ok_app ha (h t List.mem_cons_self)) fun q hq => h q (List.mem_cons_of_mem _ hq)
theorem ok_empty : PyData.strOk ("" : Str) = true := by decide +kernel
theorem there_len (rows : List Rw) : (there rows).length ≤ rows.length := List.length_filter_le ..
theorem there_sub {rows : List Rw} {r : Rw} (h : r ∈ there rows) : r ∈ rows := (List.mem_filter.mp h).1
theorem big_cmp {S : Sto} {Q : List Dv → Sto → Prop} : ∀ (rows : List Rw) (acc : List Dv), Q (acc ++ rows.map fun r => Dv.int r.tc) S → cmpL wYes (wOp oIx (wOp oIx (wVar 0) (wC (.int 0))) (wC (.int 0))) (rows.map rowD) S acc Q
  | [], acc, q => by simpa [cmpL] using q
  | r :: rs, acc, q => by
    simp [cmpL, rowD]
    exact big_cmp rs (acc ++ [.int r.tc]) (by simpa using q)
theorem ints_map (l : List Int) : ints? (l.map Dv.int) = some l := by
  induction l with
  | nil => rfl
  | cons a l ih => simp [ints?, ih]
theorem ok_fresh : ∀ ds S Q, sp_fresh ds S Q → w_fresh { nx := fun _ S' => Q .non S', rt := Q } (ent 3 ds) S := by
  rintro _ S Q ⟨rows, n, rfl, q⟩
  simp [w_fresh, ent]
  refine big_cmp rows [] ?_
  have e : (rows.map fun r => Dv.int r.tc) = (rows.map (·.tc)).map Dv.int := by simp
  rw [List.nil_append, e]
  simp only [rdL_lst, goL_some, ints_map]
  cases rows with
  | nil =>
    have q' : Q (.tup [.int (0 + 1), .int n]) S := q
    unfold goMK goM
    simp at q' ⊢
    exact q'
  | cons r rs =>
    have q' : Q (.tup [.int (big r.tc (rs.map (·.tc)) + 1), .int n]) S := q
    unfold goMK goM
    simp at q' ⊢
    exact q'
@[simp] theorem call_law_marks {S : Sto} {Q : QE} : sp_law_marks [] S Q = Q (.str marks) S := by simp [sp_law_marks]
theorem ok_law_marks : ∀ ds S Q, sp_law_marks ds S Q → w_law_marks { nx := fun _ S' => Q .non S', rt := Q } (ent 1 ds) S := by
  rintro _ S Q ⟨rfl, q⟩
  have e : ∀ S : Sto, oAdd S (.str " !\"#$&'()*+,-./0123456789:;<=>?@ABCDEFGHIJKLMNOPQRSTUVWXYZ") (.str "[\\]^_`abcdefghijklmnopqrstuvwxyz{|}~") = some (.str marks) := fun S => by
    show (if (" !\"#$&'()*+,-./0123456789:;<=>?@ABCDEFGHIJKLMNOPQRSTUVWXYZ" : Str).length + ("[\\]^_`abcdefghijklmnopqrstuvwxyz{|}~" : Str).length ≤ lim then some (Dv.str (" !\"#$&'()*+,-./0123456789:;<=>?@ABCDEFGHIJKLMNOPQRSTUVWXYZ" ++ "[\\]^_`abcdefghijklmnopqrstuvwxyz{|}~")) else none) = _
    exact if_pos (by decide +kernel)
  simp [w_law_marks_e, ent, e]
  exact q
theorem stand_cmp {S : Sto} {Q : List Dv → Sto → Prop} : ∀ (rows : List Rw) (acc : List Dv), Q (acc ++ (there rows).map fun r => tagD r.tag) S → cmpL (wNot (wTest (wOp oIx (wVar 0) (wC (.int 3))))) (wOp oIx (wVar 0) (wC (.int 0))) (rows.map rowD) S acc Q
  | [], acc, q => by simpa [cmpL, there] using q
  | r :: rs, acc, q => by
    cases ho : r.out with
    | true =>
      have e : there (r :: rs) = there rs := by unfold there; rw [List.filter_cons, ho]; rfl
      rw [e] at q
      have z := stand_cmp (S := S) (Q := Q) rs acc q
      simp [cmpL, rowD_e, ho]
      exact z
    | false =>
      have e : there (r :: rs) = r :: there rs := by unfold there; rw [List.filter_cons, ho]; rfl
      rw [e] at q
      have z := stand_cmp (S := S) (Q := Q) rs (acc ++ [tagD r.tag]) (by simpa using q)
      simp [cmpL, rowD_e, ho]
      exact z
theorem ok_standing : ∀ ds S Q, sp_standing ds S Q → w_standing { nx := fun _ S' => Q .non S', rt := Q } (ent 1 ds) S := by
  rintro _ S Q ⟨rows, rfl, q⟩
  simp [w_standing_e, ent]
  exact stand_cmp rows [] q
@[simp] theorem call_standing {rows : List Rw} {S : Sto} {Q : QE} : sp_standing [.lst (rows.map rowD)] S Q = Q (.lst ((there rows).map fun r => tagD r.tag)) S :=
  propext ⟨fun ⟨r, e, q⟩ => by
    simp only [List.cons.injEq, Dv.lst.injEq, and_true] at e
    rw [rows_inj e]; exact q, fun q => ⟨rows, rfl, q⟩⟩
theorem cut_takeG {α : Type} {f : α → Dv} {l : List α} {p : Nat} : cutD (l.map f) none (some (p : Int)) = (l.take p).map f := by
  unfold cutD
  rw [HT.sIx_nat, HT.sIx_none, List.drop_zero, Nat.sub_zero, List.length_map, ← List.map_take]
  rcases Nat.le_total p l.length with h | h
  · rw [Nat.min_eq_left h]
  · rw [Nat.min_eq_right h, List.take_of_length_le (Nat.le_refl _), List.take_of_length_le h]
theorem ahead_last (rows : List Rw) (p : Nat) : (((0, 0) : Tag) :: ((there rows).map Rw.tag).take p).getLast? = some (ahead rows p) := by
  unfold ahead
  cases h : (((0, 0) : Tag) :: ((there rows).map Rw.tag).take p).getLast? with
  | none => simp at h
  | some x => rfl
theorem ok_just_ahead : ∀ ds S Q, sp_just_ahead ds S Q → w_just_ahead { nx := fun _ S' => Q .non S', rt := Q } (ent 2 ds) S := by
  rintro _ S Q ⟨rows, p, rfl, hl, q⟩
  have hle := there_len rows
  have e1 : cutD ((there rows).map fun r => tagD r.tag) none (some (p : Int)) = ((there rows).take p).map fun r => tagD r.tag := cut_takeG
  have e2 : ∀ S : Sto, oAdd S (.lst [c_BEGINNING]) (.lst (((there rows).take p).map fun r => tagD r.tag)) = some (.lst (c_BEGINNING :: ((there rows).take p).map fun r => tagD r.tag)) := fun S => oAdd_lst (by
    rw [List.length_map, List.length_take]
    show 1 + _ ≤ lim
    unfold lim; omega)
  have e3 : ∀ S : Sto, oIx S (.lst (c_BEGINNING :: ((there rows).take p).map fun r => tagD r.tag)) (.int (-1)) = some (tagD (ahead rows p)) := fun S => ix_neg (by
    have e : c_BEGINNING :: ((there rows).take p).map (fun r => tagD r.tag) = (((0, 0) : Tag) :: ((there rows).map Rw.tag).take p).map tagD := by
      rw [List.map_cons, ← List.map_take, List.map_map]; rfl
    rw [e, List.getLast?_map, ahead_last]; rfl)
  simp only [w_just_ahead_e, ent]
  generalize ((there rows).take p).map (fun r => tagD r.tag) = T at e1 e2 e3
  simp [e1, e2, e3]
  exact q
theorem tagD_e (t : Tag) : tagD t = .tup [.int t.1, .int t.2] := rfl
theorem sgs_chs (z : Str) : sgs z = (chs z).map .str := by unfold sgs chs; rw [List.map_map]; rfl
theorem chs_len (z : Str) : (chs z).length = z.length := by unfold chs; simp [Str.length]
theorem putsOf_len (n : Int) : ∀ (xs : List Str) (c : Int) (b : Tag), (putsOf c n b xs).length = xs.length
  | [], _, _ => rfl
  | x :: xs, c, b => by unfold putsOf; rw [List.length_cons, List.length_cons, putsOf_len n xs]
theorem written_turns {D : Dn} {S0 : Sto} {p : Addr} {n : Int} {x0 x2 x3 : Option Dv} : ∀ (xs : List Str) (done : List Slip) (c : Int) (b : Tag) (x7 : Option Dv), done.length + xs.length ≤ 1000 →
    (∀ ρ, ev? ρ 4 = some (.ref p) → ρ.length = 8 → D.nx ρ (sset S0 p (.lst ((done ++ putsOf c n b xs).map slipD)))) → forL 7 wb_written_0 D (xs.map .str) [x0, some (.int n), x2, x3, some (.ref p), some (tagD b), some (.tup [.int c, .int n]), x7] (sset S0 p (.lst (done.map slipD)))
  | [], done, c, b, x7, hl, fin => by
    unfold putsOf at fin
    rw [List.append_nil] at fin
    exact fin _ (by simp) (by simp)
  | x :: xs, done, c, b, x7, hl, fin => by
    rw [List.length_cons] at hl
    have step := written_turns (D := D) (S0 := S0) (p := p) (n := n) (x0 := x0) (x2 := x2) (x3 := x3) xs (done ++ [.put (c, n) b x]) (c + 1) (c, n) (some (.str x)) (by rw [List.length_append, List.length_singleton]; omega) (fun ρ h1 h2 => by
      have z := fin ρ h1 h2
      rw [show putsOf c n b (x :: xs) = .put (c, n) b x :: putsOf (c + 1) n (c, n) xs from rfl] at z
      rw [List.append_assoc]; exact z)
    rw [List.map_append, show [Slip.put (c, n) b x].map slipD = [.tup [.str "put", .tup [.int c, .int n], .tup [.int b.1, .int b.2], .str x]] from rfl, tagD_e] at step
    show wb_written_0 { D with nx := forL 7 wb_written_0 D (xs.map .str), ct := forL 7 wb_written_0 D (xs.map .str), bk := D.nx } [x0, some (.int n), x2, x3, some (.ref p), some (tagD b), some (.tup [.int c, .int n]), some (.str x)] (sset S0 p (.lst (done.map slipD)))
    generalize forL 7 wb_written_0 D (xs.map .str) = N at step ⊢
    have hlim : done.length < lim := by unfold lim; omega
    rw [tagD_e]
    simp [wb_written_0_e, hlim, sset_sset]
    exact step
theorem ok_written : ∀ ds S Q, sp_written ds S Q → w_written { nx := fun _ S' => Q .non S', rt := Q } (ent 8 ds) S := by
  rintro _ S Q ⟨rows, n, pl, z, rfl, hl, hz, q⟩
  simp [w_written_e, ent]
  intro p hp
  refine ⟨rows, pl, rfl, hl, rows, n, rfl, ?_⟩
  simp
  rw [sgs_chs]
  refine written_turns (S0 := S) (p := p) (chs z) [] _ (ahead rows pl) none (by rw [chs_len]; simpa using hz) ?_
  intro ρ h4 h8
  rw [List.nil_append]
  dsimp only
  refine frzAt_set h4 hp ?_
  have e : ev? (ρ.set 4 (some (.lst ((putsOf (most rows + 1) n (ahead rows pl) (chs z)).map slipD)))) 4 = some (.lst ((putsOf (most rows + 1) n (ahead rows pl) (chs z)).map slipD)) := by simp [ev?, h8]
  simp only [wRet_eq, wVar_eq, e, go_some]
  exact q
theorem pur_put {t b : Tag} {x : Str} (h : PyData.strOk x = true) : pur (slipD (.put t b x)) = true := by
  unfold pur slipD
  simp [noRef, noRefs, dP, dPs, SeqAt.shaped]
  refine ⟨?_, rfl⟩
  show (PyData.strOk ("put" : Str) && (true && (true && (PyData.strOk x && true)))) = true
  rw [h, ok_put]; rfl
theorem chs_ok {z : Str} (h : PyData.strOk z = true) : ∀ x ∈ chs z, PyData.strOk x = true := fun x hx => by
  unfold chs at hx
  obtain ⟨c, hc, rfl⟩ := List.mem_map.mp hx
  have all : z.cps.all (· < 0x110000) = true := h
  rw [← Array.all_toList, List.all_eq_true] at all
  have q := all c hc
  show (#[c] : Array Nat).all (· < 0x110000) = true
  simpa using q
theorem ix_chs {S : Sto} {z : Str} {k : Nat} {x : Str} (hz : z.length ≤ lim) (h : (chs z)[k]? = some x) : oIx S (.str z) (.int (k : Int)) = some (.str x) := by
  unfold chs at h
  rw [List.getElem?_map] at h
  have hl : k < z.cps.toList.length := by
    cases e : z.cps.toList[k]? with
    | none => rw [e] at h; cases h
    | some c => exact (List.getElem?_eq_some_iff.mp e).1
  rw [List.getElem?_eq_getElem hl] at h
  have e : atI z.cps.toList (k : Int) = some z.cps.toList[k] := by
    unfold atI ixN
    rw [if_pos (by omega), if_pos (by omega)]
    exact List.getElem?_eq_getElem hl
  show (if z.length ≤ lim then (atI z.cps.toList (k : Int)).map fun c => Dv.str ⟨#[c]⟩ else none) = _
  rw [if_pos hz, e]
  exact congrArg some (congrArg Dv.str (Option.some.inj h))
theorem big_ge : ∀ (l : List Int) (m : Int), m ≤ big m l ∧ ∀ x ∈ l, x ≤ big m l
  | [], m => ⟨Int.le_refl _, fun _ h => (List.not_mem_nil h).elim⟩
  | a :: l, m => by
    have z := big_ge l (if m < a then a else m)
    have e : big m (a :: l) = big (if m < a then a else m) l := rfl
    rw [e]
    obtain ⟨z1, z2⟩ := z
    by_cases h : m < a
    · rw [if_pos h] at z1 z2 ⊢
      refine ⟨by omega, fun x hx => ?_⟩
      rcases List.mem_cons.mp hx with e | e
      · rw [e]; exact z1
      · exact z2 x e
    · rw [if_neg h] at z1 z2 ⊢
      refine ⟨z1, fun x hx => ?_⟩
      rcases List.mem_cons.mp hx with e | e
      · rw [e]; omega
      · exact z2 x e
theorem most_ge {rows : List Rw} : ∀ r ∈ rows, r.tc ≤ most rows := fun r hr => by
  cases rows with
  | nil => cases hr
  | cons a rs =>
    obtain ⟨z1, z2⟩ := big_ge (rs.map (·.tc)) a.tc
    show r.tc ≤ big a.tc (rs.map (·.tc))
    rcases List.mem_cons.mp hr with e | e
    · rw [e]; exact z1
    · exact z2 _ (List.mem_map_of_mem e)
theorem most_nn {rows : List Rw} (h : ∀ r ∈ rows, 1 ≤ r.tc) : 0 ≤ most rows := by
  cases rows with
  | nil => exact Int.le_refl _
  | cons a rs =>
    have h1 := h a List.mem_cons_self
    have h2 := most_ge (rows := a :: rs) a List.mem_cons_self
    omega
end MQ
namespace MQ
open PySem PySem.Spec PyProof.Rows L2
noncomputable abbrev cxF (X : Cx) (sc : Scope) (x : Str) (fy : List Str) (cl : List (Str × Addr)) (C : Addr) (s : Shared) (H : Hp) (fp : List Addr) : Cx where
  prog := X.prog
  w := X.w
  K := X.K
  mg := X.mg
  base := X.base
  A := X.A
  N := x :: fy
  s₀ := s
  H₀ := H
  env := { scope := relabel sc X.env, locals := C, globals := X.env.globals, cells := cl, qual := X.env.qual, func := none, code := X.env.code, frame := X.env.frame, builtins := X.env.builtins }
  outer := X.stack
  stack := X.stack
  ex := fp
  fn := fun _ => false
  calm := X.calm
  pn := []
  xe := fun _ _ => False
structure ClOk (X : Cx) (sc : Scope) (fy : List Str) (cl : List (Str × Addr)) (vys : List V) (h : Heap) : Prop where
  sub : ∀ z c, cl.lookup z = some c → X.env.cells.lookup z = some c
  has : ∀ z, ((relabel sc X.env).names.lookup z = some .cell ∨ (relabel sc X.env).names.lookup z = some .free) → ∃ c, cl.lookup z = some c
  len : vys.length = fy.length
  at_ : ∀ (j : Nat) y v, fy[j]? = some y → vys[j]? = some v → (relabel sc X.env).names.lookup y = some .cell ∧ ∃ u c, RelV v u ∧ cl.lookup y = some c ∧ h.IsCell c (some u)
section
variable {X : Cx} {pins : List (Addr × Obj)} {σ : L2.St} {H : Hp} {s : Shared}
theorem inv_compF {sc : Scope} {x : Str} {fy : List Str} {cl : List (Str × Addr)} {vys : List V} {C : Addr} {fp : List Addr} {h₁ : Heap} {m : Str → Option Value} {t : Nat} (I : Inv X pins σ H s) (cok : ClOk X sc fy cl vys s.heap) (hC : s.heap.objs.size ≤ C) (keep : ∀ b o, s.heap.get? b = some o → h₁.get? b = some o) (hns : h₁.Ns C m)
    (hkind : sc.kind = .function) (hfp : ∀ b ∈ fp, FpOk X pins H b) (hlt : ∀ b ∈ fp, b < s.heap.objs.size) :
    Inv (cxF X sc x fy cl C s H fp) [] (none :: vys.map some) H { s with heap := h₁, toks := t } := by
  refine ⟨⟨I.ok.mod, hkind, I.ok.glob, I.ok.blt, hC, fun y z c h1 h2 => I.ok.inj y z c (cok.sub y c h1) (cok.sub z c h2), fun y hy => cok.has y hy, fun y c h _ => (by cases h), I.ok.hd, I.ok.frames, .inl rfl, fun b hb => ⟨?_, fun y c h => (hfp b hb).2.2.2.2.1 y c (cok.sub y c h)⟩, fun b o e => I.bs b o e, Nat.le_trans I.ok.bsz I.sz, fun b o e hb => ?_, fun b hb => ?_, I.stack, I.stkFree⟩,
    rfl, I.bare, Un.kept keep, ⟨m, hns, fun i y v h1 h2 _ => ?_⟩, fun y c h => ?_, I.hok.fresh hC, fun y c h => I.freeC y c (cok.sub y c h), fun p hp => ?_, I.hok.kept keep, ?_⟩
  · exact Nat.ne_of_lt (Nat.lt_of_lt_of_le (hlt b hb) hC)
  · obtain ⟨_, _, _, z, _⟩ := hfp b hb
    rcases z with z | z
    · exact I.ok.noex b o e z
    · exact absurd (Nat.lt_of_lt_of_le (Heap.lt_size e) (Nat.le_trans I.ok.bsz z)) (Nat.lt_irrefl _)
  · obtain ⟨_, z1, z2, _⟩ := hfp b hb
    exact stk_no I z1 z2
  · cases i with
    | zero => simp at h2
    | succ i =>
      obtain ⟨k, u, c, r, hc, ⟨o, e, d⟩⟩ := cok.at_ i y v (by simpa using h1) (by simpa using h2)
      exact ⟨u, r, .inr ⟨.inl k, c, hc, o, keep c o e, d⟩⟩
  · obtain ⟨v, o, e, d⟩ := I.cell y c (cok.sub y c h)
    exact ⟨v, o, keep c o e, d⟩
  · have hp' : p ∈ ([] : List (Addr × Obj)) := hp
    cases hp'
  · show (none :: vys.map some).length = (x :: fy).length
    simp [cok.len]
end
noncomputable def wt2 (dys : List Dv) (wt : WT) : WT := fun ρ S Q => wt (ρ ++ dys.map some) S Q
noncomputable def we2 (dys : List Dv) (we : WE) : WE := fun ρ S Q => we (ρ ++ dys.map some) S Q
section
variable {X : Cx} {elt iter : Expr} {x : Str} {fy : List Str} {px pos : Pos} {ifs : List Expr} {sc : Scope} {src : WE} {wt : WT} {we : WE}
theorem comp_endF {pins : List (Addr × Obj)} {σ σ' : L2.St} {H2 H' : Hp} {s2 s' : Shared} {cl : List (Str × Addr)} {C : Addr} {fp : List Addr} {h' : Heap} {us : List Value} {ys : List V} (I2 : L2.Inv X pins σ H2 s2) (f2 : ∀ b ∈ fp, FpOk X pins H2 b)
    (I : L2.Inv (cxF X sc x fy cl C s2 H2 fp) [] σ' H' s') (hC : s2.heap.objs.size < C) (d : H' s2.heap.objs.size = none) (hu : AccAt s'.heap s2.heap.objs.size us) (v : Vals ys us) (hz : ys.length ≤ sizeLine) (sb : Heap.SameBut C s'.heap h') :
    ∃ o, L2.Inv X pins σ (upd H' s2.heap.objs.size (.frz o (.lst ys))) { s' with heap := h' } := by
  obtain ⟨k, hk⟩ := hu
  have hD : h'.get? s2.heap.objs.size = some { cls := .type "list", data := .seq us.toArray k } := (sb.2 _ (Nat.ne_of_lt hC)).trans hk
  have hCn : H' C = none := I.free
  have kp : ∀ b ob, b ≠ C → s'.heap.get? b = some ob → h'.get? b = some ob := fun b ob hb e => (sb.2 b hb).trans e
  have old : ∀ b ob, s2.heap.get? b = some ob → b ≠ C ∧ b ≠ s2.heap.objs.size := fun b ob e => ⟨Nat.ne_of_lt (Nat.lt_trans (Heap.lt_size e) hC), Nat.ne_of_lt (Heap.lt_size e)⟩
  have B := I.base
  refine ⟨{ cls := .type "list", data := .seq us.toArray k }, I2.call' (s' := { s' with heap := h' }) (ch := fp) I.os ⟨fun b ob e n hb hx => ?_, fun b ob e n hb hx => ?_, fun b ob e n hx => ?_, fun b ob e hx => ?_, fun b xs e => ?_, fun b ob u e => ?_, fun b ps e => ?_⟩ ?_ I.bare fun b hb => ?_⟩
  · exact kp b ob (old b ob e).1 (B.keep b ob e n hb hx)
  · obtain ⟨sl, q⟩ := B.slot b ob e n hb hx
    exact ⟨sl, kp b _ (old b ob e).1 q⟩
  · rw [upd_ne (old b ob e).2]
    exact B.free b ob e n hx
  · obtain ⟨o', q⟩ := B.there b ob e hx
    exact ⟨o', kp b _ (old b ob e).1 q⟩
  · rw [upd_ne (fun z => by have q := B.tups b xs e; rw [z, d] at q; cases q)]
    exact B.tups b xs e
  · rw [upd_ne (fun z => by have q := B.frzs b ob u e; rw [z, d] at q; cases q)]
    exact B.frzs b ob u e
  · obtain ⟨more, q⟩ := B.tbls b ps e
    exact ⟨more, by rw [upd_ne (fun z => by rw [z, d] at q; cases q)]; exact q⟩
  · intro b u q
    by_cases hb : b = s2.heap.objs.size
    · subst hb
      rw [upd_same] at q
      cases q
      exact ⟨hD, hz, us, k, v, hD⟩
    · rw [upd_ne hb] at q
      refine (I.hok b u q).stay (fun c w hc e => kp c w (fun z => ?_) e) (fun c hc => ?_) fun c zs hc => ?_
      · rcases hc with hc | hc
        · rw [← hc, z, hCn] at q; cases q
        · rw [z, hCn] at hc; cases hc
      · rw [upd_ne (fun z => by rw [z, d] at hc; cases hc)]; exact hc
      · rw [upd_ne (fun z => by rw [z, d] at hc; cases hc)]; exact hc
  · obtain ⟨_, z1, _, z3, z4, z5⟩ := f2 b hb
    exact ⟨z3, z1, z4, z5⟩
end
noncomputable def evs? (ρ : Ev) : List Nat → Option (List Dv)
  | [] => some []
  | i :: r => match ev? ρ i, evs? ρ r with
    | some d, some ds => some (d :: ds)
    | _, _ => none
theorem evs_at {ρ : Ev} : ∀ {is : List Nat} {ds : List Dv}, evs? ρ is = some ds → ds.length = is.length ∧ ∀ (j : Nat) i d, is[j]? = some i → ds[j]? = some d → ρ[i]? = some (some d)
  | [], ds, h => by cases h; exact ⟨rfl, fun j i d h => by simp at h⟩
  | i :: r, ds, h => by
    unfold evs? at h
    split at h
    · rename_i d ds' e1 e2
      cases h
      obtain ⟨l, z⟩ := evs_at e2
      refine ⟨by simp [l], fun j i' d' h1 h2 => ?_⟩
      cases j with
      | zero =>
        simp at h1 h2
        subst h1 h2
        exact ev?_at e1
      | succ j => exact z j i' d' (by simpa using h1) (by simpa using h2)
    · cases h
structure Frees (X : Cx) (sc : Scope) (is : List Nat) (fy : List Str) : Prop where
  len : is.length = fy.length
  at_ : ∀ (j : Nat) i y, is[j]? = some i → fy[j]? = some y → X.N[i]? = some y ∧ X.env.kindOf y = some .cell ∧ (relabel sc X.env).names.lookup y = some .cell
  clos : ∀ cs : List Addr, cs.length = fy.length → (∀ (j : Nat) y c, fy[j]? = some y → cs[j]? = some c → X.env.cells.lookup y = some c) → ∃ cl, closureFor sc X.env = pure cl ∧ (∀ z c, cl.lookup z = some c → X.env.cells.lookup z = some c) ∧ ∀ y ∈ fy, ∃ c, cl.lookup y = some c
  only : ∀ z, ((relabel sc X.env).names.lookup z = some .cell ∨ (relabel sc X.env).names.lookup z = some .free) → z ∈ fy
theorem cells_of {X : Cx} : ∀ {fy : List Str}, X.Ok → (∀ y ∈ fy, X.env.kindOf y = some .cell) → ∃ cs : List Addr, cs.length = fy.length ∧ ∀ (j : Nat) y c, fy[j]? = some y → cs[j]? = some c → X.env.cells.lookup y = some c
  | [], _, _ => ⟨[], rfl, fun j y c h => by simp at h⟩
  | y :: fy, ok, h => by
    obtain ⟨c, hc⟩ := ok.has y (.inl (h y List.mem_cons_self))
    obtain ⟨cs, l, z⟩ := cells_of ok fun y hy => h y (List.mem_cons_of_mem _ hy)
    refine ⟨c :: cs, by simp [l], fun j y' c' h1 h2 => ?_⟩
    cases j with
    | zero =>
      simp at h1 h2
      subst h1 h2
      exact hc
    | succ j => exact z j y' c' (by simpa using h1) (by simpa using h2)
theorem vals_of {X : Cx} {ρ : Ev} {σ : L2.St} {H : Hp} (env : EnvOk X.K H ρ σ) : ∀ {is : List Nat} {dys : List Dv}, evs? ρ is = some dys → ∃ vys : List V, dens X.K H dys vys ∧ ∀ (j : Nat) i v, is[j]? = some i → vys[j]? = some v → σ[i]? = some (some v)
  | [], dys, h => by cases h; exact ⟨[], dens_nil, fun j i v h => by simp at h⟩
  | i :: r, dys, h => by
    unfold evs? at h
    split at h
    · rename_i d ds' e1 e2
      cases h
      obtain ⟨v, h1, h2⟩ := env.at_ i d (ev?_at e1)
      obtain ⟨vs, z1, z2⟩ := vals_of env e2
      refine ⟨v :: vs, dens_cons h2 z1, fun j i' v' h3 h4 => ?_⟩
      cases j with
      | zero =>
        simp at h3 h4
        subst h3 h4
        exact h1
      | succ j => exact z2 j i' v' (by simpa using h3) (by simpa using h4)
    · cases h
theorem clos_of {X : Cx} {sc : Scope} {is : List Nat} {fy : List Str} (ok : X.Ok) (fr : Frees X sc is fy) : ∃ cl, closureFor sc X.env = pure cl ∧ (∀ z c, cl.lookup z = some c → X.env.cells.lookup z = some c) ∧ ∀ y ∈ fy, ∃ c, cl.lookup y = some c := by
  obtain ⟨cs, lc, hc⟩ := cells_of (fy := fy) ok fun y hy => by
    obtain ⟨j, hj⟩ := List.getElem?_of_mem hy
    have hjl := (List.getElem?_eq_some_iff.mp hj).1
    have hji : j < is.length := by rw [fr.len]; exact hjl
    exact (fr.at_ j is[j] y (List.getElem?_eq_getElem hji) hj).2.1
  exact fr.clos cs lc hc
theorem clok_of {X : Cx} {pins : List (Addr × Obj)} {σ : L2.St} {H : Hp} {s : Shared} {sc : Scope} {is : List Nat} {fy : List Str} {vys : List V} {cl : List (Str × Addr)} (I : Inv X pins σ H s) (fr : Frees X sc is fy) (sub : ∀ z c, cl.lookup z = some c → X.env.cells.lookup z = some c) (has : ∀ y ∈ fy, ∃ c, cl.lookup y = some c)
    (hl : vys.length = fy.length) (hv : ∀ (j : Nat) i v, is[j]? = some i → vys[j]? = some v → σ[i]? = some (some v)) : ClOk X sc fy cl vys s.heap := by
  refine ⟨sub, fun z hz => has z (fr.only z hz), hl, fun j y v h1 h2 => ?_⟩
  have hjl := (List.getElem?_eq_some_iff.mp h1).1
  have hji : j < is.length := by rw [fr.len]; exact hjl
  obtain ⟨k1, k2, k3⟩ := fr.at_ j is[j] y (List.getElem?_eq_getElem hji) h1
  refine ⟨k3, ?_⟩
  obtain ⟨m, _, z⟩ := I.loc
  obtain ⟨u, ru, lk⟩ := z is[j] y v k1 (hv j is[j] v (List.getElem?_eq_getElem hji) h2) (.inr (.inl k2))
  rcases lk with ⟨k, _⟩ | ⟨_, c, h3, h4⟩
  · rw [k2] at k; cases k
  · obtain ⟨c', h5⟩ := has y (List.mem_of_getElem? h1)
    have e5 := sub y c' h5
    rw [h3] at e5
    cases e5
    exact ⟨u, c, ru, h5, h4⟩
section
variable {X : Cx} {elt iter : Expr} {x : Str} {is : List Nat} {fy : List Str} {px pos : Pos} {ifs : List Expr} {sc : Scope} {src : WE} {wt : WT} {we : WE}
end
theorem frees1 {X : Cx} {sc : Scope} {i : Nat} {y : Str} (h1 : X.N[i]? = some y) (h2 : X.env.kindOf y = some .cell) (h3 : (relabel sc X.env).names.lookup y = some .cell) (h4 : ∀ c, X.env.cells.lookup y = some c → closureFor sc X.env = pure [(y, c)])
    (h5 : ∀ z ∈ sc.names, z.2 ≠ .cell) (h6 : ∀ z ∈ sc.names, z.2 = .free → z.1 = y) : Frees X sc [i] [y] := by
  refine ⟨rfl, fun j i' y' e1 e2 => ?_, fun cs l h => ?_, fun z hz => ?_⟩
  · cases j with
    | zero => simp at e1 e2; subst e1 e2; exact ⟨h1, h2, h3⟩
    | succ j => simp at e1
  · match cs, l with
    | [c], _ =>
      have hc := h 0 y c rfl rfl
      refine ⟨[(y, c)], h4 c hc, fun z d e => ?_, fun z hz => ?_⟩
      · rw [List.lookup_cons] at e
        split at e
        · rename_i hb
          have ez : z = y := by simpa using hb
          cases e
          rw [ez]; exact hc
        · simp at e
      · rw [List.mem_singleton.mp hz]
        exact ⟨c, by simp⟩
  · have hm : ∃ k, (z, k) ∈ (relabel sc X.env).names ∧ (k = .cell ∨ k = .free) := by
      rcases hz with e | e
      · exact ⟨.cell, PySem.mem_of_lookup e, .inl rfl⟩
      · exact ⟨.free, PySem.mem_of_lookup e, .inr rfl⟩
    obtain ⟨k, hm, hk⟩ := hm
    obtain ⟨⟨n, k0⟩, hn, e⟩ := List.mem_map.mp hm
    dsimp only at e
    have key : n = y ∧ n = z := by
      split at e
      · rename_i hc
        cases e
        have hf : k0 = .free := by
          have z1 := (Bool.and_eq_true_iff.mp (Bool.and_eq_true_iff.mp hc).1).1
          simpa using z1
        exact ⟨h6 _ hn hf, rfl⟩
      · cases e
        rcases hk with hk | hk
        · exact absurd hk (h5 _ hn)
        · exact ⟨h6 _ hn hk, rfl⟩
    rw [← key.2, key.1]; exact List.mem_singleton.mpr rfl
@[simp] theorem evs?_nil {ρ : Ev} : evs? ρ [] = some [] := id rfl
@[simp] theorem evs?_one {ρ : Ev} {i : Nat} : evs? ρ [i] = (ev? ρ i).map fun d => [d] := by
  unfold evs? evs?; cases ev? ρ i <;> rfl
@[simp ↓] theorem wt2_eq {dys : List Dv} {wt : WT} {ρ : Ev} {S : Sto} {Q : Bool → Sto → Prop} : wt2 dys wt ρ S Q = wt (ρ ++ dys.map some) S Q := id rfl
@[simp ↓] theorem we2_eq {dys : List Dv} {we : WE} {ρ : Ev} {S : Sto} {Q : QE} : we2 dys we ρ S Q = we (ρ ++ dys.map some) S Q := id rfl
end MQ
namespace MQ
open PySem PySem.Spec PyProof.Rows L2
noncomputable def putTags (ss : List Slip) : List Tag := ss.filterMap fun s => match s with
  | .put t _ _ => some t
  | .cut _ => none
noncomputable def cutTags (ss : List Slip) : List Tag := ss.filterMap fun s => match s with
  | .put _ _ _ => none
  | .cut t => some t
theorem mem_putTags {ss : List Slip} {t : Tag} : t ∈ putTags ss ↔ ∃ b x, Slip.put t b x ∈ ss := by
  unfold putTags
  rw [List.mem_filterMap]
  constructor
  · rintro ⟨s, h1, h2⟩
    cases s with
    | put t' b x => cases h2; exact ⟨b, x, h1⟩
    | cut t' => cases h2
  · rintro ⟨b, x, h⟩; exact ⟨_, h, rfl⟩
theorem mem_cutTags {ss : List Slip} {t : Tag} : t ∈ cutTags ss ↔ Slip.cut t ∈ ss := by
  unfold cutTags
  rw [List.mem_filterMap]
  constructor
  · rintro ⟨s, h1, h2⟩
    cases s with
    | put t' b x => cases h2
    | cut t' => cases h2; exact h1
  · exact fun h => ⟨_, h, rfl⟩
theorem deq_row (a b : Rw) : deq (rowD a) (rowD b) = true ↔ a = b := by
  have e : deq (rowD a) (rowD b) = ((a.tc == b.tc && (a.th == b.th && true)) && ((a.bc == b.bc && (a.bh == b.bh && true)) && (a.sg == b.sg && (a.out == b.out && true)))) := rfl
  rw [e]
  cases a; cases b
  simp
  constructor
  · rintro ⟨⟨h1, h2⟩, ⟨h3, h4⟩, h5, h6⟩; exact ⟨h1, h2, h3, h4, h5, h6⟩
  · rintro ⟨h1, h2, h3, h4, h5, h6⟩; exact ⟨⟨h1, h2⟩, ⟨h3, h4⟩, h5, h6⟩
theorem cnt_rows {rows : List Rw} (nd : rows.Nodup) {r : Rw} (h : r ∈ rows) : cntD (rows.map rowD) (rowD r) = 1 := by
  unfold cntD
  rw [List.countP_map]
  induction rows with
  | nil => cases h
  | cons a l ih =>
    obtain ⟨n1, n2⟩ := List.nodup_cons.mp nd
    rw [List.countP_cons]
    show List.countP ((fun y => deq y (rowD r)) ∘ rowD) l + (if deq (rowD a) (rowD r) = true then 1 else 0) = 1
    by_cases e : a = r
    · subst e
      have z : List.countP ((fun y => deq y (rowD a)) ∘ rowD) l = 0 := by
        rw [List.countP_eq_zero]
        intro q hq
        show ¬ deq (rowD q) (rowD a) = true
        rw [deq_row]
        exact fun z => n1 (by rw [← z]; exact hq)
      rw [z, if_pos ((deq_row a a).mpr rfl)]
    · rcases List.mem_cons.mp h with z | z
      · exact absurd z.symm e
      · rw [ih n2 z, if_neg (fun z => e ((deq_row a r).mp z))]
theorem pur_row {r : Rw} (h : PyData.strOk r.sg = true) : pur (rowD r) = true := by
  unfold pur rowD
  simp [noRef, noRefs, dP, dPs, SeqAt.shaped]
  refine ⟨?_, rfl⟩
  show (true && (true && (PyData.strOk r.sg && (true && true)))) = true
  rw [h]; rfl
theorem noRefs_tags : ∀ ts : List Tag, noRefs (ts.map tagD) = true
  | [] => rfl
  | t :: ts => by
    show (noRef (tagD t) && noRefs (ts.map tagD)) = true
    rw [noRefs_tags ts]; rfl
theorem lay_tags : ∀ ts : List Tag, PyData.canLayAll0 (dPs (ts.map tagD)) = true ∧ PyData.depthAll (dPs (ts.map tagD)) ≤ 1
  | [] => ⟨rfl, by simp [dPs, PyData.depthAll]⟩
  | t :: ts => by
    obtain ⟨h1, h2⟩ := lay_tags ts
    refine ⟨?_, ?_⟩
    · rw [List.map_cons, dPs, PyData.canLayAll0, h1, Bool.and_true]; rfl
    · rw [List.map_cons, dPs, PyData.depthAll]
      exact Nat.max_le.mpr ⟨Nat.le_refl 1, h2⟩
theorem pur_tags (ts : List Tag) : pur (.lst (ts.map tagD)) = true := by
  obtain ⟨h1, h2⟩ := lay_tags ts
  have e1 : noRef (.lst (ts.map tagD)) = true := noRefs_tags ts
  have e2 : SeqAt.shaped (dP (.lst (ts.map tagD))) = true := by
    show (PyData.canLayAll0 (dPs (ts.map tagD)) && decide (PyData.depthAll (dPs (ts.map tagD)) + 1 ≤ 64)) = true
    rw [h1, decide_eq_true (by omega)]; rfl
  show (noRef (.lst (ts.map tagD)) && SeqAt.shaped (dP (.lst (ts.map tagD)))) = true
  rw [e1, e2]; rfl
theorem in_tags : ∀ (ts : List Tag) (a b : Int), inP (dPs (ts.map tagD)) (dP (.tup [.int a, .int b])) = decide ((a, b) ∈ ts)
  | [], a, b => by simp [inP, dPs]
  | t :: ts, a, b => by
    have ih := in_tags ts a b
    unfold inP at ih ⊢
    rw [List.map_cons, dPs, List.any_cons, ih]
    have e : PyData.eqv (dP (tagD t)) (dP (.tup [.int a, .int b])) = decide (t.1 = a ∧ t.2 = b) := deq_tag (a := t.1) (b := t.2) (c := a) (d := b)
    rw [e, Bool.eq_iff_iff]
    simp only [Bool.or_eq_true, decide_eq_true_eq, List.mem_cons]
    constructor
    · rintro (⟨h1, h2⟩ | h)
      · exact .inl (by rw [← h1, ← h2])
      · exact .inr h
    · rintro (h | h)
      · exact .inl (by rw [← h]; exact ⟨rfl, rfl⟩)
      · exact .inr h
theorem oIn_tags {S : Sto} {ts : List Tag} {a b : Int} : oIn S (.tup [.int a, .int b]) (.lst (ts.map tagD)) = some (decide ((a, b) ∈ ts)) := by
  show (if (pur (.tup [.int a, .int b]) && pur (.lst (ts.map tagD))) = true then some (inP (dPs (ts.map tagD)) (dP (.tup [.int a, .int b]))) else none) = _
  rw [pur_tags, in_tags]
  exact if_pos rfl
noncomputable def isPut : Slip → Bool
  | .put _ _ _ => true
  | .cut _ => false
theorem puts_len : ∀ slips : List Slip, (slips.filter isPut).length = (putTags slips).length
  | [] => rfl
  | .put t b x :: ss => by
    rw [show (Slip.put t b x :: ss).filter isPut = Slip.put t b x :: ss.filter isPut from rfl, show putTags (Slip.put t b x :: ss) = t :: putTags ss from rfl, List.length_cons, List.length_cons, puts_len ss]
  | .cut t :: ss => by
    rw [show (Slip.cut t :: ss).filter isPut = ss.filter isPut from rfl, show putTags (Slip.cut t :: ss) = putTags ss from rfl, puts_len ss]
theorem Hrd.wide {U V : Slip → Prop} {rows : List Rw} {done : List Slip} (h : Hrd U rows done) (k : ∀ s ∈ done, V s) : Hrd V rows done := ⟨h.gd, h.ok, h.len, k, h.put, h.has, h.cut⟩
theorem oNotIn_tags {S : Sto} {ts : List Tag} {a b : Int} : oNotIn S (.tup [.int a, .int b]) (.lst (ts.map tagD)) = some (!decide ((a, b) ∈ ts)) := by
  show (if (pur (.tup [.int a, .int b]) && pur (.lst (ts.map tagD))) = true then some (!inP (dPs (ts.map tagD)) (dP (.tup [.int a, .int b]))) else none) = _
  rw [pur_tags, in_tags]
  exact if_pos rfl
end MQ
namespace MQ
open PySem PySem.Spec PyProof.Rows L2
noncomputable def putFD (f : Str) (d : Dv) : List (Str × Dv) → List (Str × Dv)
  | [] => [(f, d)]
  | (k, x) :: r => if k = f then (k, d) :: r else (k, x) :: putFD f d r
theorem flds_put {K : PySem.W.Frag} {H : Hp} {f : Str} {d : Dv} {v : V} (hd : den K H d v) : ∀ {fs : List (Str × Dv)} {vs : List (Str × V)}, flds K H fs vs → flds K H (putFD f d fs) (L2.putF f v vs) := by
  intro fs vs h
  unfold flds at h ⊢
  induction h with
  | nil => exact .cons ⟨rfl, hd⟩ .nil
  | @cons p q ps qs h t ih =>
    obtain ⟨k, x⟩ := p
    obtain ⟨k', x'⟩ := q
    obtain ⟨h1, h2⟩ := h
    have e : k = k' := h1
    subst e
    show Paired _ (if k = f then (k, d) :: ps else (k, x) :: putFD f d ps) (if k = f then (k, v) :: qs else (k, x') :: L2.putF f v qs)
    split
    · exact .cons ⟨rfl, hd⟩ t
    · exact .cons ⟨rfl, h2⟩ ih
theorem flds_at {K : PySem.W.Frag} {H : Hp} {f : Str} {d : Dv} : ∀ {fs : List (Str × Dv)} {vs : List (Str × V)}, flds K H fs vs → fs.lookup f = some d → ∃ v, vs.lookup f = some v ∧ den K H d v := by
  intro fs vs h
  unfold flds at h
  induction h with
  | nil => intro e; cases e
  | @cons p q ps qs h t ih =>
    obtain ⟨k, x⟩ := p
    obtain ⟨k', x'⟩ := q
    obtain ⟨h1, h2⟩ := h
    have e : k = k' := h1
    subst e
    intro e
    rw [List.lookup_cons] at e ⊢
    split at e
    · rename_i hb
      cases e
      exact ⟨x', rfl, h2⟩
    · rename_i hb
      exact ih e
theorem flds_no {K : PySem.W.Frag} {H : Hp} {f : Str} : ∀ {fs : List (Str × Dv)} {vs : List (Str × V)}, flds K H fs vs → fs.lookup f = none → vs.lookup f = none := by
  intro fs vs h
  unfold flds at h
  induction h with
  | nil => intro _; rfl
  | @cons p q ps qs h t ih =>
    obtain ⟨k, x⟩ := p
    obtain ⟨k', x'⟩ := q
    obtain ⟨h1, h2⟩ := h
    have e : k = k' := h1
    subst e
    intro e
    rw [List.lookup_cons] at e ⊢
    split at e
    · cases e
    · exact ih e
structure HandCls (K : PySem.W.Frag) (C : Addr) : Prop where
  at_ : PySem.W.nsIn K mainGlobals "Hand" = some (some (.ref C))
  cl : Cls K C
  n1 : NoAttr K C "number"
  n2 : NoAttr K C "rows"
  n3 : NoAttr K C "slips"
noncomputable def isFd (f : Str) : Bool := decide (f = "number") || decide (f = "rows") || decide (f = "slips")
theorem HandCls.no {K : PySem.W.Frag} {C : Addr} (h : HandCls K C) {f : Str} (hf : isFd f = true) : NoAttr K C f := by
  unfold isFd at hf
  by_cases h1 : f = "number"
  · rw [h1]; exact h.n1
  · by_cases h2 : f = "rows"
    · rw [h2]; exact h.n2
    · have h3 : f = "slips" := by simpa [h1, h2] using hf
      rw [h3]; exact h.n3
noncomputable def insOf (S : Sto) : Dv → Option (Addr × List (Str × Dv))
  | .ref p => match S p with
    | some (.ins fs) => some (p, fs)
    | _ => none
  | _ => none
theorem insOf_eq {S : Sto} {d : Dv} {p : Addr} {fs : List (Str × Dv)} (h : insOf S d = some (p, fs)) : d = .ref p ∧ S p = some (.ins fs) := by
  cases d with
  | ref a =>
    have h' : (match S a with
      | some (.ins fs) => some (a, fs)
      | _ => none) = some (p, fs) := h
    split at h'
    · rename_i kv e; cases h'; exact ⟨rfl, e⟩
    · cases h'
  | _ => cases h
noncomputable def onIns (S : Sto) (d : Dv) (k : Addr → List (Str × Dv) → Prop) : Prop := match insOf S d with
  | some (p, fs) => k p fs
  | none => False
theorem onIns_inv {S : Sto} {d : Dv} {k : Addr → List (Str × Dv) → Prop} (h : onIns S d k) : ∃ p fs, d = .ref p ∧ S p = some (.ins fs) ∧ k p fs := by
  unfold onIns at h
  split at h
  · rename_i p kvs e
    obtain ⟨e1, e2⟩ := insOf_eq e
    exact ⟨p, kvs, e1, e2, h⟩
  · exact h.elim
noncomputable def wFld (f : Str) (o : WE) : WE := fun ρ S Q => o ρ S fun d S1 => onIns S1 d fun _ fs => go (fs.lookup f) S1 Q
noncomputable def wFldS (f : Str) (o e : WE) : WS := fun D ρ S => e ρ S fun x S1 => o ρ S1 fun d S2 => onIns S2 d fun p fs => fs.length < 100 ∧ D.nx ρ (sset S2 p (.ins (putFD f x fs)))
section
variable {X : Cx}
theorem ins_ok {H : Hp} {S : Sto} {p C0 : Addr} {fs : List (Str × Dv)} (hc : HandCls X.K C0) (st : StOk X.K H S) (hs : S p = some (.ins fs)) : ∃ dx vs, H p = some (.ins C0 dx vs) ∧ flds X.K H fs vs := by
  obtain ⟨C, dx, vs, h1, h2, h3⟩ := st p _ hs
  rw [hc.at_] at h1
  cases h1
  exact ⟨dx, vs, h2, h3⟩
theorem de_fld {f : Str} {e : Expr} {w : WE} {pos : Pos} {C0 : Addr} (hc : HandCls X.K C0) (he : DE X e w) (hf : isFd f = true := by decide) (hb : attributeBase e f X.env (eval e X.env) = eval e X.env := by rfl) : DE X (.Attribute e f pos) (wFld f w) :=
  PE.weak (pe_fld he hb) fun σ H Q ⟨ρ, S, Q', env, st, hw, post⟩ => ⟨ρ, S, _, env, st, hw, fun d S1 v H1 q1 e1 st1 hd => by
    obtain ⟨p, fs, rfl, hs, q⟩ := onIns_inv q1
    obtain ⟨x, hx, q⟩ := go_inv q
    cases (show v = .ref p from hd)
    obtain ⟨dx, vs, h2, h3⟩ := ins_ok hc st1 hs
    obtain ⟨u, hu, du⟩ := flds_at h3 hx
    exact ⟨p, C0, dx, vs, u, rfl, h2, hc.cl, hc.no hf, hu, post x S1 u H1 q e1 st1 du⟩⟩
theorem ds_fld {f : Str} {o e : Expr} {wo we : WE} {pos pos' : Pos} {C0 : Addr} (hc : HandCls X.K C0) (ho : DE X o wo) (he : DE X e we) (hf : isFd f = true := by decide) (hs : swapsWith e (some (.Attribute o f pos')) pos.line X.env = pure false := by rfl) :
    DS X (.Assign [.Attribute o f pos'] e pos) (wFldS f wo we) :=
  PS.weak (ps_fld ho he hs) fun D σ H ⟨ρ, S, D', env, st, hw, dn⟩ => ⟨ρ, S, _, env, st, hw, fun x S1 u H1 q1 e1 st1 hx => ⟨ρ, S1, _, env.ext e1, st1, q1, fun d S2 v H2 q2 e2 st2 hd => by
    obtain ⟨p, fs, rfl, hs, hl, q⟩ := onIns_inv q2
    cases (show v = .ref p from hd)
    obtain ⟨dx, vs, h2, h3⟩ := ins_ok hc st2 hs
    have ex := ext_ins (ys := L2.putF f u vs) h2
    have hlen : vs.length = fs.length := (Paired.length h3).symm
    refine ⟨p, C0, dx, vs, rfl, h2, hc.cl, hc.no hf, by omega, ?_⟩
    exact dn.nx ρ _ σ _ q ((e1.trans e2).trans ex) ((env.ext (e1.trans e2)).ext ex) (st2.put ex ⟨C0, dx, _, hc.at_, upd_same, flds_put (den_ext ex _ _ (den_ext e2 _ _ hx)) (flds_ext ex h3)⟩)⟩⟩
structure HasM (P : Program) (w : World) (K : PySem.W.Frag) (mg : Str → Option Value) (base : Heap) (k : Nat) (C : Addr) (m : Str) (ps : List Str) (sp : Ds) : Prop where
  ex : ∃ (f : Addr) (fd : FuncData), FnOk P w K mg base CX0 k f fd ps (lSp K sp) ∧ Meth K C m f ∧ Binds K fd ps []
noncomputable def wMeth (m : Str) (sp : Ds) (o : WE) (t : WA) : WE := fun ρ S Q => o ρ S fun d S1 => onIns S1 d fun _ fs => fs.lookup m = none ∧ t ρ S1 fun ds S2 => sp (d :: ds) S2 Q
theorem de_meth {k : Nat} {m : Str} {ps : List Str} {sp : Ds} {o e : Expr} {es : List Expr} {wo : WE} {t : WA} {apos pos : Pos} {C0 : Addr} {pl : Sem Bool} (hc : HandCls X.K C0) (G : HasM X.prog X.w X.K X.mg X.base k C0 m ps sp) (hr : Room k X.A) (ho : DE X o wo) (ha : DA X (e :: es) t)
    (hst : starEach (e :: es) X.env = (false, eval e X.env) :: starEach es X.env := by rfl) (hpl : (backTo pos (starEach es X.env)).any (·.1) = false := by rfl)
    (ht : eval (.Call (.Attribute o m apos) (e :: es) [] pos) X.env = (do
      let ov ← eval o X.env
      standAt apos.atName
      let (f, first) ← holding [ov] (getMethod ov m pl)
      callWith pos f first (backTo pos (starEach (e :: es) X.env)) (backToKw pos (keywordEach [] X.env))) := by rfl) : DE X (.Call (.Attribute o m apos) (e :: es) [] pos) (wMeth m sp wo t) := by
  obtain ⟨f, fd, F, hm, hb⟩ := G.ex
  exact PE.weak (pe_meth ho hc.cl hm F hr hb .nil pass0 ha hst hpl ht) fun σ H Q ⟨ρ, S, Q', env, st, hw, post⟩ => ⟨ρ, S, _, env, st, hw, fun d S1 v H1 q1 e1 st1 hd => by
    obtain ⟨p, fs, rfl, hs, hn, q⟩ := onIns_inv q1
    cases (show v = .ref p from hd)
    obtain ⟨dx, vs, h2, h3⟩ := ins_ok hc st1 hs
    refine ⟨p, dx, vs, rfl, h2, flds_no h3 hn, ρ, S1, _, env.ext e1, st1, q, fun ds S2 us H2 q2 e2 st2 hds => ?_⟩
    show lSp X.K sp (.ref p :: (us ++ [])) H2 Q E0
    rw [List.append_nil]
    exact ⟨.ref p :: ds, S2, Q', dens_cons rfl hds, st2, q2, fun d S3 v H3 q3 e3 st3 hd => post d S3 v H3 q3 (e1.trans (e2.trans e3)) st3 hd⟩⟩
noncomputable def wMake (sp : Ds) (t : WA) : WE := fun ρ S Q => t ρ S fun ds S1 => ∀ p, S1 p = none → sp (.ref p :: ds) (sset S1 p (.ins [])) fun d S2 => d = .non ∧ Q (.ref p) S2
structure HasI (P : Program) (w : World) (K : PySem.W.Frag) (mg : Str → Option Value) (base : Heap) (k : Nat) (C : Addr) (x : Str) (ps : List Str) (sp : Ds) : Prop where
  ex : ∃ (f : Addr) (fd : FuncData), FnOk P w K mg base CX0 k f fd ps (lSp K sp) ∧ Mk K C f ∧ mg x = some (.ref C) ∧ Binds K fd ps []
theorem de_make {k : Nat} {x : Str} {ps : List Str} {sp : Ds} {e : Expr} {es : List Expr} {t : WA} {p pos : Pos} {C0 : Addr} (hc : HandCls X.K C0) (G : HasI X.prog X.w X.K X.mg X.base k C0 x ps sp) (hr : Room (k + 1) X.A) (ha : DA X (e :: es) t) (hg : Gl X x := by rfl)
    (hdb : (x == ("__debug__" : Str)) = false := by decide) (he : starEach (e :: es) X.env = (false, eval e X.env) :: starEach es X.env := by rfl) (hpl : (backTo pos (starEach es X.env)).any (·.1) = false := by rfl) :
    DE X (.Call (.Name x p) (e :: es) [] pos) (wMake sp t) := by
  obtain ⟨f, fd, F, M, hm, hb⟩ := G.ex
  exact PE.weak (pe_make M F hr hg hm hb .nil pass0 ha hdb he hpl) fun σ H Q ⟨ρ, S, Q', env, st, hw, post⟩ => ⟨ρ, S, _, env, st, hw, fun ds S1 vs H1 q1 e1 st1 hds a dx ha hdx hne => by
    have sm1 := same_new hdx (.own a)
    have sm2 : Same H1 (upd (upd H1 dx (.own a)) a (.ins C0 dx [])) := sm1.trans (same_new (by rw [upd_ne (Ne.symm hne)]; exact ha) _)
    show lSp X.K sp (.ref a :: (vs ++ [])) _ _ E0
    rw [List.append_nil]
    refine ⟨.ref a :: ds, _, _, dens_cons rfl (dens_ext (ext_same sm2) _ _ hds), ?_, q1 a (st1.free ha), fun d S3 v H3 q3 e3 st3 hd => ?_⟩
    · intro b ob hb
      unfold sset at hb
      by_cases z : b = a
      · rw [if_pos z] at hb; cases hb; rw [z]
        exact ⟨C0, dx, [], hc.at_, upd_same, .nil⟩
      · rw [if_neg z] at hb
        exact (st1.same sm2) b ob hb
    · obtain ⟨e3', q3⟩ := q3
      subst e3'
      exact ⟨hd, post (.ref a) S3 (.ref a) H3 q3 (e1.trans ((ext_same sm2).trans e3)) st3 rfl⟩⟩
end
section
variable {P : Program} {w : World} {K : PySem.W.Frag} {mg : Str → Option Value} {base : Heap}
theorem fn_okQ {x qual : Str} {st : Stmt} {f : Addr} {fd : FuncData} {N ps : List Str} {k : Nat} {sp : Ds} {ws : WS} (F : Fun K x qual st f fd) (S : FnScope N ps (defScope st))
    (len : ∀ ds S Q, sp ds S Q → ds.length = ps.length)
    (link : ∀ (cdv : Value) (A : Around) (outer : List Env) (s : Shared) (H : Hp) (E : XK), Room k (cxD P w K mg base N qual st f cdv A outer s H E).A → DSs (cxD P w K mg base N qual st f cdv A outer s H E) (defBody st) ws)
    (ok : ∀ ds S Q, sp ds S Q → ws { nx := fun _ S' => Q .non S', rt := Q } (ent N.length ds) S) : FnOk P w K mg base CX0 (k + 1) f fd ps (lSp K sp) := by
  refine F.ok S (fun vs H Q E h => ?_) (fun cdv A outer s H vs Q E hr h => ?_)
  · obtain ⟨ds, S', Q', h1, _, h2, _⟩ := h
    rw [dens_len h1]
    exact len ds S' Q' h2
  · obtain ⟨ds, S', Q', h1, h2, h3, h4⟩ := h
    refine ⟨_, link cdv A outer s H E hr, ent N.length ds, S', _, ent_ok h1, h2, ok ds S' Q' h3, ⟨?_, ?_, ?_, ?_⟩⟩
    · exact fun ρ S2 σ H2 q e _ st => h4 .non S2 .non H2 q e st rfl
    · exact fun d S2 v H2 q e st hd => h4 d S2 v H2 q e st hd
    · exact fun _ _ _ _ q _ _ _ => q
    · exact fun _ _ _ _ q _ _ _ => q
end
noncomputable def onInsK (S : Sto) (d : Dv) (k : Addr → List (Str × Dv) → Prop) (_ : Kp k := ⟨⟩) (_ : True := trivial) : Prop := onIns S d k
theorem onIns_at {S : Sto} {p : Addr} {fs : List (Str × Dv)} {k : Addr → List (Str × Dv) → Prop} (h : S p = some (.ins fs)) : onInsK S (.ref p) k = k p fs := by
  simp only [onInsK, onIns, insOf, h]
@[simp] theorem onIns_set {S : Sto} {p : Addr} {fs : List (Str × Dv)} {k : Addr → List (Str × Dv) → Prop} : onInsK (sset S p (.ins fs)) (.ref p) k = k p fs := onIns_at sset_same
@[simp ↓] theorem wFld_eq {f : Str} {o : WE} {ρ : Ev} {S : Sto} {Q : QE} : wFld f o ρ S Q = o ρ S (fun d S1 => onInsK S1 d fun _ fs => goK (fs.lookup f) S1 Q) := id rfl
@[simp ↓] theorem wFldS_eq {f : Str} {o e : WE} {D : Dn} {ρ : Ev} {S : Sto} : wFldS f o e D ρ S = e ρ S (fun x S1 => o ρ S1 fun d S2 => onInsK S2 d fun p fs => fs.length < 100 ∧ D.nx ρ (sset S2 p (.ins (putFD f x fs)))) := id rfl
@[simp ↓] theorem wMeth_eq {m : Str} {sp : Ds} {o : WE} {t : WA} {ρ : Ev} {S : Sto} {Q : QE} : wMeth m sp o t ρ S Q = o ρ S (fun d S1 => onInsK S1 d fun _ fs => fs.lookup m = none ∧ t ρ S1 fun ds S2 => sp (d :: ds) S2 Q) := id rfl
@[simp ↓] theorem wMake_eq {sp : Ds} {t : WA} {ρ : Ev} {S : Sto} {Q : QE} : wMake sp t ρ S Q = t ρ S (fun ds S1 => ∀ p, S1 p = none → sp (.ref p :: ds) (sset S1 p (.ins [])) fun d S2 => d = .non ∧ Q (.ref p) S2) := id rfl
noncomputable def forG (i : Nat) (b : WS) (D : Dn) (src : Dv) (all : List Dv) : List Dv → Ev → Sto → Prop
  | [], ρ, S => D.nx ρ S
  | x :: r, ρ, S => b { D with nx := fun ρ1 S1 => rdL S1 src = some all ∧ forG i b D src all r ρ1 S1, ct := fun ρ1 S1 => rdL S1 src = some all ∧ forG i b D src all r ρ1 S1, bk := D.nx } (ρ.set i (some x)) S
noncomputable def wForG (i : Nat) (src : WE) (b : WS) : WS := fun D ρ S => src ρ S fun d S1 => goL (rdL S1 d) fun xs => forG i b D d xs xs ρ S1
theorem lift_forG {K : PySem.W.Frag} {i : Nat} {src : WE} {b : WS} (D : Ends) (σ : L2.St) (H : Hp) (h : lS K (wForG i src b) D σ H) : tFor (iList K (lE K src)) (gName i) (lS K b) D σ H := by
  obtain ⟨ρ, S, D', env, st, hw, dn⟩ := h
  refine ⟨ρ, S, _, env, st, hw, fun d S1 v H1 q e st1 hd => ?_⟩
  obtain ⟨ds, hds, q⟩ := goL_inv q
  obtain ⟨a, vs, rfl, hq, hv⟩ := rdL_ok st1 hd hds
  refine ⟨a, rfl, ⟨vs, hq⟩, ?_⟩
  have stay : ∀ {S2 : Sto} {H2 : Hp}, StOk K H2 S2 → Ext H1 H2 → rdL S2 d = some ds → ∃ ws, SqL K H2 a ws ∧ dens K H2 ds ws := fun {S2 H2} st2 e2 r2 => by
    obtain ⟨a', ws, e', h1, h2⟩ := rdL_ok st2 (den_ext e2 _ _ hd) r2
    cases e'
    exact ⟨ws, h1, h2⟩
  refine ⟨fun j m σ2 H2 => m = ds.length - j ∧ j ≤ ds.length ∧ LoopAt K H1 (fun ρ2 S2 => rdL S2 d = some ds ∧ forG i b D' d ds (ds.drop j) ρ2 S2) σ2 H2, ⟨ds.length, by simp, Nat.zero_le _, ρ, S1, env.ext e, st1, Ext.refl _, hds, q⟩, ?_⟩
  rintro j m σ2 H2 ⟨rfl, hj, ρ2, S2, env2, st2, e2, r2, q2⟩
  obtain ⟨ws, h1, h2⟩ := stay st2 e2 r2
  by_cases hlt : j < ds.length
  · have hy : ds[j]? = some ds[j] := List.getElem?_eq_getElem hlt
    obtain ⟨x, hx, dx⟩ := dens_get h2 hy
    rw [drop_cons' hy] at q2
    refine .inr ⟨⟨ws, x, h1, hx⟩, fun σ3 H3 => LoopAt K H1 (fun ρ2 S2 => rdL S2 d = some ds ∧ forG i b D' d ds (ds.drop (j + 1)) ρ2 S2) σ3 H3, fun σ3 H3 p3 => ⟨ds.length - (j + 1), by omega, rfl, hlt, p3⟩, fun x' H' y => ?_⟩
    obtain ⟨eH, y⟩ := y
    subst eH
    have ex : x' = x := by
      have z := y ws h1
      rw [hx] at z
      exact (Option.some.inj z).symm
    subst ex
    refine ⟨ρ2.set i (some ds[j]), S2, _, env2.set dx, st2, q2, ⟨?_, ?_, ?_, ?_⟩⟩
    · exact fun ρ3 S3 σ3 H3 q3 e3 env3 st3 => ⟨ρ3, S3, env3, st3, e2.trans e3, q3.1, q3.2⟩
    · exact fun d S3 v H3 q3 e3 st3 hd => dn.rt d S3 v H3 q3 ((e.trans e2).trans e3) st3 hd
    · exact fun ρ3 S3 σ3 H3 q3 e3 env3 st3 => dn.nx ρ3 S3 σ3 H3 q3 ((e.trans e2).trans e3) env3 st3
    · exact fun ρ3 S3 σ3 H3 q3 e3 env3 st3 => ⟨ρ3, S3, env3, st3, e2.trans e3, q3.1, q3.2⟩
  · rw [List.drop_eq_nil_of_le (by omega)] at q2
    exact .inl ⟨⟨ws, h1, by rw [dens_len h2]; omega⟩, dn.nx ρ2 S2 σ2 H2 q2 (e.trans e2) env2 st2⟩
theorem ds_forG {X : Cx} {i : Nat} {x : Str} {iter : Expr} {body : List Stmt} {src : WE} {tb : WS} {pos px : Pos} (hp : PassesOwn (model X.prog X.w) X.A X.env X.xe) (hN : X.N.Nodup) (hi : DE X iter src) (hb : DSs X body tb) (hc : X.calm = true := by rfl)
    (hix : X.N[i]? = some x := by rfl) (hx : Loc X.env.scope x := by first | exact Or.inl rfl | exact Or.inr rfl) (hf : X.fn x = true ∨ X.env.scope.names.lookup x = some .local := by first | exact .inl rfl | exact .inr rfl | assumption)
    (hs : ∀ x, foldedSetIterable iter X.env x = pure x := by intro _; rfl) : DS X (.For (.Name x px) iter body [] pos) (wForG i src tb) :=
  PS.weak (ps_for hp hc (pi_list hi) (pg_name hN hix hx hf) hb hs) lift_forG
@[simp ↓] theorem wForG_eq {i : Nat} {src : WE} {b : WS} {D : Dn} {ρ : Ev} {S : Sto} : wForG i src b D ρ S = src ρ S (fun d S1 => goLK (rdL S1 d) fun xs => forG i b D d xs xs ρ S1) := id rfl
section
variable {X : Cx}
theorem kit_of {pins : List (Addr × Obj)} {σ : L2.St} {H : Hp} {s : Shared} {S : Sto} {d : Dv} {x : V} {u : Value} {t : String} (I : L2.Inv X pins σ H s) (st : StOk X.K H S) (hd : den X.K H d x) (ru : RelV x u) (ht : tyD' S d = some t) :
    ∃ HH, PySem.W.KitX X.K u (.type t) HH ∧ HH s.heap ∧ u ≠ .builtin "__main__.__loader__#opaque" := by
  have kt : ∀ {HH : Heap → Prop} {t' : String} {u' : Value}, PySem.W.KitX X.K u' (.type t') HH → HH s.heap → u' ≠ .builtin "__main__.__loader__#opaque" → ∃ HH, PySem.W.KitX X.K u' (.type t') HH ∧ HH s.heap ∧ u' ≠ .builtin "__main__.__loader__#opaque" := fun a b c => ⟨_, a, b, c⟩
  cases d with
  | non => cases ht; cases (show x = .non from hd); cases ru; exact kt PySem.W.kitx_none True.intro (fun z => nomatch z)
  | bl y => cases ht; cases (show x = .bl y from hd); cases ru; exact kt PySem.W.kitx_bool True.intro (fun z => nomatch z)
  | int y => cases ht; cases (show x = .int y from hd); obtain ⟨tt, rfl⟩ := ru; exact kt PySem.W.kitx_int True.intro (fun z => nomatch z)
  | str y => cases ht; cases (show x = .str y from hd); obtain ⟨tt, rfl⟩ := ru; exact kt PySem.W.kitx_str True.intro (fun z => nomatch z)
  | tup ds =>
    cases ht
    obtain ⟨a, vs, rfl, h1, h2⟩ := rD_tup hd
    cases ru
    obtain ⟨its, _, ⟨o, e1, e2, _⟩, _⟩ := I.tuple h1
    exact kt PySem.W.kitx_tuple ⟨o, e1, e2⟩ (fun z => nomatch z)
  | lst ds =>
    cases ht
    obtain ⟨a, o, vs, rfl, h1, h2⟩ := rD_lst hd
    cases ru
    obtain ⟨its, _, ⟨o, k, e1, e2, _⟩, _⟩ := I.list (.inl (.inr ⟨o, h1⟩))
    exact kt PySem.W.kitx_list ⟨o, e1, e2⟩ (fun z => nomatch z)
  | scr ds =>
    cases ht
    obtain ⟨a, rfl, h1⟩ := rD_scr hd
    cases ru
    obtain ⟨its, _, ⟨o, k, e1, e2, _⟩, _⟩ := I.list h1.sq
    exact kt PySem.W.kitx_list ⟨o, e1, e2⟩ (fun z => nomatch z)
  | ref a =>
    cases (show x = .ref a from hd)
    have e2 : (match S a with
      | some (.lst _) => some "list"
      | _ => none) = some t := ht
    split at e2
    · rename_i ds hs
      cases e2
      obtain ⟨vs, h1, h2⟩ := st a _ hs
      cases ru
      obtain ⟨its, _, ⟨o, k, e1, e2, _⟩, _⟩ := I.list (.inl (.inl h1))
      exact kt PySem.W.kitx_list ⟨o, e1, e2⟩ (fun z => nomatch z)
    · cases e2
noncomputable def isP (S : Sto) (d : Dv) : Option Dv := (tyD' S d).bind fun t => match kit t "list", kit t "tuple" with
  | some a, some b => some (.bl (a || b))
  | _, _ => none
noncomputable def wIsP (w : WE) : WE := fun ρ S Q => w ρ S fun d S1 => go (isP S1 d) S1 Q
inductive rIsP (K : PySem.W.Frag) (xs : List V) (H : Hp) (Q : VK) : Prop
  | mk (S : Sto) (x : V) (d : Dv) (b : Bool) (tp : Addr) (ex : xs = [x, .ref tp]) (ht : H tp = some (.tup [.ty "list", .ty "tuple"])) (st : StOk K H S) (hd : den K H d x) (hi : isP S d = some (.bl b)) (q : Q (.bl b) H) : rIsP K xs H Q
theorem isP_inv {S : Sto} {d e : Dv} (h : isP S d = some e) : ∃ t a b, tyD' S d = some t ∧ kit t "list" = some a ∧ kit t "tuple" = some b ∧ e = .bl (a || b) := by
  unfold isP at h
  cases h1 : tyD' S d with
  | none => rw [h1] at h; cases h
  | some t =>
    rw [h1] at h
    have h' : (match kit t "list", kit t "tuple" with
      | some a, some b => some (Dv.bl (a || b))
      | _, _ => none) = some e := h
    split at h'
    · rename_i a b e1 e2; cases h'; exact ⟨t, a, b, rfl, e1, e2, rfl⟩
    · cases h'
theorem c_isp : CallR X (.builtin "isinstance") (rIsP X.K) := by
  intro pins s σ H xs us Q I r ⟨S, x, d, b, tp, ex, htp, st, hd, he, q⟩
  subst ex
  obtain ⟨u, c, rfl, ru, rc⟩ := r.two
  obtain rfl : c = Value.ref tp := rc
  obtain ⟨t, a1, b1, ht, hk1, hk2, eb⟩ := isP_inv he
  cases eb
  obtain ⟨HH, Z, p, hx⟩ := kit_of I st hd ru ht
  obtain ⟨its, rv, ⟨⟨cls, dd, data, sl⟩, h1, h2, n, h3⟩, _⟩ := I.tuple (.inl (.inl htp))
  obtain ⟨c1, c2, rfl, rc1, rc2⟩ := rv.two
  obtain rfl : c1 = Value.type "list" := rc1
  obtain rfl : c2 = Value.type "tuple" := rc2
  simp only at h2 h3
  subst h2 h3
  refine PySem.W.kia_tup Z I.kIn p h1 (b := a1 || b1) ?_ hx fun tk => ⟨.bl _, H, I.tok tk, rfl, q⟩
  simp only [PySem.W.kitAny, kit_ok hk1, kit_ok hk2]
  cases a1 <;> cases b1 <;> rfl
theorem de_isp {e : Expr} {w : WE} {p q1 q2 pos tpos : Pos} {x1} (hm : X.mg "isinstance" = none) (hT1 : X.mg "list" = none) (hT2 : X.mg "tuple" = none) (he : DE X e w) (hg : Gl X "isinstance" := by rfl) (hg1 : Gl X "list" := by rfl) (hg2 : Gl X "tuple" := by rfl)
    (hv : bootBuiltins "isinstance" = some (.builtin "isinstance") := by decide +kernel)
    (hs : starEach (e :: [.Tuple [.Name "list" q1, .Name "tuple" q2] x1 tpos]) X.env = (false, eval e X.env) :: starEach [.Tuple [.Name "list" q1, .Name "tuple" q2] x1 tpos] X.env := by rfl) (hpl : (backTo pos (starEach [.Tuple [.Name "list" q1, .Name "tuple" q2] x1 tpos] X.env)).any (·.1) = false := by rfl) :
    DE X (.Call (.Name "isinstance" p) [e, .Tuple [.Name "list" q1, .Name "tuple" q2] x1 tpos] [] pos) (wIsP w) :=
  PE.weak (pe_callB c_isp hg hm hv (pa_cons he (pa_cons (pe_tup (pa_cons (pe_bltn hg1 hT1 boot_list_ (v := .ty "list") rfl (by decide) (by decide)) (pa_cons (pe_bltn hg2 hT2 boot_tuple_ (v := .ty "tuple") rfl (by decide) (by decide)) pa_nil))) pa_nil) hs) (by decide) (by decide) hs hpl) fun σ H Q ⟨ρ, S, Q', env, st, hw, post⟩ => ⟨ρ, S, _, env, st, hw, fun d S1 v H1 q1 e1 st1 hd => by
    obtain ⟨z, hz, q⟩ := go_inv q1
    obtain ⟨t, a1, b1, _, _, _, ez⟩ := isP_inv hz
    subst ez
    refine ⟨by show 2 ≤ sizeLine; decide, fun tp htp => ?_⟩
    have sm := same_new htp (.tup [.ty "list", .ty "tuple"])
    exact ⟨S1, v, d, _, tp, rfl, upd_same, st1.same sm, den_ext (ext_same sm) _ _ hd, hz, post (.bl _) S1 _ _ q (e1.trans (ext_same sm)) (st1.same sm) rfl⟩⟩
end
@[simp ↓] theorem wIsP_eq {w : WE} {ρ : Ev} {S : Sto} {Q : QE} : wIsP w ρ S Q = w ρ S (fun d S1 => goK (isP S1 d) S1 Q) := id rfl
section
variable {X : Cx}
end
section
variable {X : Cx} {elt iter : Expr} {x : Str} {px pos : Pos} {ifs : List Expr} {sc : Scope} {src : WE} {wt : WT} {we : WE}
end
end MQ
namespace MQ
open PySem PySem.Spec PyProof.Rows L2
noncomputable def handFs (n : Int) (rows : List Rw) (ss : List Slip) : List (Str × Dv) := [("number", .int n), ("rows", .lst (rows.map rowD)), ("slips", .lst (ss.map slipD))]
theorem ne_rn : (("rows" : Str) == "number") = false := by decide +kernel
theorem ne_sn : (("slips" : Str) == "number") = false := by decide +kernel
theorem ne_sr : (("slips" : Str) == "rows") = false := by decide +kernel
section
variable {n : Int} {rows rows' : List Rw} {ss ss' : List Slip}
@[simp] theorem lk_number : (handFs n rows ss).lookup ("number" : Str) = some (.int n) := by unfold handFs; rw [List.lookup_cons, beq_self_eq_true]
@[simp] theorem lk_rows : (handFs n rows ss).lookup ("rows" : Str) = some (.lst (rows.map rowD)) := by unfold handFs; rw [List.lookup_cons, ne_rn, List.lookup_cons, beq_self_eq_true]
@[simp] theorem lk_slips : (handFs n rows ss).lookup ("slips" : Str) = some (.lst (ss.map slipD)) := by unfold handFs; rw [List.lookup_cons, ne_sn, List.lookup_cons, ne_sr, List.lookup_cons, beq_self_eq_true]
@[simp] theorem hf_len : (handFs n rows ss).length = 3 := rfl
@[simp] theorem hf_rows : putFD "rows" (.lst (rows'.map rowD)) (handFs n rows ss) = handFs n rows' ss := by
  unfold handFs
  have h1 : ¬ (("number" : Str) = "rows") := by decide +kernel
  show (if ("number" : Str) = "rows" then _ else _) = _
  rw [if_neg h1]
  show _ :: (if ("rows" : Str) = "rows" then _ else _) = _
  rw [if_pos rfl]
@[simp] theorem hf_slips : putFD "slips" (.lst (ss'.map slipD)) (handFs n rows ss) = handFs n rows ss' := by
  unfold handFs
  have h1 : ¬ (("number" : Str) = "slips") := by decide +kernel
  have h2 : ¬ (("rows" : Str) = "slips") := by decide +kernel
  show (if ("number" : Str) = "slips" then _ else _) = _
  rw [if_neg h1]
  show _ :: (if ("rows" : Str) = "slips" then _ else _) = _
  rw [if_neg h2]
  show _ :: _ :: (if ("slips" : Str) = "slips" then _ else _) = _
  rw [if_pos rfl]
theorem lk_m {m : Str} (h1 : (m == "number") = false) (h2 : (m == "rows") = false) (h3 : (m == "slips") = false) : (handFs n rows ss).lookup m = none := by
  unfold handFs; rw [List.lookup_cons, h1, List.lookup_cons, h2, List.lookup_cons, h3]; rfl
@[simp] theorem lk_hear : (handFs n rows ss).lookup ("hear" : Str) = none := lk_m (by decide +kernel) (by decide +kernel) (by decide +kernel)
@[simp] theorem lk_hear_all : (handFs n rows ss).lookup ("hear_all" : Str) = none := lk_m (by decide +kernel) (by decide +kernel) (by decide +kernel)
@[simp] theorem lk_write : (handFs n rows ss).lookup ("write" : Str) = none := lk_m (by decide +kernel) (by decide +kernel) (by decide +kernel)
@[simp] theorem lk_rub : (handFs n rows ss).lookup ("rub" : Str) = none := lk_m (by decide +kernel) (by decide +kernel) (by decide +kernel)
end
theorem sset_id {S : Sto} {a : Addr} {o : Ob} (h : S a = some o) : sset S a o = S := by
  funext b
  unfold sset
  by_cases e : b = a
  · rw [if_pos e, e, h]
  · rw [if_neg e]
theorem rdL_other {S : Sto} {a : Addr} {o : Ob} {L : Dv} (h : L ≠ .ref a) : rdL (sset S a o) L = rdL S L := by
  cases L with
  | ref b =>
    have hb : b ≠ a := fun e => h (by rw [e])
    unfold rdL
    simp only [sset_ne hb]
  | _ => rfl
theorem deq_slip (a b : Slip) : deq (slipD a) (slipD b) = true ↔ a = b := by
  cases a with
  | put t b' x =>
    cases b with
    | put u c y =>
      have e : deq (slipD (.put t b' x)) (slipD (.put u c y)) = ((("put" : Str) == "put") && ((t.1 == u.1 && (t.2 == u.2 && true)) && ((b'.1 == c.1 && (b'.2 == c.2 && true)) && (x == y && true)))) := rfl
      rw [e]
      obtain ⟨t1, t2⟩ := t
      obtain ⟨u1, u2⟩ := u
      obtain ⟨b1, b2⟩ := b'
      obtain ⟨c1, c2⟩ := c
      simp
    | cut u =>
      have e : deq (slipD (.put t b' x)) (slipD (.cut u)) = ((("put" : Str) == "cut") && ((t.1 == u.1 && (t.2 == u.2 && true)) && false)) := rfl
      rw [e]
      simp
  | cut t =>
    cases b with
    | put u c y =>
      have e : deq (slipD (.cut t)) (slipD (.put u c y)) = ((("cut" : Str) == "put") && ((t.1 == u.1 && (t.2 == u.2 && true)) && false)) := rfl
      rw [e]
      simp
    | cut u =>
      have e : deq (slipD (.cut t)) (slipD (.cut u)) = ((("cut" : Str) == "cut") && ((t.1 == u.1 && (t.2 == u.2 && true)) && true)) := rfl
      rw [e]
      obtain ⟨t1, t2⟩ := t
      obtain ⟨u1, u2⟩ := u
      simp
theorem pur_slip {s : Slip} (h : okSl s) : pur (slipD s) = true := by
  cases s with
  | put t b x => exact pur_put h
  | cut t =>
    unfold pur slipD
    simp [noRef, noRefs, dP, dPs, SeqAt.shaped]
    refine ⟨?_, rfl⟩
    show (PyData.strOk ("cut" : Str) && (true && true)) = true
    rw [ok_cut]; rfl
theorem noRefs_slips : ∀ ss : List Slip, noRefs (ss.map slipD) = true
  | [] => rfl
  | s :: ss => by
    show (noRef (slipD s) && noRefs (ss.map slipD)) = true
    rw [noRefs_slips ss]; cases s <;> rfl
theorem lay_slips : ∀ ss : List Slip, (∀ s ∈ ss, okSl s) → PyData.canLayAll0 (dPs (ss.map slipD)) = true ∧ PyData.depthAll (dPs (ss.map slipD)) ≤ 2
  | [], _ => ⟨rfl, by simp [dPs, PyData.depthAll]⟩
  | s :: ss, h => by
    obtain ⟨h1, h2⟩ := lay_slips ss fun q hq => h q (List.mem_cons_of_mem _ hq)
    have hs := h s List.mem_cons_self
    refine ⟨?_, ?_⟩
    · rw [List.map_cons, dPs, PyData.canLayAll0, h1, Bool.and_true]
      cases s with
      | put t b x =>
        show (PyData.strOk ("put" : Str) && (true && (true && (PyData.strOk x && true)))) = true
        rw [show PyData.strOk x = true from hs, ok_put]; rfl
      | cut t =>
        show (PyData.strOk ("cut" : Str) && (true && true)) = true
        rw [ok_cut]; rfl
    · rw [List.map_cons, dPs, PyData.depthAll]
      refine Nat.max_le.mpr ⟨?_, h2⟩
      cases s with
      | put t b x => exact Nat.le_refl 2
      | cut t => exact Nat.le_refl 2
theorem pur_slips {ss : List Slip} (h : ∀ s ∈ ss, okSl s) : pur (.lst (ss.map slipD)) = true := by
  obtain ⟨h1, h2⟩ := lay_slips ss h
  have e1 : noRef (.lst (ss.map slipD)) = true := noRefs_slips ss
  have e2 : SeqAt.shaped (dP (.lst (ss.map slipD))) = true := by
    show (PyData.canLayAll0 (dPs (ss.map slipD)) && decide (PyData.depthAll (dPs (ss.map slipD)) + 1 ≤ 64)) = true
    rw [h1, decide_eq_true (by omega)]; rfl
  show (noRef (.lst (ss.map slipD)) && SeqAt.shaped (dP (.lst (ss.map slipD)))) = true
  rw [e1, e2]; rfl
noncomputable instance : DecidableEq Slip := fun a b => if h : deq (slipD a) (slipD b) = true then isTrue ((deq_slip a b).mp h) else isFalse fun e => h ((deq_slip a b).mpr e)
theorem in_slips : ∀ (ss : List Slip) (s : Slip), inP (dPs (ss.map slipD)) (dP (slipD s)) = decide (s ∈ ss)
  | [], s => by simp [inP, dPs]
  | t :: ss, s => by
    have ih := in_slips ss s
    unfold inP at ih ⊢
    rw [List.map_cons, dPs, List.any_cons, ih]
    have e : (PyData.eqv (dP (slipD t)) (dP (slipD s)) = true) ↔ t = s := deq_slip t s
    rw [Bool.eq_iff_iff]
    simp only [Bool.or_eq_true, decide_eq_true_eq, List.mem_cons]
    rw [e]
    constructor
    · rintro (h | h)
      · exact .inl h.symm
      · exact .inr h
    · rintro (h | h)
      · exact .inl h.symm
      · exact .inr h
theorem oIn_slips {S : Sto} {ss : List Slip} {s : Slip} (h1 : okSl s) (h2 : ∀ s ∈ ss, okSl s) : oIn S (slipD s) (.lst (ss.map slipD)) = some (decide (s ∈ ss)) := by
  show (if (pur (slipD s) && pur (.lst (ss.map slipD))) = true then some (inP (dPs (ss.map slipD)) (dP (slipD s))) else none) = _
  rw [pur_slips h2, pur_slip h1, in_slips]
  exact if_pos rfl
structure Okh (rows : List Rw) (ss : List Slip) : Prop where
  len : rows.length ≤ 5000
  len2 : ss.length ≤ 5000
  ok : okS rows
  oks : ∀ s ∈ ss, okSl s
noncomputable def sp_Hand_init : Ds := fun ds S Q => ∃ (a : Addr) (n : Int), ds = [.ref a, .int n] ∧ S a = some (.ins []) ∧ Q .non (sset S a (.ins (handFs n [] [])))
theorem ln_Hand_init : ∀ ds S Q, sp_Hand_init ds S Q → ds.length = 2 := by rintro _ S Q ⟨_, _, rfl, _⟩; rfl
noncomputable def sp_Hand_hear : Ds := fun ds S Q => ∃ (a : Addr) (n : Int) (rows : List Rw) (ss : List Slip) (s : Slip), ds = [.ref a, slipD s] ∧ S a = some (.ins (handFs n rows ss)) ∧ Okh rows ss ∧ okSl s ∧ (s ∈ ss → Q (.bl false) S) ∧
  (s ∉ ss → ∃ rows', hrdF rows s = some rows' ∧ Q (.bl true) (sset S a (.ins (handFs n rows' (ss ++ [s])))))
theorem ln_Hand_hear : ∀ ds S Q, sp_Hand_hear ds S Q → ds.length = 2 := by rintro _ S Q ⟨_, _, _, _, _, rfl, _⟩; rfl
inductive HA : List Rw → List Slip → List Slip → List Rw → List Slip → Nat → Prop
  | nil {rows : List Rw} {ss : List Slip} : HA rows ss [] rows ss 0
  | old {rows rows' : List Rw} {ss ss' r : List Slip} {s : Slip} {k : Nat} : Okh rows ss → okSl s → s ∈ ss → HA rows ss r rows' ss' k → HA rows ss (s :: r) rows' ss' k
  | new {rows r1 rows' : List Rw} {ss ss' r : List Slip} {s : Slip} {k : Nat} : Okh rows ss → okSl s → s ∉ ss → hrdF rows s = some r1 → HA r1 (ss ++ [s]) r rows' ss' k → HA rows ss (s :: r) rows' ss' (k + 1)
noncomputable def sp_Hand_hear_all : Ds := fun ds S Q => ∃ (a : Addr) (L : Dv) (n : Int) (rows : List Rw) (ss r : List Slip) (rows' : List Rw) (ss' : List Slip) (k : Nat), ds = [.ref a, L] ∧ S a = some (.ins (handFs n rows ss)) ∧ rdL S L = some (r.map slipD) ∧ L ≠ .ref a ∧ HA rows ss r rows' ss' k ∧
  Q (.int k) (sset S a (.ins (handFs n rows' ss')))
theorem ln_Hand_hear_all : ∀ ds S Q, sp_Hand_hear_all ds S Q → ds.length = 2 := by rintro _ S Q ⟨_, _, _, _, _, _, _, _, _, rfl, _⟩; rfl
noncomputable def rubT (rows : List Rw) (p m : Nat) : List Tag := (((there rows).map Rw.tag).drop p).take m
noncomputable def cutsOf (ts : List Tag) : List Slip := ts.map .cut
noncomputable def sp_Hand_write : Ds := fun ds S Q => ∃ (a : Addr) (n : Int) (rows : List Rw) (ss : List Slip) (p : Nat) (z : Str) (rows' : List Rw) (ss' : List Slip) (k : Nat), ds = [.ref a, .int p, .str z] ∧ S a = some (.ins (handFs n rows ss)) ∧ rows.length ≤ 1000 ∧ z.length ≤ 1000 ∧
  HA rows ss (putsOf (most rows + 1) n (ahead rows p) (chs z)) rows' ss' k ∧ Q (.lst ((putsOf (most rows + 1) n (ahead rows p) (chs z)).map slipD)) (sset S a (.ins (handFs n rows' ss')))
theorem ln_Hand_write : ∀ ds S Q, sp_Hand_write ds S Q → ds.length = 3 := by rintro _ S Q ⟨_, _, _, _, _, _, _, _, _, rfl, _⟩; rfl
noncomputable def w_Hand_init : WS :=
  (wSeq (wFldS "number" (wVar 0) (wVar 1))
  (wSeq (wFldS "rows" (wVar 0) (wLst wNil))
  (wFldS "slips" (wVar 0) (wLst wNil))))
theorem w_Hand_init_e {D : Dn} {ρ : Ev} {S : Sto} : w_Hand_init D ρ S =
  (wSeq (wFldS "number" (wVar 0) (wVar 1))
  (wSeq (wFldS "rows" (wVar 0) (wLst wNil))
  (wFldS "slips" (wVar 0) (wLst wNil)))) D ρ S := id rfl
noncomputable def w_Hand_hear : WS :=
  (wSeq (wIf (wCmp oIn (wVar 1) (wFld "slips" (wVar 0)))
  (wRet (wC (.bl false)))
  wNext)
  (wSeq (wFldS "rows" (wVar 0) (wCall sp_heard (wCons (wFld "rows" (wVar 0)) (wCons (wVar 1) wNil))))
  (wSeq (wFldS "slips" (wVar 0) (wOp oAdd (wFld "slips" (wVar 0)) (wLst (wCons (wVar 1) wNil))))
  (wRet (wC (.bl true))))))
theorem w_Hand_hear_e {D : Dn} {ρ : Ev} {S : Sto} : w_Hand_hear D ρ S =
  (wSeq (wIf (wCmp oIn (wVar 1) (wFld "slips" (wVar 0)))
  (wRet (wC (.bl false)))
  wNext)
  (wSeq (wFldS "rows" (wVar 0) (wCall sp_heard (wCons (wFld "rows" (wVar 0)) (wCons (wVar 1) wNil))))
  (wSeq (wFldS "slips" (wVar 0) (wOp oAdd (wFld "slips" (wVar 0)) (wLst (wCons (wVar 1) wNil))))
  (wRet (wC (.bl true)))))) D ρ S := id rfl
noncomputable def wb_Hand_hear_all_0 : WS :=
  (wIf (wTest (wMeth "hear" sp_Hand_hear (wVar 0) (wCons (wVar 3) wNil)))
  (wSet 2 (wOp oAdd (wVar 2) (wC (.int 1))))
  wNext)
theorem wb_Hand_hear_all_0_e {D : Dn} {ρ : Ev} {S : Sto} : wb_Hand_hear_all_0 D ρ S =
  (wIf (wTest (wMeth "hear" sp_Hand_hear (wVar 0) (wCons (wVar 3) wNil)))
  (wSet 2 (wOp oAdd (wVar 2) (wC (.int 1))))
  wNext) D ρ S := id rfl
noncomputable def w_Hand_hear_all : WS :=
  (wSeq (wSet 2 (wC (.int 0)))
  (wSeq (wForG 3 (wVar 1)
  wb_Hand_hear_all_0)
  (wRet (wVar 2))))
theorem w_Hand_hear_all_e {D : Dn} {ρ : Ev} {S : Sto} : w_Hand_hear_all D ρ S =
  (wSeq (wSet 2 (wC (.int 0)))
  (wSeq (wForG 3 (wVar 1)
  wb_Hand_hear_all_0)
  (wRet (wVar 2)))) D ρ S := id rfl
noncomputable def w_Hand_write : WS :=
  (wSeq (wSet 3 (wCall sp_written (wCons (wFld "rows" (wVar 0)) (wCons (wFld "number" (wVar 0)) (wCons (wVar 1) (wCons (wVar 2) wNil))))))
  (wSeq (wDrop (wMeth "hear_all" sp_Hand_hear_all (wVar 0) (wCons (wVar 3) wNil)))
  (wRet (wVar 3))))
theorem w_Hand_write_e {D : Dn} {ρ : Ev} {S : Sto} : w_Hand_write D ρ S =
  (wSeq (wSet 3 (wCall sp_written (wCons (wFld "rows" (wVar 0)) (wCons (wFld "number" (wVar 0)) (wCons (wVar 1) (wCons (wVar 2) wNil))))))
  (wSeq (wDrop (wMeth "hear_all" sp_Hand_hear_all (wVar 0) (wCons (wVar 3) wNil)))
  (wRet (wVar 3)))) D ρ S := id rfl
theorem ok_Hand_init : ∀ ds S Q, sp_Hand_init ds S Q → w_Hand_init { nx := fun _ S' => Q .non S', rt := Q } (ent 2 ds) S := by
  rintro _ S Q ⟨a, n, rfl, hS, q⟩
  have e1 : putFD "number" (.int n) [] = [(("number" : Str), Dv.int n)] := rfl
  have e2 : putFD "rows" (.lst []) [(("number" : Str), Dv.int n)] = [(("number" : Str), Dv.int n), (("rows" : Str), Dv.lst [])] := by
    show (if ("number" : Str) = "rows" then _ else _) = _
    rw [if_neg (by decide +kernel)]; rfl
  have e3 : putFD "slips" (.lst []) [(("number" : Str), Dv.int n), (("rows" : Str), Dv.lst [])] = handFs n [] [] := by
    show (if ("number" : Str) = "slips" then _ else _) = _
    rw [if_neg (by decide +kernel)]
    show _ :: (if ("rows" : Str) = "slips" then _ else _) = _
    rw [if_neg (by decide +kernel)]; rfl
  simp [w_Hand_init_e, ent, onIns_at hS, e1, e2, e3, sset_sset]
  exact q
theorem ok_Hand_hear : ∀ ds S Q, sp_Hand_hear ds S Q → w_Hand_hear { nx := fun _ S' => Q .non S', rt := Q } (ent 2 ds) S := by
  rintro _ S Q ⟨a, n, rows, ss, s, rfl, hS, oh, oks, q1, q2⟩
  have ein : ∀ S : Sto, oIn S (slipD s) (.lst (ss.map slipD)) = some (decide (s ∈ ss)) := fun S => oIn_slips oks oh.oks
  by_cases hm : s ∈ ss
  · simp [w_Hand_hear_e, ent, onIns_at hS, ein, hm]
    exact q1 hm
  · obtain ⟨rows', hr, q⟩ := q2 hm
    simp [w_Hand_hear_e, ent, onIns_at hS, ein, hm]
    refine ⟨rows, s, rows', rfl, by have := oh.len; omega, oh.ok, oks, hr, ?_⟩
    have hl := oh.len2
    have ead : ∀ S : Sto, oAdd S (.lst (ss.map slipD)) (.lst [slipD s]) = some (.lst (ss.map slipD ++ [slipD s])) := fun S => by
      refine oAdd_lst ?_
      rw [List.length_map]
      show _ + 1 ≤ lim
      unfold lim; omega
    have ef : putFD "slips" (.lst (ss.map slipD ++ [slipD s])) (handFs n rows' ss) = handFs n rows' (ss ++ [s]) := by
      have z := hf_slips (n := n) (rows := rows') (ss := ss) (ss' := ss ++ [s])
      rw [List.map_append] at z
      exact z
    simp [onIns_at hS, ead, ef, sset_sset]
    exact q
theorem all_turns {D : Dn} {S : Sto} {a : Addr} {n : Int} {L : Dv} {all : List Dv} (hL : L ≠ .ref a) (hrd : rdL S L = some all) {rows rows' : List Rw} {ss ss' r : List Slip} {k : Nat} (h : HA rows ss r rows' ss' k) : ∀ (c : Nat) (x1 x3 : Option Dv), (∀ y3, D.nx [some (.ref a), x1, some (.int ((c + k : Nat) : Int)), y3] (sset S a (.ins (handFs n rows' ss')))) →
    forG 3 wb_Hand_hear_all_0 D L all (r.map slipD) [some (.ref a), x1, some (.int (c : Int)), x3] (sset S a (.ins (handFs n rows ss))) := by
  induction h with
  | nil => intro c x1 x3 fin; exact fin x3
  | @old rows rows' ss ss' r s k oh oks hm t ih =>
    intro c x1 x3 fin
    have step := ih c x1 (some (slipD s)) fin
    show wb_Hand_hear_all_0 { D with nx := fun ρ1 S1 => rdL S1 L = some all ∧ forG 3 wb_Hand_hear_all_0 D L all (r.map slipD) ρ1 S1, ct := fun ρ1 S1 => rdL S1 L = some all ∧ forG 3 wb_Hand_hear_all_0 D L all (r.map slipD) ρ1 S1, bk := D.nx } [some (.ref a), x1, some (.int (c : Int)), some (slipD s)] (sset S a (.ins (handFs n rows ss)))
    generalize forG 3 wb_Hand_hear_all_0 D L all (r.map slipD) = N at step ⊢
    simp [wb_Hand_hear_all_0_e]
    refine ⟨a, n, rows, ss, s, rfl, sset_same, oh, oks, fun _ => ?_, fun z => absurd hm z⟩
    simp [rdL_other hL, hrd]
    exact step
  | @new rows r1 rows' ss ss' r s k oh oks hm hr t ih =>
    intro c x1 x3 fin
    have step := ih (c + 1) x1 (some (slipD s)) (fun y3 => by rw [show c + 1 + k = c + (k + 1) by omega]; exact fin y3)
    have ec : ((c + 1 : Nat) : Int) = (c : Int) + 1 := by omega
    rw [ec] at step
    show wb_Hand_hear_all_0 { D with nx := fun ρ1 S1 => rdL S1 L = some all ∧ forG 3 wb_Hand_hear_all_0 D L all (r.map slipD) ρ1 S1, ct := fun ρ1 S1 => rdL S1 L = some all ∧ forG 3 wb_Hand_hear_all_0 D L all (r.map slipD) ρ1 S1, bk := D.nx } [some (.ref a), x1, some (.int (c : Int)), some (slipD s)] (sset S a (.ins (handFs n rows ss)))
    generalize forG 3 wb_Hand_hear_all_0 D L all (r.map slipD) = N at step ⊢
    simp [wb_Hand_hear_all_0_e]
    refine ⟨a, n, rows, ss, s, rfl, sset_same, oh, oks, fun z => absurd z hm, fun _ => ⟨r1, hr, ?_⟩⟩
    simp [sset_sset, rdL_other hL, hrd]
    exact step
theorem ok_Hand_hear_all : ∀ ds S Q, sp_Hand_hear_all ds S Q → w_Hand_hear_all { nx := fun _ S' => Q .non S', rt := Q } (ent 4 ds) S := by
  rintro _ S Q ⟨a, L, n, rows, ss, r, rows', ss', k, rfl, hS, hrd, hL, h, q⟩
  simp [w_Hand_hear_all_e, ent, hrd]
  have z := all_turns (D := { nx := fun ρ S' => wRet (wVar 2) { nx := fun _ S' => Q .non S', rt := Q } ρ S', rt := Q }) (S := S) (n := n) hL hrd h 0 (some L) none (fun y3 => by simp; exact q)
  rw [sset_id hS] at z
  exact z
theorem cut_midG {α : Type} {f : α → Dv} {l : List α} {p m : Nat} : cutD (l.map f) (some (p : Int)) (some ((p : Int) + (m : Int))) = ((l.drop p).take m).map f := by
  unfold cutD
  rw [show (p : Int) + (m : Int) = ((p + m : Nat) : Int) by omega, HT.sIx_nat, HT.sIx_nat, List.length_map, ← List.map_drop, ← List.map_take]
  congr 1
  rcases Nat.le_total p l.length with h | h
  · rw [Nat.min_eq_left h]
    rcases Nat.le_total (p + m) l.length with h2 | h2
    · rw [Nat.min_eq_left h2, show p + m - p = m by omega]
    · rw [Nat.min_eq_right h2, List.take_of_length_le (by rw [List.length_drop]; omega), List.take_of_length_le (by rw [List.length_drop]; omega)]
  · rw [Nat.min_eq_right h, List.drop_eq_nil_of_le (Nat.le_refl _), List.drop_eq_nil_of_le h]; simp
theorem cutc_cmp {S : Sto} {Q : List Dv → Sto → Prop} : ∀ (ts : List Tag) (acc : List Dv), Q (acc ++ (cutsOf ts).map slipD) S → cmpL wYes (wTup (wCons (wC (.str "cut")) (wCons (wVar 0) wNil))) (ts.map tagD) S acc Q
  | [], acc, q => by simpa [cmpL, cutsOf] using q
  | t :: ts, acc, q => by
    have z := cutc_cmp (S := S) (Q := Q) ts (acc ++ [slipD (.cut t)]) (by
      have e : cutsOf (t :: ts) = .cut t :: cutsOf ts := rfl
      rw [e] at q
      simpa using q)
    simp [cmpL]
    exact z
theorem ok_Hand_write : ∀ ds S Q, sp_Hand_write ds S Q → w_Hand_write { nx := fun _ S' => Q .non S', rt := Q } (ent 4 ds) S := by
  rintro _ S Q ⟨a, n, rows, ss, p, z, rows', ss', k, rfl, hS, hl, hz, h, q⟩
  simp [w_Hand_write_e, ent, onIns_at hS]
  refine ⟨rows, n, p, z, rfl, hl, hz, ?_⟩
  simp [onIns_at hS]
  refine ⟨a, _, n, rows, ss, putsOf (most rows + 1) n (ahead rows p) (chs z), rows', ss', k, rfl, hS, rdL_lst, (fun e => by cases e), h, ?_⟩
  simp
  exact q
noncomputable def dd : List Slip → List Slip → List Slip
  | ss, [] => ss
  | ss, s :: r => if s ∈ ss then dd ss r else dd (ss ++ [s]) r
theorem dd_mem : ∀ (r ss : List Slip) (x : Slip), x ∈ dd ss r ↔ x ∈ ss ∨ x ∈ r
  | [], ss, x => by simp [dd]
  | s :: r, ss, x => by
    unfold dd
    split
    · rename_i h
      rw [dd_mem r ss x, List.mem_cons]
      constructor
      · rintro (z | z)
        · exact .inl z
        · exact .inr (.inr z)
      · rintro (z | z | z)
        · exact .inl z
        · rw [z]; exact .inl h
        · exact .inr z
    · rw [dd_mem r _ x, List.mem_append, List.mem_singleton, List.mem_cons, or_assoc]
theorem Fit.okSl {U : Slip → Prop} (F : Fit U) {s : Slip} (h : U s) : okSl s := by
  cases s with
  | put t b x => exact (F.put t b x h).2.2
  | cut t => trivial
theorem HA.of {U : Slip → Prop} (F : Fit U) : ∀ (r : List Slip) (rows : List Rw) (ss d : List Slip), Hrd U rows ss → (∀ x ∈ d, x ∈ ss) → (∀ s ∈ r, U s) → Cz d r → ss.length + r.length ≤ 5000 → ∃ rows' k, HA rows ss r rows' (dd ss r) k ∧ Hrd U rows' (dd ss r)
  | [], rows, ss, d, h, _, _, _, _ => ⟨rows, 0, .nil, h⟩
  | s :: r, rows, ss, d, h, hd, hu, cz, hl => by
    rw [List.length_cons] at hl
    have us := hu s List.mem_cons_self
    have oh : Okh rows ss := ⟨by have := h.len; omega, by omega, h.ok, fun x hx => F.okSl (h.all x hx)⟩
    obtain ⟨c1, c2⟩ := cz
    by_cases hm : s ∈ ss
    · obtain ⟨rows', k, a1, a2⟩ := HA.of F r rows ss (d ++ [s]) h (fun x hx => by
        rcases List.mem_append.mp hx with z | z
        · exact hd x z
        · rw [List.mem_singleton.mp z]; exact hm) (fun q hq => hu q (List.mem_cons_of_mem _ hq)) c2 (by omega)
      have e : dd ss (s :: r) = dd ss r := if_pos hm
      rw [e]
      exact ⟨rows', k, .old oh (F.okSl us) hm a1, a2⟩
    · obtain ⟨r1, e1, h1⟩ := h.step F us (okAt_mono hd c1)
      obtain ⟨rows', k, a1, a2⟩ := HA.of F r r1 (ss ++ [s]) (d ++ [s]) h1 (fun x hx => by
        rcases List.mem_append.mp hx with z | z
        · exact List.mem_append_left _ (hd x z)
        · exact List.mem_append_right _ z) (fun q hq => hu q (List.mem_cons_of_mem _ hq)) c2 (by rw [List.length_append, List.length_singleton]; omega)
      have e : dd ss (s :: r) = dd (ss ++ [s]) r := if_neg hm
      rw [e]
      exact ⟨rows', k + 1, .new oh (F.okSl us) hm e1 a1, a2⟩
end MQ
namespace MQ
open PySem PySem.Spec PyProof.Rows L2
structure Fly (X : Cx) (pins : List (Addr × Obj)) (B : Heap) (H : Hp) (e C t : Addr) (h : Heap) : Prop where
  fl : Heap.FlyingW B X.stack e (.ref C) (.ref t) h
  tr : ∀ b u o, H b = some u → h.get? b = some o → B.get? b = some o
  old : ∀ b o0 o, X.s₀.heap.get? b = some o0 → b ∉ X.ex → b ∉ frs X.stack → h.get? b = some o → B.get? b = some o
  pn : ∀ p ∈ X.pn ++ pins, B.get? p.1 = some p.2
noncomputable def CXV (P : Program) (w : World) : CXT := fun outer H s E e s' => ∃ (a C t : Addr) (B : Heap) (H' : Hp), e = .ref a ∧ E (.ref C) none H' ∧ s'.os = s.os ∧ AllBare s'.gens ∧ Un (frs outer) [] H H' s.heap s'.heap ∧ HOk P w H' s'.heap ∧
  Heap.FlyingW B outer a (.ref C) (.ref t) s'.heap ∧ (∀ b u o, H' b = some u → s'.heap.get? b = some o → B.get? b = some o) ∧ ∀ b o0 o, s.heap.get? b = some o0 → b ∉ frs outer → s'.heap.get? b = some o → B.get? b = some o
structure Wants (m : Bool) (X : Cx) (W : Value → L2.St → Hp → Prop) : Prop where
  fly : ∀ (pins : List (Addr × Obj)) (σ : L2.St) (H : Hp) (s : Shared) (e C t : Addr) (B : Heap), Inv X pins σ H s → Fly X pins B H e C t s.heap → W (.ref C) σ H → X.xe (.ref e) s
  made : m = true → ∀ (pins : List (Addr × Obj)) (σ : L2.St) (H : Hp) (s : Shared) (h' : Heap) (e C : Addr) (vs : List Value), Inv X pins σ H s → Heap.MadeExcOf s.heap h' e (.ref C) vs → W (.ref C) σ H → X.xe (.ref e) { s with heap := h' }
theorem objok_there {P : Program} {w : World} {H : Hp} {h : Heap} {a : Addr} {o : HO} (x : ObjOk P w H h a o) (q : h.get? a = none) : False := by
  cases o with
  | lst xs => obtain ⟨_, _, _, _, e⟩ := x; rw [q] at e; cases e
  | tup xs => obtain ⟨_, _, _, ob, e, _⟩ := x; rw [q] at e; cases e
  | dK kvs => obtain ⟨_, _, _, _, o, _, _, e, _⟩ := x; rw [q] at e; cases e
  | dT kvs => obtain ⟨_, _, _, _, o, _, _, e, _⟩ := x; rw [q] at e; cases e
  | set S n => obtain ⟨o, _, _, _, e, _⟩ := x; rw [q] at e; cases e
  | ins C dx fs => obtain ⟨_, _, _, e, _⟩ := x; rw [q] at e; cases e
  | own y => obtain ⟨_, e⟩ := x; rw [q] at e; cases e
  | xd fs => obtain ⟨_, ⟨_, _, _, e, _⟩, _⟩ := x; rw [q] at e; cases e
  | rng lo hi => obtain ⟨_, _, _, e⟩ := x; rw [q] at e; cases e
  | frz ob u => obtain ⟨e, _⟩ := x; rw [q] at e; cases e
  | tbl ps => have e : h.get? a = some _ := x; rw [q] at e; cases e
  | met f y => have e : h.get? a = some _ := x; rw [q] at e; cases e
  | ext φ => obtain ⟨_, ⟨_, e⟩, _⟩ := x; rw [q] at e; cases e
theorem passV {m : Bool} {X : Cx} {W : Value → L2.St → Hp → Prop} (hw : Wants m X W) {pins : List (Addr × Obj)} {σ : L2.St} {H : Hp} {s s' : Shared} {e : Value} (I : Inv X pins σ H s)
    (h : CXV X.prog X.w X.stack H s (fun c _ H => W c σ H) e s') : X.xe e s' := by
  obtain ⟨a, C, t, B, H', ee, hE, os, bare, un, hok, fl, tr, old⟩ := h
  subst ee
  obtain ⟨hh, g, d, tk, os'⟩ := s'
  obtain rfl : os' = s.os := os
  have I' : Inv X pins σ H' { s with heap := hh, gens := g, drawn := d, toks := tk } := I.call (h' := hh) (g' := g) (d' := d) (t' := tk) (ch := []) un hok bare (fun b z => absurd z (by simp))
  refine hw.fly pins σ H' _ a C t B I' ⟨fl, tr, fun b o0 o h0 hx hb ho => ?_, fun p hp => ?_⟩ hE
  · obtain ⟨o1, h1⟩ := I.base.there b o0 h0 hx
    exact old b o1 o h1 hb ho
  · obtain ⟨h1, _, h3, h4, _⟩ := I.pin p hp
    refine old p.1 p.2 p.2 h1 (fun z => ?_) (I'.pin p hp).1
    rcases List.mem_cons.mp (I.stkSub p.1 z) with z | z
    · exact h3 z
    · exact h4 z
section
variable {P : Program} {w : World} {K : PySem.W.Frag} {mg : Str → Option Value} {base : Heap} {N : List Str} {qual : Str} {scope : Scope} {f : Addr} {cd : Value} {A : Around} {outer : List Env} {s : Shared} {H : Hp} {E : XK}
theorem left_ok {pins : List (Addr × Obj)} {σ : L2.St} {H' : Hp} {s1 : Shared} {h' B : Heap} {e C t : Addr} (I : Inv (cxOf (CXV P w) P w K mg base N qual scope f cd A outer s H E) pins σ H' s1)
    (hB : ∀ b o0 o, s.heap.get? b = some o0 → b ∉ frs (cxOf (CXV P w) P w K mg base N qual scope f cd A outer s H E).stack → s1.heap.get? b = some o → B.get? b = some o) (hT : ∀ b u o, H' b = some u → s1.heap.get? b = some o → B.get? b = some o)
    (fl : Heap.FlyingW B outer e (.ref C) (.ref t) h') (up : s1.heap.UpToSlots h') (hE : E (.ref C) none H') : CXV P w outer H s E (.ref e) { s1 with heap := h' } := by
  have st : B.StaysIn h' := fl.1
  have nofr : ∀ b o0, s.heap.get? b = some o0 → b ∉ frs outer → b ∉ frs (cxOf (CXV P w) P w K mg base N qual scope f cd A outer s H E).stack := fun b o0 h0 hb z => by
    rcases List.mem_cons.mp (I.stkSub b z) with z | z
    · have := Heap.lt_size h0
      have hab : s.heap.objs.size ≤ (cxOf (CXV P w) P w K mg base N qual scope f cd A outer s H E).env.locals := I.ok.above
      rw [← z] at hab
      exact absurd this (Nat.not_lt.mpr hab)
    · exact hb z
  have nox : ∀ b : Addr, b ∉ (cxOf (CXV P w) P w K mg base N qual scope f cd A outer s H E).ex := fun b z => absurd (show b ∈ ([] : List Addr) from z) (by simp)
  refine ⟨e, C, t, B, H', rfl, hE, I.os, I.bare, ⟨fun b o e0 n hb _ => ?_, fun b o e0 n hb _ => ?_, fun b o e0 n _ => I.base.free b o e0 n (nox b), fun b o e0 _ => ?_, I.base.tups, I.base.frzs, I.base.tbls⟩, ?_, fl, fun b u o hu ho => ?_, fun b o0 o h0 hb ho => ?_⟩
  · exact st b o (hB b o o e0 (nofr b o e0 hb) (I.base.keep b o e0 n hb (nox b)))
  · obtain ⟨sl, h1⟩ := I.base.slot b o e0 n hb (nox b)
    obtain ⟨_, o', ho', hd⟩ := I.ok.funs.mem hb
    rw [show (cxOf (CXV P w) P w K mg base N qual scope f cd A outer s H E).s₀.heap.get? b = s.heap.get? b from rfl, e0] at ho'
    cases ho'
    obtain ⟨sl', h2⟩ := up b _ h1 hd
    exact ⟨sl', h2⟩
  · obtain ⟨o1, h1⟩ := I.base.there b o e0 (nox b)
    by_cases hb : b ∈ frs outer
    · obtain ⟨_, o', ho', hd⟩ := I.ok.funs.mem hb
      have hn := I.ok.frf b hb
      obtain ⟨sl, h2⟩ := I.base.slot b o e0 hn hb (nox b)
      rw [show (cxOf (CXV P w) P w K mg base N qual scope f cd A outer s H E).s₀.heap.get? b = s.heap.get? b from rfl, e0] at ho'
      cases ho'
      obtain ⟨sl', h3⟩ := up b _ h2 hd
      exact ⟨_, h3⟩
    · exact ⟨o1, st b o1 (hB b o o1 e0 (nofr b o e0 hb) h1)⟩
  · intro b u hu
    refine (I.hok b u hu).stay (fun c v hc q => ?_) (fun c hc => hc) fun c xs hc => hc
    rcases hc with hc | hc
    · rw [hc] at q ⊢; exact st b v (hT b u v hu q)
    · exact st c v (hT c _ v hc q)
  · obtain ⟨o1, h1⟩ : ∃ o1, s1.heap.get? b = some o1 := by
      have := (I.hok b u hu).lt
      cases q : s1.heap.get? b with
      | some o1 => exact ⟨o1, rfl⟩
      | none =>
        exfalso
        have z := (I.hok b u hu)
        exact objok_there z q
    have hb1 := hT b u o1 hu h1
    have := st b o1 hb1
    rw [show ({ s1 with heap := h' } : Shared).heap.get? b = h'.get? b from rfl] at ho
    rw [this] at ho
    cases ho
    exact hb1
  · obtain ⟨o1, h1⟩ := I.base.there b o0 h0 (nox b)
    have hb1 := hB b o0 o1 h0 (nofr b o0 h0 hb) h1
    have := st b o1 hb1
    rw [show ({ s1 with heap := h' } : Shared).heap.get? b = h'.get? b from rfl] at ho
    rw [this] at ho
    cases ho
    exact hb1
theorem wants_def : Wants true (cxOf (CXV P w) P w K mg base N qual scope f cd A outer s H E) (fun c _ H' => E c none H') where
  fly := fun pins σ H' s1 e C t B I fl hE => by
    have nox : ∀ b : Addr, b ∉ (cxOf (CXV P w) P w K mg base N qual scope f cd A outer s H E).ex := fun b z => absurd (show b ∈ ([] : List Addr) from z) (by simp)
    exact wpAny_leaves_onW (L := s.heap.objs.size) I.ok.frames rfl fl.fl fun h' fl' up => left_ok I (fun b o0 o h0 hb ho => fl.old b o0 o h0 (nox b) hb ho) fl.tr fl' up hE
  made := fun _ pins σ H' s1 h1 e C vs I mk hE => by
    have fr : ∀ b u, H' b = some u → b ∉ frs (cxOf (CXV P w) P w K mg base N qual scope f cd A outer s H E).stack := fun b u hu hb => by rw [I.stkFree b hb] at hu; cases hu
    have I1 : Inv (cxOf (CXV P w) P w K mg base N qual scope f cd A outer s H E) pins σ H' { s1 with heap := h1 } := I.kept (t' := s1.toks) mk.keeps
    have nox : ∀ b : Addr, b ∉ (cxOf (CXV P w) P w K mg base N qual scope f cd A outer s H E).ex := fun b z => absurd (show b ∈ ([] : List Addr) from z) (by simp)
    refine wpAny_leaves_madeW (s := { s1 with heap := h1 }) (base := PySem.W.hideAll s1.heap (frs (cxOf (CXV P w) P w K mg base N qual scope f cd A outer s H E).stack)) (L := s.heap.objs.size) I.ok.frames rfl (fun b o q => PySem.W.of_hideAll _ q)
      (PySem.W.funFrames_hide I.stack fun env he b hb => List.mem_filterMap.mpr ⟨env, he, hb⟩) mk fun h' t fl _ _ up => ?_
    refine left_ok I1 (fun b o0 o h0 hb ho => ?_) (fun b u o hu ho => ?_) fl up hE
    · obtain ⟨o1, h2⟩ := I.base.there b o0 h0 (nox b)
      have h3 := mk.keeps b o1 h2
      rw [show ({ s1 with heap := h1 } : Shared).heap.get? b = h1.get? b from rfl, h3] at ho
      cases ho
      exact PySem.W.hideAll_get _ h2 hb
    · cases q : s1.heap.get? b with
      | none => exact (objok_there (I.hok b u hu) q).elim
      | some o1 =>
        have h3 := mk.keeps b o1 q
        rw [show ({ s1 with heap := h1 } : Shared).heap.get? b = h1.get? b from rfl, h3] at ho
        cases ho
        exact PySem.W.hideAll_get _ q (fr b u hu)
end
noncomputable abbrev XQ := Str → Ev → Sto → Prop
noncomputable abbrev WX := Ev → Sto → XQ → Prop
noncomputable abbrev DsX := List Dv → Sto → (Str → Sto → Prop) → Prop
inductive lX (K : PySem.W.Frag) (mg : Str → Option Value) (wx : WX) (σ : L2.St) (H : Hp) (W : Value → L2.St → Hp → Prop) : Prop
  | mk (ρ : Ev) (S : Sto) (E : XQ) (env : EnvOk K H ρ σ) (st : StOk K H S) (hw : wx ρ S E) (post : ∀ nm ρ' S' σ' H' c, E nm ρ' S' → Ext H H' → EnvOk K H' ρ' σ' → StOk K H' S' → mg nm = some c → W c σ' H') : lX K mg wx σ H W
noncomputable def DEx (m : Bool) (X : Cx) (e : Expr) (wx : WX) : Prop := ∀ W, Wants m X W → PE X e (fun σ H _ => lX X.K X.mg wx σ H W)
noncomputable def DX (m : Bool) (X : Cx) (st : Stmt) (wx : WX) : Prop := ∀ W, Wants m X W → PS X st (fun _ σ H => lX X.K X.mg wx σ H W)
noncomputable def DXs (m : Bool) (X : Cx) (sts : List Stmt) (wx : WX) : Prop := ∀ W, Wants m X W → PSs X sts (fun _ σ H => lX X.K X.mg wx σ H W)
inductive lSpX (K : PySem.W.Frag) (mg : Str → Option Value) (sp : DsX) (vs : List V) (H : Hp) (Q : VK) (E : XK) : Prop
  | mk (ds : List Dv) (S : Sto) (E' : Str → Sto → Prop) (hds : dens K H ds vs) (st : StOk K H S) (hs : sp ds S E') (post : ∀ nm S' H' c, E' nm S' → Ext H H' → StOk K H' S' → mg nm = some c → E c none H') : lSpX K mg sp vs H Q E
structure HasX (P : Program) (w : World) (K : PySem.W.Frag) (mg : Str → Option Value) (base : Heap) (k : Nat) (x : Str) (ps : List Str) (sp : DsX) : Prop where
  ex : ∃ (f : Addr) (fd : FuncData), FnOk P w K mg base (CXV P w) k f fd ps (lSpX K mg sp) ∧ mg x = some (.ref f) ∧ PySem.W.keepIn K (.ref f) = true ∧ Binds K fd ps []
noncomputable def xCall (sp : DsX) (t : WA) : WX := fun ρ S E => t ρ S fun ds S1 => sp ds S1 fun nm S2 => E nm ρ S2
noncomputable def xSeq (a : WS) (b : WX) : WX := fun ρ S E => a { nx := fun ρ1 S1 => b ρ1 S1 E, rt := fun _ _ => False } ρ S
noncomputable def xIf (c : WT) (a b : WX) : WX := fun ρ S E => c ρ S fun t S1 => if t = true then a ρ S1 E else b ρ S1 E
noncomputable def xNo : WX := fun _ _ _ => False
noncomputable def xRaise (nm : Str) : WX := fun ρ S E => E nm ρ S
section
variable {X : Cx} {m : Bool}
theorem lX.ext {K : PySem.W.Frag} {mg : Str → Option Value} {wx : WX} {σ : L2.St} {H H0 : Hp} {ρ : Ev} {S : Sto} {E : XQ} {W : Value → L2.St → Hp → Prop} (env : EnvOk K H ρ σ) (st : StOk K H S) (hw : wx ρ S E) (e : Ext H0 H)
    (post : ∀ nm ρ' S' σ' H' c, E nm ρ' S' → Ext H0 H' → EnvOk K H' ρ' σ' → StOk K H' S' → mg nm = some c → W c σ' H') : lX K mg wx σ H W := ⟨ρ, S, E, env, st, hw, fun nm ρ' S' σ' H' c q e' en' st' hm => post nm ρ' S' σ' H' c q (e.trans e') en' st' hm⟩
theorem run_fnX {k : Nat} {f : Addr} {fd : FuncData} {ps : List Str} {sp : Sp} {W : Value → L2.St → Hp → Prop} {pins : List (Addr × Obj)} {σ : L2.St} {H : Hp} {s : Shared} {Q : VK} {us : List Value} {vs : List V} (hw : Wants m X W)
    (F : FnOk X.prog X.w X.K X.mg X.base (CXV X.prog X.w) k f fd ps sp) (hr : Room k X.A) (hb : Binds X.K fd ps []) (I : Inv X pins σ H s) (r : Vals vs us) (h : sp vs H Q (fun c _ H => W c σ H)) :
    wpAny (model X.prog X.w) X.A (call (.ref f) us) (EP X pins σ Q) X.xe s := by
  have hl : us.length = ps.length := by rw [← r.length]; exact F.len _ _ _ _ h
  have hb' : BindsTo s fd ⟨us, []⟩ (ps.zip us) := by
    have z := hb s us I.kIn (by rw [List.append_nil]; exact hl)
    rw [List.append_nil] at z
    exact z
  refine wpAny_call (codeAny_mono (F.run X.A X.stack s H ⟨us, []⟩ us vs Q (fun c _ H => W c σ H) hr I.env0 hb' r h) fun r s' hq => ?_)
  cases r with
  | error e => exact passV hw I hq
  | ok fl =>
    cases fl with
    | ret u => exact I.after hq
    | next => exact False.elim hq
    | brk => exact False.elim hq
    | cont => exact False.elim hq
theorem PA.nox {es : List Expr} {t : TA} (h : PA X.nox es t) : PA X es t := fun pos pins s σ H Q I hw =>
  wpAny_mono (h pos pins s σ H Q (I.wish _) hw) (fun _ _ ⟨v, H', I', r, q⟩ => ⟨v, H', I'.unwish, r, q⟩) fun _ _ z => False.elim z
theorem PS.nox {st : Stmt} {t : TS} (h : PS X.nox st t) : PS X st t := fun pins s σ H D I hw =>
  wpAny_mono (h pins s σ H D (I.wish _) hw) (fun _ _ q => q.unwish) fun _ _ z => False.elim z
theorem dxe_call {k : Nat} {x : Str} {ps : List Str} {sp : DsX} {p pos : Pos} {e : Expr} {es : List Expr} {t : WA} (G : HasX X.prog X.w X.K X.mg X.base k x ps sp) (hr : Room k X.A) (ha : DA X.nox (e :: es) t) (hg : Gl X x := by rfl) (hdb : (x == ("__debug__" : Str)) = false := by decide)
    (he : starEach (e :: es) X.env = (false, eval e X.env) :: starEach es X.env := by rfl) (hpl : (backTo pos (starEach es X.env)).any (·.1) = false := by rfl) : DEx m X (.Call (.Name x p) (e :: es) [] pos) (xCall sp t) := by
  intro W hw pins s σ H Q I ⟨ρ, S, E, env, st, hx, post⟩
  obtain ⟨f, fd, F, hm, hk, hb⟩ := G.ex
  refine wpAny_Call_Name_kw (ld_glob I hg hm ?_ hdb)
  refine PySem.W.callWith_K (h₀ := X.base) I.ok.mod.kin hk (thn (PA.nox ha pos pins s σ H (fun vs H1 => lSpX X.K X.mg sp vs H1 Q (fun c _ H => W c σ H)) I ⟨ρ, S, _, env, st, hx, fun ds S1 vs H1 q e1 st1 hds => ?_⟩) fun us s1 ⟨vs, H1, I1, r, q⟩ => ⟨I1.kIn, ?_⟩) he hpl
  · exact ⟨ds, S1, _, hds, st1, q, fun nm S' H' c q' e' st' hm' => post nm ρ S' σ H' c q' (e1.trans e') (env.ext (e1.trans e')) st' hm'⟩
  · exact run_fnX hw F hr hb I1 r q
theorem dx_set {i : Nat} {x : Str} {e : Expr} {wx : WX} {pos pos' : Pos} (hN : X.N.Nodup) (he : DEx m X e wx) (hi : X.N[i]? = some x := by rfl) (hx : Loc X.env.scope x := by first | exact Or.inl rfl | exact Or.inr rfl) (hs : swapsWith e (some (.Name x pos')) pos.line X.env = pure false := by rfl)
    (hf : X.fn x = true ∨ X.env.scope.names.lookup x = some .local := by first | exact .inl rfl | exact .inr rfl | assumption) : DX m X (.Assign [.Name x pos'] e pos) wx := fun W hw => PS.weak (ps_set hN hi hx (he W hw) hs hf) fun D σ H h => h
theorem dx_ret {e : Expr} {wx : WX} {pos : Pos} (he : DEx m X e wx) : DX m X (.Return (some e) pos) wx := fun W hw => PS.weak (ps_ret (he W hw)) fun D σ H h => h
theorem dxs_here {st : Stmt} {rest : List Stmt} {wx : WX} (h : DX m X st wx) : DXs m X (st :: rest) wx := by
  intro W hw pins s σ H D I hx
  refine wpAny_execs_cons (thn (h W hw pins s σ H { nx := fun _ _ => False, rt := fun _ _ => False } I hx) fun f s1 q => ?_)
  cases f with
  | next => obtain ⟨_, _, _, q⟩ := q; exact q.elim
  | brk => obtain ⟨_, _, _, q⟩ := q; exact q.elim
  | cont => obtain ⟨_, _, _, q⟩ := q; exact q.elim
  | ret u => obtain ⟨_, _, _, _, _, q⟩ := q; exact q.elim
theorem dxs_then {st : Stmt} {rest : List Stmt} {ws : WS} {wx : WX} (h1 : DS X.nox st ws) (h2 : DXs m X rest wx) : DXs m X (st :: rest) (xSeq ws wx) := by
  intro W hw pins s σ H D I ⟨ρ, S, E, env, st, hx, post⟩
  refine wpAny_execs_cons (thn (PS.nox h1 pins s σ H { nx := fun σ1 H1 => lX X.K X.mg wx σ1 H1 W, rt := fun _ _ => False } I ⟨ρ, S, _, env, st, hx, ⟨fun ρ1 S1 σ1 H1 q e1 env1 st1 => lX.ext env1 st1 q e1 post, fun _ _ _ _ q _ _ _ => q, fun _ _ _ _ q _ _ _ => q, fun _ _ _ _ q _ _ _ => q⟩⟩) fun f s1 q => ?_)
  cases f with
  | next =>
    obtain ⟨σ1, H1, I1, q⟩ := q
    exact h2 W hw pins s1 σ1 H1 D I1 q
  | brk => obtain ⟨_, _, _, q⟩ := q; exact q.elim
  | cont => obtain ⟨_, _, _, q⟩ := q; exact q.elim
  | ret u => obtain ⟨_, _, _, _, _, q⟩ := q; exact q.elim
theorem dx_if {c : Expr} {a b : List Stmt} {tc : WT} {wa wb : WX} {pos : Pos} (hc : DT X.nox c tc) (ha : DXs m X a wa) (hb : DXs m X b wb) : DX m X (.If c a b pos) (xIf tc wa wb) := fun W hw =>
  PS.weak (ps_if (PT.nox hc) (ha W hw) (hb W hw)) fun D σ H ⟨ρ, S, E, env, st, hx, post⟩ => ⟨ρ, S, _, env, st, hx, fun t S1 H1 q e1 st1 => by
    cases t with
    | true => exact lX.ext (env.ext e1) st1 q e1 post
    | false => exact lX.ext (env.ext e1) st1 q e1 post⟩
theorem dxe_add {a b : Expr} {wx : WX} {wb : WE} {pos : Pos} (ha : DEx m X a wx) (hb : DE X.nox b wb) : DEx m X (.BinOp a .Add b pos) wx := fun W hw =>
  PE.weak (pe_op (v_add (X := X)) (ha W hw) (PE.nox hb)) fun σ H Q h => h
end
end MQ
namespace MQ
open PySem PySem.Spec PyProof.Rows L2
abbrev veTail : List Value := [.type "ValueError", .type "Exception", .type "BaseException", .type "object"]
structure OwnX (K : PySem.W.Frag) (mg : Str → Option Value) (x : Str) (C : Addr) : Prop where
  mg : mg x = some (.ref C)
  q : PySem.W.excIn K C veTail "ValueError.__new__" = true
theorem exc_obj {K : PySem.W.Frag} {h : Heap} {C : Addr} {bmB : List Value} {newId : String} (X : K.In h) (q : PySem.W.excIn K C bmB newId = true) :
    ∃ bm N nm qn bs hdct sn sub ab col dd k0 k1 k2 k3 k5 mN, h.get? C = some (excClassObj nm qn C N bs bm hdct sn sub ab col dd k0 k1 k2 k3 k5 newId) ∧ h.Ns N mN ∧ mN "__init__" = none ∧ OwnTail h bmB bm := by
  unfold PySem.W.excIn at q
  split at q
  · rename_i dd cd sl ho
    split at q
    · rename_i C' bm k0 k1 k2 k3 n k5 hm hs
      simp only [Bool.and_eq_true, beq_iff_eq, Bool.not_eq_true'] at q
      obtain ⟨⟨⟨⟨⟨rfl, rfl⟩, hdel⟩, ht⟩, hok⟩, hni⟩ := q
      obtain ⟨nm, bs, mro, ns, qn, hd, sn, sub, ab, col, del⟩ := cd
      dsimp only at hm hdel hok hni
      subst hm hdel
      have hsl : sl = #[k0, k1, k2, k3, some (.builtin n), k5] := by
        obtain ⟨l⟩ := sl
        simp only at hs
        rw [hs]
      subst hsl
      exact ⟨bm, ns, nm, qn, bs, hd, sn, sub, ab, col, dd, k0, k1, k2, k3, k5, _, X _ _ ho, .of_isNs (PySem.W.isNs_of_in X hok), PySem.W.nsMap_none_of_in X hok hni, PySem.W.tail_of_in X ht⟩
    · cases q
  · cases q
section
variable {X : Cx}
theorem dx_raise {x : Str} {C : Addr} {np cpos pos : Pos} {e : Expr} {d : Dv} (G : OwnX X.K X.mg x C) (hc : X.calm = true) (ha : DA X.nox [e] (wCons (wC d) wNil)) (hg : Gl X x := by rfl) (hdb : (x == ("__debug__" : Str)) = false := by decide)
    (he : starEach [e] X.env = (false, eval e X.env) :: starEach [] X.env := by rfl) (hpl : (backTo cpos (starEach [] X.env)).any (·.1) = false := by rfl) :
    DX true X (.Raise (some (.Call (.Name x np) [e] [] cpos)) none pos) (xRaise x) := by
  intro W hw pins s σ H D I ⟨ρ, S, E, env, st, hx, post⟩
  obtain ⟨tl, N, nm, q, bs, hdct, sn, sub, ab, col, dd, k0, k1, k2, k3, k5, mN, hC, hN, hni, T⟩ := exc_obj (h := X.base) I.mod.kin G.q
  refine wpAny_Raise_call_subT (C := C) (nm := nm) (q := q) (N := N) (bs := bs) (bm := tl) (hdct := hdct) (sn := sn) (sub := sub) (ab := ab) (col := col) (dd := dd) (k0 := k0) (k1 := k1) (k2 := k2) (k3 := k3) (k5 := k5)
    PySem.F.excBase_ValueError (mN := mN) (T.hasType PySem.F.excBase_ValueError.hasBase) (I.ok.hd hc) (by rw [he]; show (false || (backTo cpos (starEach [] X.env)).any (·.1)) = false; rw [hpl]; rfl) hni (ld_glob I hg G.mg ⟨rfl, ?_⟩ hdb)
  rw [he]
  have h1 := PA.nox ha cpos pins s σ H (fun vs H1 => vs.length ≤ sizeLine ∧ W (.ref C) σ H1) I ⟨ρ, S, (fun ds S1 => ds.length ≤ sizeLine ∧ E x ρ S1), env, st, ⟨by show 1 ≤ sizeLine; decide, hx⟩, fun ds S1 vs H1 ⟨q, q2⟩ e1 st1 hds => ⟨by rw [dens_len hds]; exact q, post x ρ S1 σ H1 _ q2 e1 (env.ext e1) st1 G.mg⟩⟩
  rw [he] at h1
  exact Calls.evalArgs_plain (wpAny_mono h1 (fun us s2 ⟨vs, H2, I2, r, ql, qW⟩ => ⟨rfl, by rw [← r.length]; exact ql, I2.bk _ _ hC, hN.keeps I2.bk, T.keeps I2.bk, fun h' a mk => hw.made rfl pins σ H2 s2 h' a C us I2 mk qW⟩) fun _ _ y => y)
end
section
variable {X : Cx} {pins : List (Addr × Obj)} {σ : L2.St} {H : Hp} {s : Shared} {e C t : Addr} {B h' : Heap}
theorem landed (hex : X.ex = []) (I : Inv X pins σ H s) (fl : Fly X pins B H e C t s.heap) (fl' : Heap.FlyingW B X.stack e (.ref C) (.ref t) h') (up : s.heap.UpToSlots h') : Inv X pins σ H { s with heap := h' } ∧ Fly X pins B H e C t h' := by
  have st : B.StaysIn h' := fl'.1
  have nox : ∀ b : Addr, b ∉ X.ex := fun b z => absurd (hex ▸ z : b ∈ ([] : List Addr)) (by simp)
  have nofr : ∀ b o0, X.s₀.heap.get? b = some o0 → b ∉ X.fs → b ∉ frs X.stack := fun b o0 h0 hb z => by
    rcases List.mem_cons.mp (I.stkSub b z) with z | z
    · have := Heap.lt_size h0
      have hab : X.s₀.heap.objs.size ≤ X.env.locals := I.ok.above
      rw [← z] at hab
      exact absurd this (Nat.not_lt.mpr hab)
    · exact hb z
  have trk : ∀ b u, H b = some u → ∃ o, s.heap.get? b = some o ∧ B.get? b = some o ∧ h'.get? b = some o := fun b u hu => by
    cases q : s.heap.get? b with
    | none => exact (objok_there (I.hok b u hu) q).elim
    | some o => exact ⟨o, rfl, fl.tr b u o hu q, st b o (fl.tr b u o hu q)⟩
  have cellUp : ∀ {c : Addr} {v : Option Value}, s.heap.IsCell c v → h'.IsCell c v := fun ⟨o, ho, hd⟩ => by
    obtain ⟨sl, h2⟩ := up _ o ho (fun vs q => by rw [hd] at q; cases q)
    exact ⟨_, h2, hd⟩
  have un : Un X.fs X.ex X.H₀ H X.s₀.heap h' := by
    refine ⟨fun b o e0 n hb _ => ?_, fun b o e0 n hb _ => ?_, fun b o e0 n _ => I.base.free b o e0 n (nox b), fun b o e0 _ => ?_, I.base.tups, I.base.frzs, I.base.tbls⟩
    · exact st b o (fl.old b o o e0 (nox b) (nofr b o e0 hb) (I.base.keep b o e0 n hb (nox b)))
    · obtain ⟨sl, h1⟩ := I.base.slot b o e0 n hb (nox b)
      obtain ⟨_, o', ho', hd⟩ := I.ok.funs.mem hb
      rw [e0] at ho'
      cases ho'
      obtain ⟨sl', h2⟩ := up b _ h1 hd
      exact ⟨sl', h2⟩
    · obtain ⟨o1, h1⟩ := I.base.there b o e0 (nox b)
      by_cases hb : b ∈ X.fs
      · obtain ⟨_, o', ho', hd⟩ := I.ok.funs.mem hb
        have hn := I.ok.frf b hb
        obtain ⟨sl, h2⟩ := I.base.slot b o e0 hn hb (nox b)
        rw [e0] at ho'
        cases ho'
        obtain ⟨sl', h3⟩ := up b _ h2 hd
        exact ⟨_, h3⟩
      · exact ⟨o1, st b o1 (fl.old b o o1 e0 (nox b) (nofr b o e0 hb) h1)⟩
  have hok : HOk X.prog X.w H h' := fun b u hu => by
    refine (I.hok b u hu).stay (fun c v hc q => ?_) (fun c hc => hc) fun c xs hc => hc
    rcases hc with hc | hc
    · rw [hc] at q ⊢; exact st b v (fl.tr b u v hu q)
    · exact st c v (fl.tr c _ v hc q)
  have loc : ∃ m, h'.Ns X.env.locals m ∧ ∀ (i : Nat) (x : Str) (v : V), X.N[i]? = some x → σ[i]? = some (some v) → Vis X.env.scope x → ∃ u, RelV v u ∧ Look X.env h' m x u := by
    obtain ⟨m, hn, hl⟩ := I.loc
    refine ⟨m, up.ns hn, fun i x v h1 h2 h3 => ?_⟩
    obtain ⟨u, r, lk⟩ := hl i x v h1 h2 h3
    rcases lk with lk | ⟨lk, c, hc, hcell⟩
    · exact ⟨u, r, .inl lk⟩
    · exact ⟨u, r, .inr ⟨lk, c, hc, cellUp hcell⟩⟩
  refine ⟨⟨I.ok, I.os, I.bare, un, loc, fun x c hc => ?_, I.free, I.freeC, fun p hp => ?_, hok, I.len⟩, fl', fun b u o hu ho => ?_, fun b o0 o h0 hx hb ho => ?_, fl.pn⟩
  · obtain ⟨v, q⟩ := I.cell x c hc
    exact ⟨v, cellUp q⟩
  · obtain ⟨_, h2⟩ := I.pin p hp
    exact ⟨st _ _ (fl.pn p hp), h2⟩
  · obtain ⟨o1, _, h2, h3⟩ := trk b u hu
    rw [h3] at ho
    cases ho
    exact h2
  · obtain ⟨o1, h1⟩ := I.base.there b o0 h0 hx
    have h2 := fl.old b o0 o1 h0 hx hb h1
    have h3 := st b o1 h2
    rw [h3] at ho
    cases ho
    exact h2
end
noncomputable abbrev Cx.mark (X : Cx) (e : Addr) : Cx := { X with A := X.A.mark (some (.ref e)), calm := false, xe := fun _ _ => False }
section
variable {X : Cx} {pins : List (Addr × Obj)} {σ : L2.St} {H : Hp} {s : Shared} {e : Addr}
theorem Inv.mark (I : Inv X pins σ H s) (e : Addr) : Inv (Cx.mark X e) pins σ H s :=
  ⟨⟨I.ok.mod, I.ok.kind, I.ok.glob, I.ok.blt, I.ok.above, I.ok.inj, I.ok.has, I.ok.cab, fun z => Bool.noConfusion z, I.ok.frames, I.ok.stk, I.ok.exf, I.ok.bs, I.ok.bsz, I.ok.noex, I.ok.exfs, I.ok.funs, I.ok.frf⟩, I.os, I.bare, I.base, I.loc, I.cell, I.free, I.freeC, I.pin, I.hok, I.len⟩
theorem Inv.unmark (ok : X.Ok) (I : Inv (Cx.mark X e) pins σ H s) : Inv X pins σ H s := ⟨ok, I.os, I.bare, I.base, I.loc, I.cell, I.free, I.freeC, I.pin, I.hok, I.len⟩
theorem SP.unmark {D : Ends} {f : Flow} {s' : Shared} (ok : X.Ok) (h : SP (Cx.mark X e) pins D f s') : SP X pins D f s' := by
  cases f with
  | next => obtain ⟨σ', H', I, q⟩ := h; exact ⟨σ', H', Inv.unmark ok I, q⟩
  | brk => obtain ⟨σ', H', I, q⟩ := h; exact ⟨σ', H', Inv.unmark ok I, q⟩
  | cont => obtain ⟨σ', H', I, q⟩ := h; exact ⟨σ', H', Inv.unmark ok I, q⟩
  | ret u => obtain ⟨v, σ', H', I, r, q⟩ := h; exact ⟨v, σ', H', Inv.unmark ok I, r, q⟩
end
structure Catch (K : PySem.W.Frag) (mg : Str → Option Value) (y : Str) (tab : List (Str × Bool)) : Prop where
  ex : ∃ c, mg y = some c ∧ ∀ nm b C, tab.lookup nm = some b → mg nm = some (.ref C) → PySem.W.exmOne K (.ref C) c = some b
noncomputable def hRun : List (List (Str × Bool) × WS) → Str → WS
  | [], _ => fun _ _ _ => False
  | (tab, w) :: r, nm => fun D ρ S => match tab.lookup nm with
    | some true => w D ρ S
    | some false => hRun r nm D ρ S
    | none => False
noncomputable def wTry (wb : WS) (wx : WX) (hs : List (List (Str × Bool) × WS)) : WS := fun D ρ S => wb D ρ S ∨ wx ρ S fun nm ρ' S' => hRun hs nm D ρ' S'
inductive HsOk (X : Cx) : List ExceptHandler → List (List (Str × Bool) × WS) → Prop
  | nil : HsOk X [] []
  | cons {y : Str} {tab : List (Str × Bool)} {w : WS} {b0 : Stmt} {suite : List Stmt} {p pos : Pos} {hs : List ExceptHandler} {ws : List (List (Str × Bool) × WS)} (c : Catch X.K X.mg y tab) (g : Gl X y) (hd : (y == ("__debug__" : Str)) = false)
      (h : ∀ e, DSs (Cx.mark X e) (b0 :: suite) w) (r : HsOk X hs ws) : HsOk X (.ExceptHandler (some (.Name y p)) none (b0 :: suite) pos :: hs) ((tab, w) :: ws)
noncomputable abbrev Cx.tr (X : Cx) (E : Value → Shared → Prop) (pn : List (Addr × Obj)) : Cx := { X with xe := E, pn := pn }
section
variable {X : Cx}
theorem handled {hs : List ExceptHandler} {ws : List (List (Str × Bool) × WS)} (h : HsOk X hs ws) (hex : X.ex = []) : ∀ {pins : List (Addr × Obj)} {σ : L2.St} {H : Hp} {s : Shared} {e C t : Addr} {B : Heap} {D : Ends} {D' : Dn} {ρ : Ev} {S : Sto} {nm : Str},
    Inv X pins σ H s → Fly X pins B H e C t s.heap → EnvOk X.K H ρ σ → StOk X.K H S → hRun ws nm D' ρ S → DnOk X.K H D' D → X.mg nm = some (.ref C) → wpAny (model X.prog X.w) X.A (handleBy (.ref e) X.env hs) (SP X pins D) X.xe s := by
  induction h with
  | nil => intro pins σ H s e C t B D D' ρ S nm I fl env st hr ends hm; exact hr.elim
  | @cons y tab w b0 suite p pos hs ws c g hd hh r ih =>
    intro pins σ H s e C t B D D' ρ S nm I fl env st hr ends hm
    obtain ⟨cy, hcy, htab⟩ := c.ex
    have LT : PySem.W.Looks (model X.prog X.w) s.heap (typeOf (.ref e)) (.ref C) := by
      obtain ⟨ob, hob, hc⟩ := fl.fl.there
      have z : PySem.W.Looks (model X.prog X.w) s.heap (typeOf (.ref e)) ob.cls := (PySem.W.Looks.ld hob).andThen .now
      rw [hc] at z
      exact z
    refine wpAny_handleBy_cons (codeAny_handlers_test (ld_glob (X := Cx.mark X e) (Inv.mark I e) g hcy ?_ hd)) (by intro q; cases q)
    unfold hRun at hr
    cases hl : tab.lookup nm with
    | none => rw [hl] at hr; exact hr.elim
    | some b =>
      rw [hl] at hr
      refine (PySem.W.exm_one I.kIn LT (htab nm b C hl hm)).here ?_
      cases b with
      | false => exact ih I fl env st hr ends hm
      | true =>
        refine codeAny_handlers_suite (lands_againW fl.fl fun h6 fl6 up6 => ?_)
        obtain ⟨I6, _⟩ := landed hex I fl fl6 up6
        exact wpAny_mono (hh e pins _ σ H D (Inv.mark I6 e) ⟨ρ, S, D', env, st, hr, ends⟩) (fun f s2 q => SP.unmark I6.ok q) fun _ _ z => z.elim
theorem ds_try {body : List Stmt} {h0 : ExceptHandler} {hs : List ExceptHandler} {ws : List (List (Str × Bool) × WS)} {wb : WS} {wx : WX} {pos : Pos} (hb : DSs X.nox body wb) (hx : ∀ E pn, DXs false (Cx.tr X E pn) body wx) (hh : HsOk X (h0 :: hs) ws)
    (hex : X.ex = [] := by rfl) (hst : X.stack = X.env :: X.outer := by rfl) (hfr : X.env.frame = some X.env.locals := by rfl) : DS X (.Try body (h0 :: hs) [] [] pos) (wTry wb wx ws) := by
  intro pins s σ H D I ⟨ρ, S, D', env, st, hw, ends⟩
  refine wpAny_Try_except ?_
  rcases hw with hw | hw
  · refine wpAny_mono (hb pins s σ H D (I.wish _) ⟨ρ, S, D', env, st, hw, ends⟩) (fun f s1 q => ?_) fun _ _ z => z.elim
    cases f with
    | next => exact wpAny_execs_nil (SP.unwish (f := .next) q)
    | brk => exact SP.unwish (f := .brk) q
    | cont => exact SP.unwish (f := .cont) q
    | ret u => exact SP.unwish (f := .ret u) q
  · let X1 := Cx.tr X (fun e s₁ => wpAny (model X.prog X.w) X.A (noteFrame e X.env) (fun _ s₂ => wpAny (model X.prog X.w) X.A (setFlight e none) (fun _ s₃ => wpAny (model X.prog X.w) X.A (handleBy e X.env (h0 :: hs)) (SP X pins D) X.xe s₃) X.xe s₂) X.xe s₁) (X.pn ++ pins)
    have okX := I.ok
    have I1 : Inv X1 [] σ H s := ⟨⟨I.ok.mod, I.ok.kind, I.ok.glob, I.ok.blt, I.ok.above, I.ok.inj, I.ok.has, I.ok.cab, I.ok.hd, I.ok.frames, I.ok.stk, I.ok.exf, I.ok.bs, I.ok.bsz, I.ok.noex, I.ok.exfs, I.ok.funs, I.ok.frf⟩, I.os, I.bare, I.base, I.loc, I.cell, I.free, I.freeC,
      fun p hp => I.pin p (by rwa [List.append_nil] at hp), I.hok, I.len⟩
    have wants : Wants false X1 (fun c σ' H' => ∃ nm ρ' S', X.mg nm = some c ∧ hRun ws nm D' ρ' S' ∧ EnvOk X.K H' ρ' σ' ∧ StOk X.K H' S' ∧ Ext H H') := by
      refine ⟨fun pins' σ' H' s' e C t B J fl ⟨nm, ρ', S', hm, hr, en', st', ex'⟩ => ?_, fun z => by cases z⟩
      have I' : Inv X pins σ' H' s' := ⟨okX, J.os, J.bare, J.base, J.loc, J.cell, J.free, J.freeC, fun p hp => J.pin p (List.mem_append_left _ hp), J.hok, J.len⟩
      have fl' : Fly X pins B H' e C t s'.heap := ⟨fl.fl, fl.tr, fl.old, fun p hp => fl.pn p (List.mem_append_left _ hp)⟩
      have f1 : Heap.FlyingW B (X.env :: X.outer) e (.ref C) (.ref t) s'.heap := hst ▸ fl'.fl
      show wpAny (model X.prog X.w) X.A (noteFrame (.ref e) X.env) _ X.xe s'
      refine wpAny_looks_onW (by rw [okX.frames, hst]) hfr f1 fun h4 held up4 => wpAny_landsW held fun h5 fl5 up5 => ?_
      obtain ⟨I5, fl5'⟩ := landed hex I' fl' (hst ▸ fl5) (up4.trans up5)
      exact handled hh hex I5 fl5' en' st' hr (ends.ext ex') hm
    refine wpAny_mono (hx _ _ _ wants [] s σ H { nx := fun _ _ => False, rt := fun _ _ => False } I1 ⟨ρ, S, _, env, st, hw, fun nm ρ' S' σ' H' c q ex en' st' hm => ⟨nm, ρ', S', hm, q, en', st', ex⟩⟩) (fun f s1 q => ?_) fun _ _ z => z
    cases f with
    | next => obtain ⟨_, _, _, q⟩ := q; exact q.elim
    | brk => obtain ⟨_, _, _, q⟩ := q; exact q.elim
    | cont => obtain ⟨_, _, _, q⟩ := q; exact q.elim
    | ret u => obtain ⟨_, _, _, _, _, q⟩ := q; exact q.elim
end
noncomputable abbrev cxV (P : Program) (w : World) (K : PySem.W.Frag) (mg : Str → Option Value) (base : Heap) (N : List Str) (qual : Str) (st : Stmt) (f : Addr) (cdv : Value) (A : Around) (outer : List Env) (s : Shared) (H : Hp) (E : XK) : Cx :=
  cxOf (CXV P w) P w K mg base N qual (defScope st) f cdv A outer s H E
section
variable {P : Program} {w : World} {K : PySem.W.Frag} {mg : Str → Option Value} {base : Heap}
theorem fnx_ok {x qual : Str} {st : Stmt} {f : Addr} {fd : FuncData} {N ps : List Str} {k : Nat} {sp : DsX} {wx : WX} (F : Fun K x qual st f fd) (S : FnScope N ps (defScope st))
    (len : ∀ ds S E, sp ds S E → ds.length = ps.length)
    (link : ∀ (cdv : Value) (A : Around) (outer : List Env) (s : Shared) (H : Hp) (E : XK), Room k (cxV P w K mg base N qual st f cdv A outer s H E).A → DXs true (cxV P w K mg base N qual st f cdv A outer s H E) (defBody st) wx)
    (ok : ∀ ds S E, sp ds S E → wx (ent N.length ds) S fun nm _ S' => E nm S') : FnOk P w K mg base (CXV P w) (k + 1) f fd ps (lSpX K mg sp) := by
  obtain ⟨oc, od, kV, doc, pm, an, cdv, ct, osl, rfl, lk, hcd⟩ := F.ex
  refine fn_of lk hcd S (fun vs H Q E h => ?_) fun A outer s H vs Q E hr h => ?_
  · obtain ⟨ds, S', E', h1, _, h2, _⟩ := h
    rw [dens_len h1]
    exact len ds S' E' h2
  · obtain ⟨ds, S', E', h1, h2, h3, h4⟩ := h
    exact ⟨_, link cdv A outer s H E hr _ wants_def, ent N.length ds, S', _, ent_ok h1, h2, ok ds S' E' h3, fun nm ρ' S2 σ' H' c q e _ st hm => h4 nm S2 H' c q e st hm⟩
theorem fnx_has {x : Str} {st : Stmt} {f : Addr} {fd : FuncData} {N ps : List Str} {k : Nat} {sp : DsX} {wx : WX} (F : Fun K x x st f fd) (hm : mg x = some (.ref f)) (hb : Binds K fd ps []) (S : FnScope N ps (defScope st))
    (len : ∀ ds S E, sp ds S E → ds.length = ps.length)
    (link : ∀ (cdv : Value) (A : Around) (outer : List Env) (s : Shared) (H : Hp) (E : XK), Room k (cxV P w K mg base N x st f cdv A outer s H E).A → DXs true (cxV P w K mg base N x st f cdv A outer s H E) (defBody st) wx)
    (ok : ∀ ds S E, sp ds S E → wx (ent N.length ds) S fun nm _ S' => E nm S') : HasX P w K mg base (k + 1) x ps sp := ⟨f, fd, fnx_ok F S len link ok, hm, F.kp, hb⟩
end
section
variable {X : Cx} {m : Bool}
theorem dx_fld {f : Str} {o e : Expr} {wo : WE} {wx : WX} {pos pos' : Pos} (ho : DE X.nox o wo) (he : DEx m X e wx) (hs : swapsWith e (some (.Attribute o f pos')) pos.line X.env = pure false := by rfl) : DX m X (.Assign [.Attribute o f pos'] e pos) wx := fun W hw =>
  PS.weak (ps_fld (PE.nox ho) (he W hw) hs) fun D σ H h => h
structure HasXM (P : Program) (w : World) (K : PySem.W.Frag) (mg : Str → Option Value) (base : Heap) (k : Nat) (C : Addr) (m : Str) (ps : List Str) (sp : DsX) : Prop where
  ex : ∃ (f : Addr) (fd : FuncData), FnOk P w K mg base (CXV P w) k f fd ps (lSpX K mg sp) ∧ Meth K C m f ∧ Binds K fd ps []
noncomputable def xMeth (m : Str) (sp : DsX) (o : WE) (t : WA) : WX := fun ρ S E => o ρ S fun d S1 => onIns S1 d fun _ fs => fs.lookup m = none ∧ t ρ S1 fun ds S2 => sp (d :: ds) S2 fun nm S3 => E nm ρ S3
theorem dxe_meth {k : Nat} {mt : Str} {ps : List Str} {sp : DsX} {o e : Expr} {es : List Expr} {wo : WE} {t : WA} {apos pos : Pos} {C0 : Addr} {pl : Sem Bool} (hc : HandCls X.K C0) (G : HasXM X.prog X.w X.K X.mg X.base k C0 mt ps sp) (hr : Room k X.A) (ho : DE X.nox o wo) (ha : DA X.nox (e :: es) t)
    (hst : starEach (e :: es) X.env = (false, eval e X.env) :: starEach es X.env := by rfl) (hpl : (backTo pos (starEach es X.env)).any (·.1) = false := by rfl)
    (ht : eval (.Call (.Attribute o mt apos) (e :: es) [] pos) X.env = (do
      let ov ← eval o X.env
      standAt apos.atName
      let (f, first) ← holding [ov] (getMethod ov mt pl)
      callWith pos f first (backTo pos (starEach (e :: es) X.env)) (backToKw pos (keywordEach [] X.env))) := by rfl) : DEx m X (.Call (.Attribute o mt apos) (e :: es) [] pos) (xMeth mt sp wo t) := by
  intro W hw pins s σ H Q I ⟨ρ, S, E, env, st, hx, post⟩
  obtain ⟨f, fd, F, hm, hb⟩ := G.ex
  refine PySem.W.methodCall_KW (pl := pl) (thn (PE.nox ho pins s σ H (fun v H1 => ∃ p fs S1, v = .ref p ∧ S1 p = some (.ins fs) ∧ StOk X.K H1 S1 ∧ Ext H H1 ∧ fs.lookup mt = none ∧ t ρ S1 fun ds S2 => sp (.ref p :: ds) S2 fun nm S3 => E nm ρ S3) I ⟨ρ, S, _, env, st, hx, fun d S1 v H1 q1 e1 st1 hd => ?_⟩) fun u s1 ⟨x, H1, I1, rx, p, fs, S1, ex, hs, st1, e1, hn, q⟩ => ?_) ht
  · obtain ⟨p, fs, rfl, hs, hn, q⟩ := onIns_inv q1
    cases (show v = .ref p from hd)
    exact ⟨p, fs, S1, rfl, hs, st1, e1, hn, q⟩
  · subst ex
    obtain rfl : u = Value.ref p := rx
    obtain ⟨dx, vs, h2, h3⟩ := ins_ok hc st1 hs
    refine getmeth_ok I1 h2 hc.cl hm (flds_no h3 hn) ?_
    refine PySem.W.callWith_K (first := [.ref p]) (h₀ := X.base) I.ok.mod.kin hm.kp (thn (PA.nox ha pos pins s1 σ H1 (fun vs H2 => lSpX X.K X.mg sp (.ref p :: vs) H2 Q (fun c _ H => W c σ H)) I1 ⟨ρ, S1, _, env.ext e1, st1, q, fun ds S2 vs H2 q2 e2 st2 hds => ?_⟩) fun us s2 ⟨vs, H2, I2, r, q2⟩ => ⟨I2.kIn, ?_⟩) hst hpl
    · exact ⟨.ref p :: ds, S2, _, dens_cons rfl hds, st2, q2, fun nm S' H' c q' e' st' hm' => post nm ρ S' σ H' c q' (e1.trans (e2.trans e')) (env.ext (e1.trans (e2.trans e'))) st' hm'⟩
    · exact run_fnX (us := .ref p :: us) (vs := .ref p :: vs) hw F hr hb I2 (.cons rfl r) q2
end
end MQ
namespace MQ
open PySem PySem.Spec PyProof.Rows L2
section
open PySem.W PySem.Builtin PySem.Builtin.ObjectAttr PySem.Builtin.Getset_descriptor PySem.Calls
variable {prog : Program} {w : World} {A : Around} {E : Value → Shared → Prop} {s : Shared} {K : PySem.W.Frag} {x D : Addr}
end
section
variable {X : Cx} {pins : List (Addr × Obj)} {σ : L2.St} {H : Hp} {s : Shared}
end
noncomputable abbrev Cx.as (X : Cx) (e : Addr) (pn : List (Addr × Obj)) : Cx := { X with A := X.A.mark (some (.ref e)), calm := false, xe := fun _ _ => False, pn := pn }
section
variable {X : Cx}
end
structure ExcCls (K : PySem.W.Frag) (D : Addr) : Prop where
  c : (PySem.W.clsIn K D).isSome = true
  g : PySem.W.findIn K (.ref D) "__getattribute__" = some (some (.builtin "BaseException.__getattribute__"))
  n : PySem.W.findIn K (.ref D) "__getattr__" = some none
  a : PySem.W.findIn K (.ref D) "__class__" = some (some (.builtin "object.__class__"))
  m : PySem.W.mroIn K D (.type "object") = some true
  b : PySem.W.mroIn K D (.type "BaseException") = some true
structure ExcGs (K : PySem.W.Frag) : Prop where
  n : PySem.W.specialIn K (.builtin "object.__class__") "__get__" = some (some (.builtin "getset_descriptor.__get__"))
  t : PySem.W.takesIn K (.builtin "object.__class__") = some true
structure IsTab (K : PySem.W.Frag) (mg : Str → Option Value) (cu : Value) (tab : List (Str × Bool)) : Prop where
  gs : ExcGs K
  k : ∀ nm b C, tab.lookup nm = some b → mg nm = some (.ref C) → PySem.W.kitOne K (.ref C) cu = some b ∧ ExcCls K C
section
variable {X : Cx}
end
noncomputable def AllT (P : Str → Bool → Prop) : List (Str × Bool) → Prop
  | [] => True
  | p :: r => P p.1 p.2 ∧ AllT P r
theorem allT_at {P : Str → Bool → Prop} : ∀ {tab : List (Str × Bool)} {nm : Str} {b : Bool}, AllT P tab → tab.lookup nm = some b → P nm b
  | [], nm, b, _, e => by cases e
  | (x, c) :: r, nm, b, ⟨h1, h2⟩, e => by
    rw [List.lookup_cons] at e
    cases q : nm == x with
    | true =>
      rw [q] at e
      cases e
      rw [beq_iff_eq.mp q]
      exact h1
    | false =>
      rw [q] at e
      exact allT_at h2 e
theorem catch_of {K : PySem.W.Frag} {mg : Str → Option Value} {y : Str} {c : Value} {tab : List (Str × Bool)} (h : mg y = some c) (t : AllT (fun nm b => ∃ C, mg nm = some (.ref C) ∧ PySem.W.exmOne K (.ref C) c = some b) tab) : Catch K mg y tab :=
  ⟨c, h, fun nm b C hl hm => by
    obtain ⟨C', h1, h2⟩ := allT_at t hl
    rw [h1] at hm
    cases hm
    exact h2⟩
noncomputable def xOr (a b : WX) : WX := fun ρ S E => a ρ S E ∨ b ρ S E
section
variable {X : Cx} {m : Bool}
theorem dxs_or {sts : List Stmt} {a b : WX} (ha : DXs m X sts a) (hb : DXs m X sts b) : DXs m X sts (xOr a b) := fun W hw pins s σ H D I ⟨ρ, S, E, env, st, hx, post⟩ =>
  hx.elim (fun h => ha W hw pins s σ H D I ⟨ρ, S, E, env, st, h, post⟩) fun h => hb W hw pins s σ H D I ⟨ρ, S, E, env, st, h, post⟩
theorem dxs_no {sts : List Stmt} : DXs m X sts xNo := fun W hw pins s σ H D I ⟨ρ, S, E, env, st, hx, post⟩ => hx.elim
end
@[simp ↓] theorem xCall_eq {sp : DsX} {t : WA} {ρ : Ev} {S : Sto} {E : XQ} : xCall sp t ρ S E = t ρ S (fun ds S1 => sp ds S1 fun nm S2 => E nm ρ S2) := id rfl
@[simp ↓] theorem xSeq_eq {a : WS} {b : WX} {ρ : Ev} {S : Sto} {E : XQ} : xSeq a b ρ S E = a { nx := fun ρ1 S1 => b ρ1 S1 E, rt := fun _ _ => False } ρ S := id rfl
@[simp ↓] theorem xIf_eq {c : WT} {a b : WX} {ρ : Ev} {S : Sto} {E : XQ} : xIf c a b ρ S E = c ρ S (fun t S1 => if t = true then a ρ S1 E else b ρ S1 E) := id rfl
@[simp ↓] theorem xNo_eq {ρ : Ev} {S : Sto} {E : XQ} : xNo ρ S E = False := id rfl
@[simp ↓] theorem xRaise_eq {nm : Str} {ρ : Ev} {S : Sto} {E : XQ} : xRaise nm ρ S E = E nm ρ S := id rfl
@[simp ↓] theorem xOr_eq {a b : WX} {ρ : Ev} {S : Sto} {E : XQ} : xOr a b ρ S E = (a ρ S E ∨ b ρ S E) := id rfl
@[simp ↓] theorem xMeth_eq {m : Str} {sp : DsX} {o : WE} {t : WA} {ρ : Ev} {S : Sto} {E : XQ} : xMeth m sp o t ρ S E = o ρ S (fun d S1 => onInsK S1 d fun _ fs => fs.lookup m = none ∧ t ρ S1 fun ds S2 => sp (d :: ds) S2 fun nm S3 => E nm ρ S3) := id rfl
end MQ
namespace MQ
open PySem PySem.Spec PyProof.Rows L2
noncomputable def putX (rows : List Rw) (t b : Tag) (x : Str) : Option Str := match fnd t rows with
  | some k => if (rows[k]?.any fun r => decide (r.bhd = b ∧ r.sg = x)) = true then none else some "Clash"
  | none => match bix rows b with
    | none => some "NotYet"
    | some _ => if lat t.1 t.2 b.1 b.2 = true then none else some "Backwards"
noncomputable def cutX (rows : List Rw) (t : Tag) : Option Str := match fnd t rows with
  | some _ => none
  | none => some "NotYet"
noncomputable def hrdX (rows : List Rw) : Slip → Option Str
  | .put t b x => putX rows t b x
  | .cut t => cutX rows t
noncomputable def spx_place_of : DsX := fun ds S E => ∃ (rows : List Rw) (c h : Int), ds = [.lst (rows.map rowD), .tup [.int c, .int h]] ∧ fnd (c, h) rows = none ∧ E "NotYet" S
noncomputable def spx_place_behind : DsX := fun ds S E => ∃ (rows : List Rw) (c h : Int), ds = [.lst (rows.map rowD), .tup [.int c, .int h]] ∧ bix rows (c, h) = none ∧ E "NotYet" S
noncomputable def spx_with_put : DsX := fun ds S E => ∃ (rows : List Rw) (c h c' h' : Int) (x nm : Str), ds = [.lst (rows.map rowD), .tup [.int c, .int h], .tup [.int c', .int h'], .str x] ∧ okS rows ∧ PyData.strOk x = true ∧ putX rows (c, h) (c', h') x = some nm ∧ E nm S
noncomputable def spx_with_cut : DsX := fun ds S E => ∃ (rows : List Rw) (c h : Int), ds = [.lst (rows.map rowD), .tup [.int c, .int h]] ∧ fnd (c, h) rows = none ∧ E "NotYet" S
noncomputable def spx_heard : DsX := fun ds S E => ∃ (rows : List Rw) (s : Slip) (nm : Str), ds = [.lst (rows.map rowD), slipD s] ∧ okS rows ∧ okSl s ∧ hrdX rows s = some nm ∧ E nm S
noncomputable def spx_Hand_hear : DsX := fun ds S E => ∃ (a : Addr) (n : Int) (rows : List Rw) (ss : List Slip) (s : Slip) (nm : Str), ds = [.ref a, slipD s] ∧ S a = some (.ins (handFs n rows ss)) ∧ Okh rows ss ∧ okSl s ∧ s ∉ ss ∧ hrdX rows s = some nm ∧ E nm S
theorem lnx_place_of : ∀ ds S E, spx_place_of ds S E → ds.length = 2 := by rintro _ S E ⟨_, _, _, rfl, _⟩; rfl
theorem lnx_place_behind : ∀ ds S E, spx_place_behind ds S E → ds.length = 2 := by rintro _ S E ⟨_, _, _, rfl, _⟩; rfl
theorem lnx_with_put : ∀ ds S E, spx_with_put ds S E → ds.length = 4 := by rintro _ S E ⟨_, _, _, _, _, _, _, rfl, _⟩; rfl
theorem lnx_with_cut : ∀ ds S E, spx_with_cut ds S E → ds.length = 2 := by rintro _ S E ⟨_, _, _, rfl, _⟩; rfl
theorem lnx_heard : ∀ ds S E, spx_heard ds S E → ds.length = 2 := by rintro _ S E ⟨_, _, _, rfl, _⟩; rfl
theorem lnx_Hand_hear : ∀ ds S E, spx_Hand_hear ds S E → ds.length = 2 := by rintro _ S E ⟨_, _, _, _, _, _, rfl, _⟩; rfl
noncomputable def wx_place_of : WX :=
  (xSeq (wSet 2 (wCall sp_place_or_none (wCons (wVar 0) (wCons (wVar 1) wNil))))
  (xIf (wCmp oIs (wVar 2) (wC .non))
  (xRaise "NotYet")
  xNo))
theorem wx_place_of_e {ρ : Ev} {S : Sto} {E : XQ} : wx_place_of ρ S E =
  (xSeq (wSet 2 (wCall sp_place_or_none (wCons (wVar 0) (wCons (wVar 1) wNil))))
  (xIf (wCmp oIs (wVar 2) (wC .non))
  (xRaise "NotYet")
  xNo)) ρ S E := id rfl
noncomputable def wx_with_cut : WX :=
  (xCall spx_place_of (wCons (wVar 0) (wCons (wVar 1) wNil)))
theorem wx_with_cut_e {ρ : Ev} {S : Sto} {E : XQ} : wx_with_cut ρ S E =
  (xCall spx_place_of (wCons (wVar 0) (wCons (wVar 1) wNil))) ρ S E := id rfl
noncomputable def wx_place_behind : WX :=
  (xSeq (wIf (wCmp oEq (wVar 1) (wC c_BEGINNING))
  (wRet (wC (.int 0)))
  wNext)
  (xCall spx_place_of (wCons (wVar 0) (wCons (wVar 1) wNil))))
theorem wx_place_behind_e {ρ : Ev} {S : Sto} {E : XQ} : wx_place_behind ρ S E =
  (xSeq (wIf (wCmp oEq (wVar 1) (wC c_BEGINNING))
  (wRet (wC (.int 0)))
  wNext)
  (xCall spx_place_of (wCons (wVar 0) (wCons (wVar 1) wNil)))) ρ S E := id rfl
noncomputable def wx_with_put : WX :=
  (xSeq (wSet 4 (wCall sp_place_or_none (wCons (wVar 0) (wCons (wVar 1) wNil))))
  (xOr (xIf (wCmp oIsNot (wVar 4) (wC .non))
  (xIf (wOr (wCmp oNe (wOp oIx (wOp oIx (wVar 0) (wVar 4)) (wC (.int 1))) (wVar 2)) (wCmp oNe (wOp oIx (wOp oIx (wVar 0) (wVar 4)) (wC (.int 2))) (wVar 3)))
  (xRaise "Clash")
  xNo)
  xNo)
  (xSeq (wIf (wCmp oIsNot (wVar 4) (wC .non))
  (wSeq (wIf (wOr (wCmp oNe (wOp oIx (wOp oIx (wVar 0) (wVar 4)) (wC (.int 1))) (wVar 2)) (wCmp oNe (wOp oIx (wOp oIx (wVar 0) (wVar 4)) (wC (.int 2))) (wVar 3)))
  wNo
  wNext)
  (wRet (wCB fList (wCons (wVar 0) wNil))))
  wNext)
  (xOr (xCall spx_place_behind (wCons (wVar 0) (wCons (wVar 2) wNil)))
  (xSeq (wSet 5 (wCall sp_place_behind (wCons (wVar 0) (wCons (wVar 2) wNil))))
  (xIf (wNot (wTest (wCall sp_later (wCons (wVar 1) (wCons (wVar 2) wNil)))))
  (xRaise "Backwards")
  xNo))))))
theorem wx_with_put_e {ρ : Ev} {S : Sto} {E : XQ} : wx_with_put ρ S E =
  (xSeq (wSet 4 (wCall sp_place_or_none (wCons (wVar 0) (wCons (wVar 1) wNil))))
  (xOr (xIf (wCmp oIsNot (wVar 4) (wC .non))
  (xIf (wOr (wCmp oNe (wOp oIx (wOp oIx (wVar 0) (wVar 4)) (wC (.int 1))) (wVar 2)) (wCmp oNe (wOp oIx (wOp oIx (wVar 0) (wVar 4)) (wC (.int 2))) (wVar 3)))
  (xRaise "Clash")
  xNo)
  xNo)
  (xSeq (wIf (wCmp oIsNot (wVar 4) (wC .non))
  (wSeq (wIf (wOr (wCmp oNe (wOp oIx (wOp oIx (wVar 0) (wVar 4)) (wC (.int 1))) (wVar 2)) (wCmp oNe (wOp oIx (wOp oIx (wVar 0) (wVar 4)) (wC (.int 2))) (wVar 3)))
  wNo
  wNext)
  (wRet (wCB fList (wCons (wVar 0) wNil))))
  wNext)
  (xOr (xCall spx_place_behind (wCons (wVar 0) (wCons (wVar 2) wNil)))
  (xSeq (wSet 5 (wCall sp_place_behind (wCons (wVar 0) (wCons (wVar 2) wNil))))
  (xIf (wNot (wTest (wCall sp_later (wCons (wVar 1) (wCons (wVar 2) wNil)))))
  (xRaise "Backwards")
  xNo)))))) ρ S E := id rfl
noncomputable def wx_heard : WX :=
  (xOr (xIf (wCmp oEq (wOp oIx (wVar 1) (wC (.int 0))) (wC (.str "put")))
  (xCall spx_with_put (wCons (wVar 0) (wCons (wOp oIx (wVar 1) (wC (.int 1))) (wCons (wOp oIx (wVar 1) (wC (.int 2))) (wCons (wOp oIx (wVar 1) (wC (.int 3))) wNil)))))
  xNo)
  (xSeq (wIf (wCmp oEq (wOp oIx (wVar 1) (wC (.int 0))) (wC (.str "put")))
  (wRet (wCall sp_with_put (wCons (wVar 0) (wCons (wOp oIx (wVar 1) (wC (.int 1))) (wCons (wOp oIx (wVar 1) (wC (.int 2))) (wCons (wOp oIx (wVar 1) (wC (.int 3))) wNil))))))
  wNext)
  (xCall spx_with_cut (wCons (wVar 0) (wCons (wOp oIx (wVar 1) (wC (.int 1))) wNil)))))
theorem wx_heard_e {ρ : Ev} {S : Sto} {E : XQ} : wx_heard ρ S E =
  (xOr (xIf (wCmp oEq (wOp oIx (wVar 1) (wC (.int 0))) (wC (.str "put")))
  (xCall spx_with_put (wCons (wVar 0) (wCons (wOp oIx (wVar 1) (wC (.int 1))) (wCons (wOp oIx (wVar 1) (wC (.int 2))) (wCons (wOp oIx (wVar 1) (wC (.int 3))) wNil)))))
  xNo)
  (xSeq (wIf (wCmp oEq (wOp oIx (wVar 1) (wC (.int 0))) (wC (.str "put")))
  (wRet (wCall sp_with_put (wCons (wVar 0) (wCons (wOp oIx (wVar 1) (wC (.int 1))) (wCons (wOp oIx (wVar 1) (wC (.int 2))) (wCons (wOp oIx (wVar 1) (wC (.int 3))) wNil))))))
  wNext)
  (xCall spx_with_cut (wCons (wVar 0) (wCons (wOp oIx (wVar 1) (wC (.int 1))) wNil))))) ρ S E := id rfl
noncomputable def wx_Hand_hear : WX :=
  (xSeq (wIf (wCmp oIn (wVar 1) (wFld "slips" (wVar 0)))
  (wRet (wC (.bl false)))
  wNext)
  (xCall spx_heard (wCons (wFld "rows" (wVar 0)) (wCons (wVar 1) wNil))))
theorem wx_Hand_hear_e {ρ : Ev} {S : Sto} {E : XQ} : wx_Hand_hear ρ S E =
  (xSeq (wIf (wCmp oIn (wVar 1) (wFld "slips" (wVar 0)))
  (wRet (wC (.bl false)))
  wNext)
  (xCall spx_heard (wCons (wFld "rows" (wVar 0)) (wCons (wVar 1) wNil)))) ρ S E := id rfl
theorem okx_place_of : ∀ ds S E, spx_place_of ds S E → wx_place_of (ent 3 ds) S fun nm _ S' => E nm S' := by
  rintro _ S E ⟨rows, c, h, rfl, f, q⟩
  simp [wx_place_of_e, ent, f, ixD]
  exact q
theorem okx_with_cut : ∀ ds S E, spx_with_cut ds S E → wx_with_cut (ent 4 ds) S fun nm _ S' => E nm S' := by
  rintro _ S E ⟨rows, c, h, rfl, f, q⟩
  simp [wx_with_cut_e, ent]
  exact ⟨rows, c, h, rfl, f, q⟩
theorem okx_place_behind : ∀ ds S E, spx_place_behind ds S E → wx_place_behind (ent 2 ds) S fun nm _ S' => E nm S' := by
  rintro _ S E ⟨rows, c, h, rfl, f, q⟩
  unfold bix at f
  split at f
  · cases f
  · rename_i e
    have e' : ¬ (c = 0 ∧ h = 0) := fun ⟨a, b⟩ => e (by rw [a, b])
    have f' : fnd (c, h) rows = none := by
      cases g : fnd (c, h) rows with
      | none => rfl
      | some j => rw [g] at f; cases f
    simp [wx_place_behind_e, ent, c_BEGINNING, e']
    exact ⟨rows, c, h, rfl, f', q⟩
theorem okx_with_put : ∀ ds S E, spx_with_put ds S E → wx_with_put (ent 7 ds) S fun nm _ S' => E nm S' := by
  rintro _ S E ⟨rows, c, h, c', h', x, nm, rfl, ok, okx, f, q⟩
  simp [wx_with_put_e, ent]
  unfold putX at f
  cases g : fnd (c, h) rows with
  | some k =>
    rw [g] at f
    have hk := fnd_lt g
    have ex := row_at hk
    dsimp only at f
    rw [List.getElem?_eq_getElem hk] at f
    split at f
    · cases f
    · rename_i hne
      cases f
      have on := oNe_str (S := S) (ok _ (List.getElem_mem hk)) okx
      left
      simp [ixD, ex, rowD, on]
      simp [Rw.bhd] at hne
      by_cases e1 : rows[k].bc = c' ∧ rows[k].bh = h'
      · have e2 := hne e1.1 e1.2
        simp [e1.1, e1.2, e2]
        exact q
      · have z : ¬rows[k].bc = c' ∨ ¬rows[k].bh = h' := by
          by_cases z : rows[k].bc = c'
          · exact Or.inr fun y => e1 ⟨z, y⟩
          · exact Or.inl z
        rw [if_pos z]
        exact q
  | none =>
    rw [g] at f
    dsimp only at f
    right
    cases b : bix rows (c', h') with
    | none =>
      rw [b] at f
      cases f
      simp [ixD]
      left
      exact ⟨rows, c', h', rfl, b, q⟩
    | some s =>
      rw [b] at f
      dsimp only at f
      split at f
      · cases f
      · rename_i hlat
        cases f
        simp [ixD]
        right
        refine ⟨rows, c', h', s, rfl, b, ?_⟩
        exact ⟨by simpa using hlat, q⟩
theorem okx_heard : ∀ ds S E, spx_heard ds S E → wx_heard (ent 2 ds) S fun nm _ S' => E nm S' := by
  rintro _ S E ⟨rows, s, nm, rfl, ok, oks, f, q⟩
  cases s with
  | put t b x =>
    obtain ⟨t1, t2⟩ := t
    obtain ⟨b1, b2⟩ := b
    have ep := oEq_str (S := S) ok_put ok_put
    simp [wx_heard_e, ent, slipD, ep]
    exact Or.inl ⟨rows, t1, t2, b1, b2, x, nm, rfl, ok, oks, f, q⟩
  | cut t =>
    obtain ⟨t1, t2⟩ := t
    have ep := oEq_str (S := S) ok_cut ok_put
    have f' : fnd (t1, t2) rows = none ∧ nm = "NotYet" := by
      have f2 : cutX rows (t1, t2) = some nm := f
      unfold cutX at f2
      split at f2
      · cases f2
      · rename_i g; cases f2; exact ⟨g, rfl⟩
    obtain ⟨f1, rfl⟩ := f'
    simp [wx_heard_e, ent, slipD, ep, cut_ne_put]
    exact ⟨rows, t1, t2, rfl, f1, q⟩
theorem okx_Hand_hear : ∀ ds S E, spx_Hand_hear ds S E → wx_Hand_hear (ent 2 ds) S fun nm _ S' => E nm S' := by
  rintro _ S E ⟨a, n, rows, ss, s, nm, rfl, hS, oh, oks, hm, f, q⟩
  have ein : ∀ S : Sto, oIn S (slipD s) (.lst (ss.map slipD)) = some (decide (s ∈ ss)) := fun S => oIn_slips oks oh.oks
  simp [wx_Hand_hear_e, ent, onIns_at hS, ein, hm]
  exact ⟨rows, s, nm, rfl, oh.ok, oks, f, q⟩
end MQ
namespace MQ
open PySem PySem.Spec PyProof.Rows L2
noncomputable def rngV (lo : Int) (n : Nat) : List V := (List.range n).map fun (i : Nat) => V.int (lo + (i : Int))
noncomputable def rngD (lo : Int) (n : Nat) : List Dv := (List.range n).map fun (i : Nat) => Dv.int (lo + (i : Int))
theorem rngV_len (lo : Int) (n : Nat) : (rngV lo n).length = n := by unfold rngV; simp
theorem rngV_get {lo : Int} {n i : Nat} (h : i < n) : (rngV lo n)[i]? = some (V.int (lo + i)) := by unfold rngV; simp [h]
theorem rng_dens {K : PySem.W.Frag} {H : Hp} (lo : Int) (n : Nat) : dens K H (rngD lo n) (rngV lo n) := by
  unfold rngD rngV
  induction List.range n with
  | nil => exact dens_nil
  | cons c cs ih => exact dens_cons (show den K H (.int (lo + (c : Int))) (.int (lo + (c : Int))) from rfl) ih
noncomputable abbrev WRg := Ev → Sto → (Int → Nat → Sto → Prop) → Prop
inductive lI (K : PySem.W.Frag) (w : WRg) (σ : L2.St) (H : Hp) (R : It → Hp → Prop) : Prop
  | mk (ρ : Ev) (S : Sto) (Q' : Int → Nat → Sto → Prop) (env : EnvOk K H ρ σ) (st : StOk K H S) (hw : w ρ S Q') (post : ∀ lo n S' H', Q' lo n S' → Ext H H' → StOk K H' S' → R (Itr lo n) H') : lI K w σ H R
noncomputable abbrev DR (X : Cx) (tg iter : Expr) (w : WRg) : Prop := PI X tg iter (lI X.K w)
noncomputable def wR1 (t : WA) : WRg := fun ρ S Q => t ρ S fun l S1 => goR1 l fun j => Q 0 j.toNat S1
noncomputable def wR2 (t : WA) : WRg := fun ρ S Q => t ρ S fun l S1 => goR2 l fun lo j => Q lo (j - lo).toNat S1
theorem dr_1 {X : Cx} {tg a : Expr} {t : WA} {p pos : Pos} (hm : X.mg "range" = none) (ha : DA X [a] t) (hg : Gl X "range" := by rfl) (hst : starEach [a] X.env = [(false, eval a X.env)] := by rfl) : DR X tg (.Call (.Name "range" p) [a] [] pos) (wR1 t) :=
  fun pins s σ H R I ⟨ρ, S, Q', env, st, hw, post⟩ => pi_range1 hg hm ha hst pins s σ H R I ⟨ρ, S, _, env, st, hw, fun ds S1 vs H1 q e st1 hd => by
    obtain ⟨j, rfl, ⟨h1, h2⟩, q⟩ := goR1_inv q
    rw [den_int1 hd]
    exact ⟨j, rfl, h1, h2, post 0 j.toNat S1 H1 q e st1⟩⟩
theorem dr_2 {X : Cx} {tg a c : Expr} {t : WA} {p pos : Pos} (hm : X.mg "range" = none) (ha : DA X [a, c] t) (hg : Gl X "range" := by rfl) (hst : starEach [a, c] X.env = [(false, eval a X.env), (false, eval c X.env)] := by rfl) (hst2 : starEach [c] X.env = [(false, eval c X.env)] := by rfl) :
    DR X tg (.Call (.Name "range" p) [a, c] [] pos) (wR2 t) :=
  fun pins s σ H R I ⟨ρ, S, Q', env, st, hw, post⟩ => pi_range2 hg hm ha hst hst2 pins s σ H R I ⟨ρ, S, _, env, st, hw, fun ds S1 vs H1 q e st1 hd => by
    obtain ⟨lo, j, rfl, h1, q⟩ := goR2_inv q
    rw [den_int2 hd]
    exact ⟨lo, j, rfl, h1, post lo (j - lo).toNat S1 H1 q e st1⟩⟩
noncomputable def wCompR (is : List Nat) (src : WRg) (wt : WT) (we : WE) : WE := fun ρ S Q => src ρ S fun lo n S1 => n ≤ 1000 ∧ goL (evs? ρ is) fun dys => cmpL (wt2 dys wt) (we2 dys we) (rngD lo n) S1 [] fun zs S2 => Q (.lst zs) S2
section
variable {X : Cx} {elt iter : Expr} {x : Str} {is : List Nat} {fy : List Str} {px pos : Pos} {ifs : List Expr} {sc : Scope} {src : WRg} {wt : WT} {we : WE}
theorem comp_loopR {cl : List (Str × Addr)} {vys : List V} {dys : List Dv} {C D it : Addr} {lo : Int} {nn : Nat} {fp : List Addr} {tn : Nat → Heap → Prop} {s2 : Shared} {H2 : Hp} {vs : List V} {ds : List Dv} {R : Result → Shared → Prop} {Qf : List Dv → Sto → Prop}
    (ht : ∀ cl C s H fp, TestsOk (cxF X sc x fy cl C s H fp) ifs wt) (he : ∀ cl C s H fp, DE (cxF X sc x fy cl C s H fp) elt we) (hx : (relabel sc X.env).names.lookup x = some .local) (hdy : dens X.K H2 dys vys) (hnd : (x :: fy).Nodup) (hcalm : X.calm = true)
    (T : Turn X.prog X.w X.K (.Name x px) (Itr lo nn) fp it tn) (hfD : ∀ H', H' D = none → FpOk (cxF X sc x fy cl C s2 H2 fp) [] H' D) (hff : ∀ H', (∀ b ∈ fp, H' b = none) → ∀ b ∈ fp, FpOk (cxF X sc x fy cl C s2 H2 fp) [] H' b) (hDf : D ∉ fp)
    (hvs : vs = rngV lo nn) (hv : dens X.K H2 ds vs) (hz : vs.length ≤ sizeLine)
    (fin : ∀ (acc : List Dv) (us : List Value) (ys : List V) (σ' : L2.St) (H' : Hp) (S' : Sto) (s' : Shared), Inv (cxF X sc x fy cl C s2 H2 fp) [] σ' H' s' → H' D = none → AccAt s'.heap D us → Vals ys us → ys.length ≤ sizeLine → dens X.K H' acc ys → StOk X.K H' S' → Ext H2 H' → Qf acc S' → R (.ok .next) s') :
    ∀ (i : Nat) (acc : List Dv) (us : List Value) (ys : List V) (σ' : L2.St) (H' : Hp) (S' : Sto) (s' : Shared), i ≤ vs.length → Inv (cxF X sc x fy cl C s2 H2 fp) [] σ' H' s' → σ'.tail = vys.map some → tn i s'.heap → (∀ b ∈ fp, H' b = none) → H' D = none → AccAt s'.heap D us → Vals ys us → ys.length ≤ i → dens X.K H' acc ys → StOk X.K H' S' → Ext H2 H' →
      cmpL (wt2 dys wt) (we2 dys we) (ds.drop i) S' acc Qf → codeAny (model X.prog X.w) X.A (.compLoop (.ListComp elt [⟨.Name x px, iter, ifs, 0⟩] sc pos) 0 (.ref it) (.ref D) (cxF X sc x fy cl C s2 H2 fp).env) R s' := by
  intro i₀ acc₀ us₀ ys₀ σ₀ H₀ S₀ s₀ hi₀ I₀ y₀ t₀ f₀ d₀ a₀ v₀ l₀ e₀ st₀ x₀ c₀
  refine codeAny_compLoop_tests (fun n s' => ∃ (i : Nat) (acc : List Dv) (us : List Value) (ys : List V) (σ' : L2.St) (H' : Hp) (S' : Sto), n = vs.length - i ∧ i ≤ vs.length ∧ Inv (cxF X sc x fy cl C s2 H2 fp) [] σ' H' s' ∧ σ'.tail = vys.map some ∧ tn i s'.heap ∧ (∀ b ∈ fp, H' b = none) ∧ H' D = none ∧ AccAt s'.heap D us ∧ Vals ys us ∧ ys.length ≤ i ∧ dens X.K H' acc ys ∧ StOk X.K H' S' ∧ Ext H2 H' ∧ cmpL (wt2 dys wt) (we2 dys we) (ds.drop i) S' acc Qf)
    ?_ (vs.length - i₀) ⟨i₀, acc₀, us₀, ys₀, σ₀, H₀, S₀, rfl, hi₀, I₀, y₀, t₀, f₀, d₀, a₀, v₀, l₀, e₀, st₀, x₀, c₀⟩
  rintro n s3 ⟨i, acc, us, ys, σ', H', S', rfl, hi, I3, y3, t3, f3, d3, ⟨k, a3⟩, v3, l3, e3, st3, x3, c3⟩
  have notc : ∀ v, ({ cls := .type "list", data := .seq us.toArray k } : Obj).data ≠ .cell v := fun v z => by
    have z' : Data.seq us.toArray k = Data.cell v := z
    cases z'
  have I3d := Inv.pin1 I3 (hfD H' d3) a3 notc
  have hl := dens_len hv
  by_cases hlt : i < vs.length
  · have hvi : vs[i]? = some vs[i] := by simp [hlt]
    obtain ⟨dx, hdx, ddx⟩ := dens_get' hv hvi
    rw [drop_cons' hdx] at c3
    have ffp : ∀ b ∈ fp, FpOk (cxF X sc x fy cl C s2 H2 fp) ([] ++ [(D, { cls := .type "list", data := .seq us.toArray k })]) H' b := fun b hb => by
      obtain ⟨g0, g1, g2, g3, g4, g5⟩ := hff H' f3 b hb
      refine ⟨g0, g1, g2, g3, g4, fun p hp z => ?_⟩
      have hp' : p ∈ ([(D, { cls := .type "list", data := .seq us.toArray k })] : List (Addr × Obj)) := hp
      cases List.mem_singleton.mp hp'
      exact hDf (by rw [show D = b from z]; exact hb)
    refine thn (T.item (cxF X sc x fy cl C s2 H2 fp) rfl rfl rfl hcalm i _ s3 σ' H' _ I3d ffp t3 (show i < nn by rw [← rngV_len lo nn, ← hvs]; exact hlt)) fun r s4 ⟨u, er, h4⟩ => ?_
    subst er
    show wpAny _ _ (letOwnedTupleGo (.Name x px) (.ref it) u >>= fun _ => assign (.Name x px) (cxF X sc x fy cl C s2 H2 fp).env u) _ _ s4
    refine wpAny_bind (thn h4 fun _ s5 ⟨xv, H5, I5, r5, ⟨eH, y5⟩, t5, f5⟩ => ?_)
    subst eH
    have exv : xv = vs[i] := by
      have z : vs[i]? = some (V.int (lo + i)) := by rw [hvs]; exact rngV_get (by rw [← rngV_len lo nn, ← hvs]; exact hlt)
      rw [hvi] at z
      rw [y5]
      exact (Option.some.inj z).symm
    subst exv
    have I5p := I5.pinned (fp := fp) ffp (T.obj _ _ t5)
    refine thx (pg_name (X := cxF X sc x fy cl C s2 H2 fp) (i := 0) (x := x) (pos := px) hnd rfl (Or.inl hx) (Or.inr hx) _ s5 σ' H5 _ u (fun σ6 H6 => σ6 = σ'.set 0 (some vs[i]) ∧ H6 = H5) I5p r5 ⟨rfl, rfl⟩) fun _ s6 ⟨σ6, H6, I6, eσ, eH⟩ => ?_
    subst eσ eH
    obtain ⟨s0', hs0'⟩ : ∃ a, σ' = a :: vys.map some := by
      have hσ : σ'.length = (x :: fy).length := I3.len
      cases σ' with
      | nil => simp at hσ
      | cons a r => exact ⟨a, by rw [← y3]; rfl⟩
    have env6 : EnvOk X.K H6 (some dx :: dys.map some) (σ'.set 0 (some vs[i])) := by
      rw [hs0']
      refine ⟨by simp [dens_len hdy], fun j e q => ?_⟩
      cases j with
      | zero =>
        have q' : dx = e := Option.some.inj (Option.some.inj q)
        subst q'
        exact ⟨vs[i], rfl, den_ext x3 _ _ ddx⟩
      | succ j =>
        have q' : dys[j]? = some e := by simpa using q
        obtain ⟨v, h1, h2⟩ := dens_get (dens_ext x3 _ _ hdy) q'
        exact ⟨v, by simp [h1], h2⟩
    have y6 : (σ'.set 0 (some vs[i])).tail = vys.map some := by rw [hs0']; rfl
    have again : ∀ (acc' : List Dv) (us' : List Value) (ys' : List V) (σ7 : L2.St) (H7 : Hp) (S7 : Sto) (s7 : Shared) (pl : List (Addr × Obj)), Inv (cxF X sc x fy cl C s2 H2 fp) pl σ7 H7 s7 → σ7.tail = vys.map some → (∀ b ∈ fp, ∀ o, s5.heap.get? b = some o → s7.heap.get? b = some o) → (∀ b ∈ fp, H7 b = none) → H7 D = none → AccAt s7.heap D us' → Vals ys' us' → ys'.length ≤ i + 1 → dens X.K H7 acc' ys' → StOk X.K H7 S7 → Ext H2 H7 →
        cmpL (wt2 dys wt) (we2 dys we) (ds.drop (i + 1)) S7 acc' Qf → ∃ m, m < vs.length - i ∧ ∃ (i : Nat) (acc : List Dv) (us : List Value) (ys : List V) (σ' : L2.St) (H' : Hp) (S' : Sto), m = vs.length - i ∧ i ≤ vs.length ∧ Inv (cxF X sc x fy cl C s2 H2 fp) [] σ' H' s7 ∧ σ'.tail = vys.map some ∧ tn i s7.heap ∧ (∀ b ∈ fp, H' b = none) ∧ H' D = none ∧ AccAt s7.heap D us ∧ Vals ys us ∧ ys.length ≤ i ∧ dens X.K H' acc ys ∧ StOk X.K H' S' ∧ Ext H2 H' ∧ cmpL (wt2 dys wt) (we2 dys we) (ds.drop i) S' acc Qf :=
      fun acc' us' ys' σ7 H7 S7 s7 pl I7 y7 k7 f7 d7 a7 v7 l7 e7 st7 x7 c7 => ⟨vs.length - (i + 1), by omega, i + 1, acc', us', ys', σ7, H7, S7, rfl, hlt, I7.pins_of (fun p hp => by cases hp), y7, T.keep _ _ _ t5 fun b hb o e => k7 b hb o e, f7, d7, a7, v7, l7, e7, st7, x7, c7⟩
    have pinD : ∀ {σ7 : L2.St} {H7 : Hp} {s7 : Shared}, L2.Inv (cxF X sc x fy cl C s2 H2 fp) (([] ++ [(D, { cls := .type "list", data := .seq us.toArray k })]) ++ pinsAt fp s5.heap) σ7 H7 s7 → s7.heap.get? D = some { cls := .type "list", data := .seq us.toArray k } ∧ H7 D = none := fun {σ7 H7 s7} J =>
      let z := J.pin (D, { cls := .type "list", data := .seq us.toArray k }) (List.mem_append_right _ (List.mem_append_left _ (List.mem_append_right _ (List.mem_singleton.mpr rfl))))
      ⟨z.1, z.2.1⟩
    have pinF : ∀ {σ7 : L2.St} {H7 : Hp} {s7 : Shared}, L2.Inv (cxF X sc x fy cl C s2 H2 fp) (([] ++ [(D, { cls := .type "list", data := .seq us.toArray k })]) ++ pinsAt fp s5.heap) σ7 H7 s7 → (∀ b ∈ fp, ∀ o, s5.heap.get? b = some o → s7.heap.get? b = some o) ∧ ∀ b ∈ fp, H7 b = none := fun {σ7 H7 s7} J =>
      ⟨fun b hb o e => (J.pin (b, o) (List.mem_append_right _ (List.mem_append_right _ (mem_pinsAt hb e)))).1, fun b hb => by
        obtain ⟨o, e, _⟩ := T.obj _ _ t5 b hb
        exact (J.pin (b, o) (List.mem_append_right _ (List.mem_append_right _ (mem_pinsAt hb e)))).2.1⟩
    refine thx (ht cl C s2 H2 fp _ s6 _ H6 (fun b H7 => ∃ S7, StOk X.K H7 S7 ∧ Ext H6 H7 ∧ if b = true then we2 dys we [some dx] S7 fun y S8 => cmpL (wt2 dys wt) (we2 dys we) (ds.drop (i + 1)) S8 (acc ++ [y]) Qf else cmpL (wt2 dys wt) (we2 dys we) (ds.drop (i + 1)) S7 acc Qf) I6 ⟨some dx :: dys.map some, S', _, env6, st3, c3, fun b S7 H7 q7 x7 st7 => ⟨S7, st7, x7, q7⟩⟩) fun b s7 ⟨H7, I7, S7, st7, x7, q7⟩ => ?_
    cases b with
    | false =>
      exact again acc us ys _ H7 S7 s7 _ I7 y6 (pinF I7).1 (pinF I7).2 (pinD I7).2 ⟨k, (pinD I7).1⟩ v3 (Nat.le_succ_of_le l3) (dens_ext x7 _ _ e3) st7 (x3.trans x7) q7
    | true =>
      refine thx (he cl C s2 H2 fp _ s7 _ H7 (fun v H8 => ∃ y S8, StOk X.K H8 S8 ∧ Ext H7 H8 ∧ den X.K H8 y v ∧ cmpL (wt2 dys wt) (we2 dys we) (ds.drop (i + 1)) S8 (acc ++ [y]) Qf) I7 ⟨some dx :: dys.map some, S7, _, env6.ext x7, st7, q7, fun y S8 v H8 q8 x8 st8 hd8 => ⟨y, S8, st8, x8, hd8, q8⟩⟩) fun u8 s8 ⟨v8, H8, I8, r8, y, S8, st8, x8, hd8, q8⟩ => ?_
      obtain ⟨a8, d8⟩ := pinD I8
      refine call_meets F.slot_list_append ⟨_, a8, rfl⟩ F.entry_list_append (F.args_list_append_2 _ _) (PySem.list_append D us.toArray k u8 (by rw [List.size_toArray, ← v3.length]; omega)) ⟨a8, ?_⟩
      have q := PySem.IsL.update a8 (fun xs => xs.push u8)
      have eu : us.toArray.push u8 = (us ++ [u8]).toArray := by simp
      rw [eu] at q
      obtain ⟨fk, f8⟩ := pinF I8
      have fD := hfD H8 d8
      have I9 : ∀ t', L2.Inv (cxF X sc x fy cl C s2 H2 fp) [] (σ'.set 0 (some vs[i])) H8 { s8 with heap := s8.heap.update D (Obj.mapSeq fun xs => xs.push u8), toks := t' } := fun t' =>
        (I8.pins_of (pins' := []) (fun p hp => by cases hp)).turned (it := D) (fun b o hb e => (Heap.get?_update_other s8.heap (Obj.mapSeq fun xs => xs.push u8) (Ne.symm hb)).trans e) d8 fD.2.1 fD.2.2.2.1 fD.2.2.2.2.1 fD.2.2.2.2.2
      refine again (acc ++ [y]) (us ++ [u8]) (ys ++ [v8]) _ H8 S8 _ [] (I9 _) y6 (fun b hb o e => (Heap.get?_update_other s8.heap (Obj.mapSeq fun xs => xs.push u8) (fun z => hDf (by rw [z]; exact hb))).trans (fk b hb o e)) f8 d8 ⟨_, q⟩ (v3.append (.cons r8 .nil)) ?_ (dens_append (dens_ext (x7.trans x8) _ _ e3) (dens_cons hd8 dens_nil)) st8 (x3.trans (x7.trans x8)) q8
      rw [List.length_append, List.length_singleton]
      exact Nat.succ_le_succ l3
  · have ei : i = vs.length := by omega
    have ffp : ∀ b ∈ fp, FpOk (cxF X sc x fy cl C s2 H2 fp) ([] ++ [(D, { cls := .type "list", data := .seq us.toArray k })]) H' b := fun b hb => by
      obtain ⟨g0, g1, g2, g3, g4, g5⟩ := hff H' f3 b hb
      refine ⟨g0, g1, g2, g3, g4, fun p hp z => ?_⟩
      have hp' : p ∈ ([(D, { cls := .type "list", data := .seq us.toArray k })] : List (Addr × Obj)) := hp
      cases List.mem_singleton.mp hp'
      exact hDf (by rw [show D = b from z]; exact hb)
    refine thn (T.done (cxF X sc x fy cl C s2 H2 fp) rfl rfl rfl hcalm i _ s3 σ' H' _ I3d ffp t3 (show nn ≤ i by rw [← rngV_len lo nn, ← hvs]; omega)) fun r s4 ⟨er, I4⟩ => ?_
    subst er
    obtain ⟨a4, d4⟩ := Inv.pinned1 I4
    rw [List.drop_eq_nil_of_le (by omega)] at c3
    exact fin acc us ys σ' H' S' s4 (I4.pins_of (pins' := []) (fun p hp => by cases hp)) d4 ⟨k, a4⟩ v3 (by omega) e3 st3 x3 c3
theorem comp_runR {pins : List (Addr × Obj)} {σ : L2.St} {H2 : Hp} {s2 : Shared} {it : Addr} {lo : Int} {nn : Nat} {fp : List Addr} {tn : Nat → Heap → Prop} {vs : List V} {ds : List Dv} {vys : List V} {dys : List Dv} {cl : List (Str × Addr)} {S1 : Sto} {Qf : List Dv → Sto → Prop} {R : Value → Addr → Result → Shared → Prop} {E : Value → Shared → Prop}
    (ht : ∀ cl C s H fp, TestsOk (cxF X sc x fy cl C s H fp) ifs wt) (he : ∀ cl C s H fp, DE (cxF X sc x fy cl C s H fp) elt we) (hcell : ∀ y ∈ sc.names, y.2 ≠ .cell) (hkind : sc.kind = .function) (hx : (relabel sc X.env).names.lookup x = some .local) (hnd : (x :: fy).Nodup) (hcalm : X.calm = true)
    (I2 : L2.Inv X pins σ H2 s2) (cok : ClOk X sc fy cl vys s2.heap) (T : Turn X.prog X.w X.K (.Name x px) (Itr lo nn) fp it tn) (t2 : tn 0 s2.heap) (f2 : ∀ b ∈ fp, FpOk X pins H2 b) (hvs : vs = rngV lo nn) (hz : vs.length ≤ sizeLine) (hv : dens X.K H2 ds vs) (hdy : dens X.K H2 dys vys) (sto : StOk X.K H2 S1)
    (hc : cmpL (wt2 dys wt) (we2 dys we) ds S1 [] Qf)
    (fin : ∀ (acc : List Dv) (us : List Value) (zs : List V) (σ' : L2.St) (H' : Hp) (S' : Sto) (s' : Shared), Inv (cxF X sc x fy cl (s2.heap.objs.size + 1) s2 H2 fp) [] σ' H' s' → H' s2.heap.objs.size = none → AccAt s'.heap s2.heap.objs.size us → Vals zs us → zs.length ≤ sizeLine → dens X.K H' acc zs → StOk X.K H' S' → Ext H2 H' → Qf acc S' → R (.ref s2.heap.objs.size) (s2.heap.objs.size + 1) (.ok .next) s') :
    wpAny (model X.prog X.w) X.A (newList []) (fun acc s₃ => wpAny (model X.prog X.w) X.A (newFunctionEnv sc X.env.globals cl [] X.env.qual none .none (some X.env)) (fun cenv s₄ =>
      codeAny (model X.prog X.w) X.A (.compStart (.ListComp elt [⟨.Name x px, iter, ifs, 0⟩] sc pos) 0 (.ref it) acc { cenv with scope := relabel sc X.env }) (R acc cenv.locals) s₄) E s₃) E s2 := by
  refine wpAny_newObj_type (wpAny_newFunctionEnv hcell (by intro y hy; cases hy) (fun h₁ hns hsb => ?_) hkind)
  have hlt : ∀ b ∈ fp, b < s2.heap.objs.size := fun b hb => by
    obtain ⟨o, e, _⟩ := T.obj 0 s2.heap t2 b hb
    exact Heap.lt_size e
  have eC : (s2.heap.push { cls := .type "list", data := .seq #[] }).objs.size = s2.heap.objs.size + 1 := Heap.size_push ..
  have keep : ∀ b o, s2.heap.get? b = some o → h₁.get? b = some o := fun b o e => by
    have z : b ≠ (s2.heap.push { cls := .type "list", data := .seq #[] }).objs.size := by
      rw [eC]; exact Nat.ne_of_lt (Nat.lt_succ_of_lt (Heap.lt_size e))
    exact (hsb.2 b z).trans (Heap.get?_push_of_some _ (Heap.get?_push_of_some _ e))
  have acc0 : AccAt h₁ s2.heap.objs.size [] := by
    have z : s2.heap.objs.size ≠ (s2.heap.push { cls := .type "list", data := .seq #[] }).objs.size := by
      rw [eC]; exact Nat.ne_of_lt (Nat.lt_succ_self _)
    exact ⟨_, (hsb.2 _ z).trans (Heap.get?_push_of_some _ (Heap.get?_push_size _ rfl))⟩
  have hns' : h₁.Ns (s2.heap.objs.size + 1) fun x => List.lookup x ([] : List (Str × Value)).reverse := by
    have q := hns
    dsimp only at q
    rw [eC] at q
    exact q
  have I4 : ∀ t, L2.Inv (cxF X sc x fy cl (s2.heap.objs.size + 1) s2 H2 fp) [] (none :: vys.map some) H2 { s2 with heap := h₁, toks := t } := fun t => inv_compF I2 cok (Nat.le_succ _) keep hns' hkind f2 hlt
  have notD : ∀ y c, cl.lookup y = some c → c < s2.heap.objs.size := fun y c e => by
    obtain ⟨v, o, e, _⟩ := I2.cell y c (cok.sub y c e)
    exact Heap.lt_size e
  have loop : ∀ t, codeAny (model X.prog X.w) X.A (.compLoop (.ListComp elt [⟨.Name x px, iter, ifs, 0⟩] sc pos) 0 (.ref it) (.ref s2.heap.objs.size) (cxF X sc x fy cl (s2.heap.objs.size + 1) s2 H2 fp).env)
      (R (.ref s2.heap.objs.size) (s2.heap.objs.size + 1)) { s2 with heap := h₁, toks := t } := fun t => by
    refine comp_loopR (C := s2.heap.objs.size + 1) (D := s2.heap.objs.size) (s2 := s2) (H2 := H2) (vs := vs) (ds := ds) (dys := dys) ht he hx hdy hnd hcalm T ?_ ?_ (fun z => absurd (hlt _ z) (Nat.lt_irrefl _)) hvs hv hz ?_ 0 [] [] [] (none :: vys.map some) H2 S1 _ (Nat.zero_le _) (I4 t) rfl (T.keep 0 s2.heap h₁ t2 fun b hb o e => keep b o e) (fun b hb => (f2 b hb).1) I2.fresh acc0 .nil (Nat.le_refl _) dens_nil sto (Ext.refl _) hc
    · intro H' d
      refine ⟨d, Nat.ne_of_lt (Nat.lt_succ_self _), stk_no I2 (Nat.ne_of_gt I2.lt) (I2.nofs (Nat.le_refl _)), .inr (Nat.le_refl _), fun y c e => Nat.ne_of_lt (notD y c e), fun p hp => ?_⟩
      have hp' : p ∈ ([] : List (Addr × Obj)) := hp
      cases hp'
    · intro H' hn b hb
      refine ⟨hn b hb, Nat.ne_of_lt (Nat.lt_succ_of_lt (hlt b hb)), stk_no I2 (f2 b hb).2.1 (f2 b hb).2.2.1, .inl hb, fun y c e => (f2 b hb).2.2.2.2.1 y c (cok.sub y c e), fun p hp => ?_⟩
      have hp' : p ∈ ([] : List (Addr × Obj)) := hp
      cases hp'
    · exact fin
  have fin := codeAny_compStart_list (loop (s2.toks + ([] : List (Str × Value)).length)) (T.self X.A 0 _ _ _ (T.keep 0 s2.heap h₁ t2 fun b hb o e => keep b o e) (loop _))
  simp only [eC]
  exact fin
theorem de_compRG (fr : Frees X sc is fy) (hi : DR X (.Name x px) iter src) (ht : ∀ cl C s H fp, TestsOk (cxF X sc x fy cl C s H fp) ifs wt) (he : ∀ cl C s H fp, DE (cxF X sc x fy cl C s H fp) elt we)
    (hcell : ∀ y ∈ sc.names, y.2 ≠ .cell) (hkind : sc.kind = .function) (hnames : ∀ y ∈ sc.names, y.2 = .local → sc.names.lookup y.1 = some .local) (hx : (relabel sc X.env).names.lookup x = some .local) (hnd : (x :: fy).Nodup) (hcalm : X.calm = true)
    (hs : ∀ x, foldedSetIterable iter X.env x = pure x) : DE X (.ListComp elt [⟨.Name x px, iter, ifs, 0⟩] sc pos) (wCompR is src wt we) := by
  intro pins s σ H Q I ⟨ρ, S, Q', env, st, hw, post⟩
  have hpi := hi pins s σ H (fun J H1 => ∃ lo nn S1, J = Itr lo nn ∧ nn ≤ 1000 ∧ StOk X.K H1 S1 ∧ Ext H H1 ∧ goL (evs? ρ is) fun dys => cmpL (wt2 dys wt) (we2 dys we) (rngD lo nn) S1 [] fun zs S2 => Q' (.lst zs) S2) I
    ⟨ρ, S, _, env, st, hw, fun lo nn S1 H1 q e st1 => ⟨lo, nn, S1, rfl, q.1, st1, e, q.2⟩⟩
  obtain ⟨cl, hclos, sub, has⟩ := clos_of I.ok fr
  rw [eval_ListComp]
  refine wpAny_comprehension_free (g := ⟨.Name x px, iter, ifs, 0⟩) (gs := []) rfl hs hclos hkind hnames (thn hpi fun xv s1 h1 => thn h1 fun itv s2 h2 => ?_)
  obtain ⟨it, fp, tn, J, H2, rfl, I2, T, t2, f2, lo, nn, S1, rfl, hnn, sto, ex, hc⟩ := h2
  obtain ⟨dys, hdys, hc⟩ := goL_inv hc
  obtain ⟨vys, hdy, hvy⟩ := vals_of (X := X) (env.ext ex) hdys
  have cok := clok_of I2 fr sub has (by rw [dens_len hdy, (evs_at hdys).1, fr.len]) hvy
  refine comp_runR (R := compPost (model X.prog X.w) X.A X.xe none (EP X pins σ Q)) ht he hcell hkind hx hnd hcalm I2 cok T t2 f2 rfl (by rw [rngV_len]; exact small1 hnn) (rng_dens lo nn) hdy sto hc fun acc us zs σ' H' S' s' I' d' a' v' z' e' st' x' q' => ?_
  obtain ⟨m, hm, _⟩ := I'.loc
  refine ⟨m, hm, fun h' sb => ?_⟩
  obtain ⟨o, I''⟩ := comp_endF I2 f2 I' (Nat.lt_succ_self _) d' a' v' z' sb
  have sm := same_new d' (.frz o (.lst zs))
  exact ⟨.ref s2.heap.objs.size, _, I'', rfl, post (.lst acc) S' (.ref s2.heap.objs.size) _ q' ((ex.trans x').trans (ext_same sm)) (st'.same sm) ⟨_, o, zs, rfl, upd_same, dens_ext (ext_same sm) _ _ e'⟩⟩
end
theorem frees0 {X : Cx} {sc : Scope} (h4 : closureFor sc X.env = pure []) (h5 : ∀ z ∈ sc.names, z.2 ≠ .cell) (h6 : ∀ z ∈ sc.names, z.2 ≠ .free) : Frees X sc [] [] := by
  refine ⟨rfl, fun j i' y' e1 e2 => ?_, fun cs l h => ⟨[], h4, (fun z c e => by simp at e), (fun y hy => by simp at hy)⟩, fun z hz => ?_⟩
  · simp at e1
  · have hm : ∃ k, (z, k) ∈ (relabel sc X.env).names ∧ (k = .cell ∨ k = .free) := by
      rcases hz with e | e
      · exact ⟨.cell, PySem.mem_of_lookup e, .inl rfl⟩
      · exact ⟨.free, PySem.mem_of_lookup e, .inr rfl⟩
    obtain ⟨k, hm, hk⟩ := hm
    obtain ⟨⟨n, k0⟩, hn, e⟩ := List.mem_map.mp hm
    dsimp only at e
    split at e
    · rename_i hc
      cases e
      have hf : k0 = .free := by
        have z1 := (Bool.and_eq_true_iff.mp (Bool.and_eq_true_iff.mp hc).1).1
        simpa using z1
      exact absurd hf (h6 _ hn)
    · cases e
      rcases hk with hk | hk
      · exact absurd hk (h5 _ hn)
      · exact absurd hk (h6 _ hn)
theorem de_compR {X : Cx} {elt iter : Expr} {x : Str} {px pos : Pos} {sc : Scope} {src : WRg} {we : WE} (hi : DR X (.Name x px) iter src) (he : ∀ cl C s H fp, DE (cxF X sc x [] cl C s H fp) elt we)
    (h4 : closureFor sc X.env = pure [] := by first | rfl | simp [closureFor]) (h5 : ∀ z ∈ sc.names, z.2 ≠ .cell := by decide) (h6 : ∀ z ∈ sc.names, z.2 ≠ .free := by decide) (hkind : sc.kind = .function := by rfl) (hnames : ∀ y ∈ sc.names, y.2 = .local → sc.names.lookup y.1 = some .local := by decide) (hx : (relabel sc X.env).names.lookup x = some .local := by rfl) (hcalm : X.calm = true := by rfl)
    (hs : ∀ x, foldedSetIterable iter X.env x = pure x := by intro _; rfl) : DE X (.ListComp elt [⟨.Name x px, iter, [], 0⟩] sc pos) (wCompR [] src wYes we) :=
  de_compRG (frees0 h4 h5 h6) hi (fun cl C s H fp => tests_none) he h5 hkind hnames hx (by simp) hcalm hs
theorem de_compR1 {X : Cx} {elt iter : Expr} {x y : Str} {px pos : Pos} {sc : Scope} {src : WRg} {we : WE} (i : Nat) (hi : DR X (.Name x px) iter src) (he : ∀ cl C s H fp, DE (cxF X sc x [y] cl C s H fp) elt we)
    (h1 : X.N[i]? = some y := by rfl) (h2 : X.env.kindOf y = some .cell := by rfl) (h3 : (relabel sc X.env).names.lookup y = some .cell := by rfl) (h4 : ∀ c, X.env.cells.lookup y = some c → closureFor sc X.env = pure [(y, c)] := by intro c h; first | (simp [closureFor, cellOf, h]; done) | (simp [closureFor, cellOf, h]; rfl))
    (h5 : ∀ z ∈ sc.names, z.2 ≠ .cell := by decide) (h6 : ∀ z ∈ sc.names, z.2 = .free → z.1 = y := by decide) (hkind : sc.kind = .function := by rfl) (hnames : ∀ y ∈ sc.names, y.2 = .local → sc.names.lookup y.1 = some .local := by decide) (hx : (relabel sc X.env).names.lookup x = some .local := by rfl) (hnd : [x, y].Nodup := by decide +kernel) (hcalm : X.calm = true := by rfl)
    (hs : ∀ x, foldedSetIterable iter X.env x = pure x := by intro _; rfl) : DE X (.ListComp elt [⟨.Name x px, iter, [], 0⟩] sc pos) (wCompR [i] src wYes we) :=
  de_compRG (frees1 h1 h2 h3 h4 h5 h6) hi (fun cl C s H fp => tests_none) he h5 hkind hnames hx hnd hcalm hs
@[simp ↓] theorem wR1_eq {t : WA} {ρ : Ev} {S : Sto} {Q : Int → Nat → Sto → Prop} : wR1 t ρ S Q = t ρ S (fun l S1 => goR1K l fun j => Q 0 j.toNat S1) := id rfl
@[simp ↓] theorem wR2_eq {t : WA} {ρ : Ev} {S : Sto} {Q : Int → Nat → Sto → Prop} : wR2 t ρ S Q = t ρ S (fun l S1 => goR2K l fun lo j => Q lo (j - lo).toNat S1) := id rfl
@[simp ↓] theorem wCompR_eq {is : List Nat} {src : WRg} {wt : WT} {we : WE} {ρ : Ev} {S : Sto} {Q : QE} : wCompR is src wt we ρ S Q = src ρ S (fun lo n S1 => n ≤ 1000 ∧ goLK (evs? ρ is) fun dys => cmpL (wt2 dys wt) (we2 dys we) (rngD lo n) S1 [] fun zs S2 => Q (.lst zs) S2) := id rfl
end MQ
namespace MQ
open PySem PySem.Spec PyProof.Rows L2
structure HS where
  rows : List Rw
  ss : List Slip
inductive Deed where
  | write (h p : Nat) (z : Str)
  | rub (h p m : Nat)
  | tell (g t w : Nat)
  | share (g t : Nat)
inductive Ans where
  | made (ss : List Slip)
  | yes (b : Bool)
  | no
  | num (k : Nat)
noncomputable def deedD : Deed → Dv
  | .write h p z => .tup [.str "write", .int ((h : Int) + 1), .int p, .str z]
  | .rub h p m => .tup [.str "rub", .int ((h : Int) + 1), .int p, .int m]
  | .tell g t w => .tup [.str "tell", .int ((g : Int) + 1), .int ((t : Int) + 1), .int w]
  | .share g t => .tup [.str "share", .int ((g : Int) + 1), .int ((t : Int) + 1)]
noncomputable def ansD : Ans → Dv
  | .made ss => .lst (ss.map slipD)
  | .yes b => .bl b
  | .no => .non
  | .num k => .int k
noncomputable def wrote (n : Nat) (s : HS) (p : Nat) (z : Str) : List Slip := putsOf (most s.rows + 1) ((n : Int) + 1) (ahead s.rows p) (chs z)
noncomputable def rubs (s : HS) (p m : Nat) : List Slip := cutsOf (rubT s.rows p m)
inductive Stp : List HS → Deed → List HS → Ans → Prop
  | write {hs : List HS} {h p : Nat} {z : Str} {s : HS} {rows' : List Rw} {ss' : List Slip} {k : Nat} : hs[h]? = some s → s.rows.length ≤ 1000 → z.length ≤ 1000 → HA s.rows s.ss (wrote h s p z) rows' ss' k → Stp hs (.write h p z) (hs.set h ⟨rows', ss'⟩) (.made (wrote h s p z))
  | rub {hs : List HS} {h p m : Nat} {s : HS} {rows' : List Rw} {ss' : List Slip} {k : Nat} : hs[h]? = some s → HA s.rows s.ss (rubs s p m) rows' ss' k → Stp hs (.rub h p m) (hs.set h ⟨rows', ss'⟩) (.made (rubs s p m))
  | past {hs : List HS} {g t w : Nat} {s u : HS} : hs[g]? = some s → hs[t]? = some u → s.ss.length ≤ w → Stp hs (.tell g t w) hs .no
  | old {hs : List HS} {g t w : Nat} {s u : HS} {q : Slip} : hs[g]? = some s → hs[t]? = some u → s.ss[w]? = some q → Okh u.rows u.ss → okSl q → q ∈ u.ss → Stp hs (.tell g t w) hs (.yes false)
  | new {hs : List HS} {g t w : Nat} {s u : HS} {q : Slip} {rows' : List Rw} : hs[g]? = some s → hs[t]? = some u → s.ss[w]? = some q → Okh u.rows u.ss → okSl q → q ∉ u.ss → hrdF u.rows q = some rows' → okAt u.ss q → Stp hs (.tell g t w) (hs.set t ⟨rows', u.ss ++ [q]⟩) (.yes true)
  | refused {hs : List HS} {g t w : Nat} {s u : HS} {q : Slip} {nm : Str} : hs[g]? = some s → hs[t]? = some u → s.ss[w]? = some q → Okh u.rows u.ss → okSl q → q ∉ u.ss → hrdX u.rows q = some nm → ¬ okAt u.ss q → Stp hs (.tell g t w) hs .no
  | share {hs : List HS} {g t : Nat} {s u : HS} {rows' : List Rw} {ss' : List Slip} {k : Nat} : hs[g]? = some s → hs[t]? = some u → HA u.rows u.ss s.ss rows' ss' k → Stp hs (.share g t) (hs.set t ⟨rows', ss'⟩) (.num k)
inductive Run : List HS → List Deed → List HS → List Ans → Prop
  | nil {hs : List HS} : Run hs [] hs []
  | cons {hs h1 h2 : List HS} {d : Deed} {ds : List Deed} {a : Ans} {as : List Ans} : Stp hs d h1 a → Run h1 ds h2 as → Run hs (d :: ds) h2 (a :: as)
theorem Run.app {a b c : List HS} {ds es : List Deed} {as bs : List Ans} (h : Run a ds b as) (k : Run b es c bs) : Run a (ds ++ es) c (as ++ bs) := by
  induction h with
  | nil => exact k
  | cons s _ ih => exact .cons s (ih k)
theorem Run.len {a b : List HS} {ds : List Deed} {as : List Ans} (h : Run a ds b as) : as.length = ds.length := by
  induction h with
  | nil => rfl
  | cons s _ ih => rw [List.length_cons, List.length_cons, ih]
noncomputable def Al (hs : List HS) (s : Slip) : Prop := ∃ h ∈ hs, s ∈ h.ss
theorem sub_len {α : Type} : ∀ {l m : List α}, l.Nodup → (∀ x ∈ l, x ∈ m) → l.length ≤ m.length
  | [], _, _, _ => Nat.zero_le _
  | a :: l, m, nd, h => by
    obtain ⟨n1, n2⟩ := List.nodup_cons.mp nd
    obtain ⟨s, t, e⟩ := List.append_of_mem (h a List.mem_cons_self)
    subst e
    have z := sub_len (l := l) (m := s ++ t) n2 fun x hx => by
      rcases List.mem_append.mp (h x (List.mem_cons_of_mem _ hx)) with q | q
      · exact List.mem_append_left _ q
      · rcases List.mem_cons.mp q with q | q
        · rw [q] at hx; exact absurd hx n1
        · exact List.mem_append_right _ q
    rw [List.length_append] at z
    rw [List.length_append, List.length_cons, List.length_cons]
    omega
theorem Fit.sub {U V : Slip → Prop} (F : Fit U) (h : ∀ s, V s → U s) : Fit V := ⟨fun t b x v => F.put t b x (h _ v), fun t b x b' x' v v' => F.one t b x b' x' (h _ v) (h _ v')⟩
theorem dd_cz : ∀ (r ss d : List Slip), (∀ x ∈ d, x ∈ ss) → Cz [] ss → Cz d r → Cz [] (dd ss r)
  | [], ss, d, _, h, _ => h
  | s :: r, ss, d, hd, h, k => by
    unfold dd
    split
    · rename_i hm
      exact dd_cz r ss (d ++ [s]) (fun x hx => by
        rcases List.mem_append.mp hx with z | z
        · exact hd x z
        · rw [List.mem_singleton.mp z]; exact hm) h k.2
    · refine dd_cz r (ss ++ [s]) (d ++ [s]) (fun x hx => ?_) ?_ k.2
      · rcases List.mem_append.mp hx with z | z
        · exact List.mem_append_left _ (hd x z)
        · exact List.mem_append_right _ z
      · rw [Cz.app]
        exact ⟨h, okAt_mono (fun x hx => by rw [List.nil_append]; exact hd x hx) k.1, trivial⟩
theorem dd_nd : ∀ (r ss : List Slip), ss.Nodup → (dd ss r).Nodup
  | [], ss, h => h
  | s :: r, ss, h => by
    unfold dd
    split
    · exact dd_nd r ss h
    · rename_i hm
      refine dd_nd r (ss ++ [s]) ?_
      rw [List.nodup_append]
      exact ⟨h, List.nodup_cons.mpr ⟨List.not_mem_nil, List.nodup_nil⟩, fun a ha b hb e => hm (by rw [← List.mem_singleton.mp hb, ← e]; exact ha)⟩
structure WI (n : Nat) (hs : List HS) (Pm : List Slip) (Cm : List Tag) : Prop where
  len : hs.length = n
  fit : Fit (Al hs)
  hrd : ∀ h ∈ hs, Hrd (Al hs) h.rows h.ss
  cz : ∀ h ∈ hs, Cz [] h.ss
  nd : ∀ h ∈ hs, h.ss.Nodup
  own : ∀ t b x, Al hs (.put t b x) → 1 ≤ t.1 ∧ x.length = 1 ∧ ∃ (k : Nat) (h : HS), hs[k]? = some h ∧ t.2 = (k : Int) + 1 ∧ Slip.put t b x ∈ h.ss
  puts : ∀ t b x, Al hs (.put t b x) ↔ Slip.put t b x ∈ Pm
  onlyp : ∀ s ∈ Pm, isPut s = true
  pnd : (putTags Pm).Nodup
  cuts : ∀ t, Al hs (.cut t) ↔ t ∈ Cm
theorem Fit.none {U : Slip → Prop} (h : ∀ s, ¬ U s) : Fit U := ⟨fun _ _ _ u => absurd u (h _), fun _ _ _ _ _ u => absurd u (h _)⟩
noncomputable def hs0 (n : Nat) : List HS := List.replicate n ⟨[], []⟩
theorem WI.start (n : Nat) : WI n (hs0 n) [] [] := by
  have e : ∀ h ∈ hs0 n, h = ⟨[], []⟩ := fun h hh => (List.mem_replicate.mp hh).2
  have no : ∀ s, ¬ Al (hs0 n) s := fun s ⟨h, hh, m⟩ => by rw [e h hh] at m; cases m
  refine ⟨List.length_replicate, Fit.none no, fun h hh => ?_, fun h hh => ?_, fun h hh => ?_, fun t b x a => absurd a (no _), (fun t b x => ⟨fun a => absurd a (no _), fun a => by cases a⟩), (fun s hs => by cases hs), List.nodup_nil, (fun t => ⟨fun a => absurd a (no _), fun a => by cases a⟩)⟩
  · rw [e h hh]; exact .nil
  · rw [e h hh]; exact trivial
  · rw [e h hh]; exact List.nodup_nil
section
variable {n : Nat} {hs : List HS} {Pm : List Slip} {Cm : List Tag}
theorem WI.rowsLen (w : WI n hs Pm Cm) {h : HS} (hh : h ∈ hs) : h.rows.length ≤ Pm.length := by
  have z := sub_len (l := h.rows.map Rw.tag) (m := putTags Pm) (w.hrd h hh).gd.nd fun t ht => by
    obtain ⟨r, hr, e⟩ := List.mem_map.mp ht
    have p := ((w.hrd h hh).put r hr).1
    rw [e] at p
    exact mem_putTags.mpr ⟨_, _, (w.puts _ _ _).mp ⟨h, hh, p⟩⟩
  rw [List.length_map] at z
  refine Nat.le_trans z ?_
  unfold putTags
  exact List.length_filterMap_le _ _
theorem cutTags_nd : ∀ {ss : List Slip}, ss.Nodup → (cutTags ss).Nodup
  | [], _ => List.nodup_nil
  | .put t b x :: ss, h => cutTags_nd (ss := ss) (List.nodup_cons.mp h).2
  | .cut t :: ss, h => by
    show (t :: cutTags ss).Nodup
    exact List.nodup_cons.mpr ⟨fun m => (List.nodup_cons.mp h).1 (mem_cutTags.mp m), cutTags_nd (List.nodup_cons.mp h).2⟩
theorem split_len : ∀ ss : List Slip, ss.length = (ss.filter isPut).length + (cutTags ss).length
  | [] => rfl
  | .put t b x :: ss => by
    rw [show (Slip.put t b x :: ss).filter isPut = Slip.put t b x :: ss.filter isPut from rfl, show cutTags (Slip.put t b x :: ss) = cutTags ss from rfl, List.length_cons, List.length_cons, split_len ss]; omega
  | .cut t :: ss => by
    rw [show (Slip.cut t :: ss).filter isPut = ss.filter isPut from rfl, show cutTags (Slip.cut t :: ss) = t :: cutTags ss from rfl, List.length_cons, List.length_cons, split_len ss]; omega
theorem WI.ssLen (w : WI n hs Pm Cm) {h : HS} (hh : h ∈ hs) : h.ss.length ≤ 2 * Pm.length := by
  have z1 := sub_len (l := h.ss.filter isPut) (m := Pm) ((w.nd h hh).filter _) fun s hm => by
    obtain ⟨m, p⟩ := List.mem_filter.mp hm
    cases s with
    | put t b x => exact (w.puts _ _ _).mp ⟨h, hh, m⟩
    | cut t => cases p
  have z2 := sub_len (l := cutTags h.ss) (m := h.rows.map Rw.tag) (cutTags_nd (w.nd h hh)) fun t ht => by
    obtain ⟨r, hr, e⟩ := (w.hrd h hh).cut t (mem_cutTags.mp ht)
    rw [← e]; exact List.mem_map_of_mem hr
  rw [List.length_map] at z2
  have z3 := w.rowsLen hh
  rw [split_len h.ss]
  omega
theorem WI.okh (w : WI n hs Pm Cm) {h : HS} (hh : h ∈ hs) (hP : Pm.length ≤ 1000) : Okh h.rows h.ss :=
  ⟨by have := w.rowsLen hh; omega, by have := w.ssLen hh; omega, (w.hrd h hh).ok, fun s hs => w.fit.okSl ⟨h, hh, hs⟩⟩
theorem al_set {t : Nat} {u : HS} {rows' : List Rw} {ss' r : List Slip} (ht : hs[t]? = some u) (hm : ∀ s, s ∈ ss' ↔ s ∈ u.ss ∨ s ∈ r) (s : Slip) : Al (hs.set t ⟨rows', ss'⟩) s ↔ Al hs s ∨ s ∈ r := by
  have hl := (List.getElem?_eq_some_iff.mp ht).1
  constructor
  · rintro ⟨h, hh, m⟩
    obtain ⟨k, hk⟩ := List.mem_iff_getElem?.mp hh
    rw [List.getElem?_set] at hk
    split at hk
    · cases hk
      rcases (hm s).mp m with z | z
      · exact .inl ⟨u, List.mem_of_getElem? ht, z⟩
      · exact .inr z
    · exact .inl ⟨h, List.mem_of_getElem? hk, m⟩
  · have new : (⟨rows', ss'⟩ : HS) ∈ hs.set t ⟨rows', ss'⟩ := List.mem_of_getElem? (List.getElem?_set_self hl)
    rintro (⟨h, hh, m⟩ | m)
    · obtain ⟨k, hk⟩ := List.mem_iff_getElem?.mp hh
      by_cases e : t = k
      · subst e
        rw [ht] at hk
        cases hk
        exact ⟨_, new, (hm s).mpr (.inl m)⟩
      · exact ⟨h, List.mem_of_getElem? (i := k) (by rw [List.getElem?_set_ne e]; exact hk), m⟩
    · exact ⟨_, new, (hm s).mpr (.inr m)⟩
theorem mem_set {t : Nat} {u x h : HS} (ht : hs[t]? = some u) (hh : h ∈ hs.set t x) : h = x ∨ h ∈ hs := by
  rcases List.mem_or_eq_of_mem_set hh with z | z
  · exact .inr z
  · exact .inl z
theorem WI.hear (w : WI n hs Pm Cm) {t : Nat} {u : HS} {r d : List Slip} {Pm' : List Slip} {Cm' : List Tag} (ht : hs[t]? = some u) (F : Fit fun s => Al hs s ∨ s ∈ r) (hd : ∀ x ∈ d, x ∈ u.ss) (hc : Cz d r)
    (own : ∀ c b x, Slip.put c b x ∈ r → Al hs (.put c b x) ∨ (1 ≤ c.1 ∧ x.length = 1 ∧ c.2 = (t : Int) + 1)) (puts : ∀ c b x, (Al hs (.put c b x) ∨ Slip.put c b x ∈ r) ↔ Slip.put c b x ∈ Pm') (onlyp : ∀ s ∈ Pm', isPut s = true) (pnd : (putTags Pm').Nodup)
    (cuts : ∀ c, (Al hs (.cut c) ∨ Slip.cut c ∈ r) ↔ c ∈ Cm') (hl : u.ss.length + r.length ≤ 5000) : ∃ rows' k, HA u.rows u.ss r rows' (dd u.ss r) k ∧ WI n (hs.set t ⟨rows', dd u.ss r⟩) Pm' Cm' := by
  have mu := List.mem_of_getElem? ht
  have tl := (List.getElem?_eq_some_iff.mp ht).1
  have hu : Hrd (fun s => Al hs s ∨ s ∈ r) u.rows u.ss := (w.hrd u mu).wide fun s hs => .inl ⟨u, mu, hs⟩
  obtain ⟨rows', k, ha, h'⟩ := HA.of F r u.rows u.ss d hu hd (fun s hs => .inr hs) hc hl
  have al := al_set (rows' := rows') ht (dd_mem r u.ss)
  have eA : Al (hs.set t ⟨rows', dd u.ss r⟩) = fun s => Al hs s ∨ s ∈ r := funext fun s => propext (al s)
  refine ⟨rows', k, ha, by rw [List.length_set]; exact w.len, by rw [eA]; exact F, fun h hh => ?_, fun h hh => ?_, fun h hh => ?_, fun c b x a => ?_, fun c b x => by rw [eA]; exact puts c b x, onlyp, pnd, fun c => by rw [eA]; exact cuts c⟩
  · rw [eA]
    rcases mem_set ht hh with e | hh
    · rw [e]; exact h'
    · exact (w.hrd h hh).wide fun s hs => .inl ⟨h, hh, hs⟩
  · rcases mem_set ht hh with e | hh
    · rw [e]; exact dd_cz r u.ss d hd (w.cz u mu) hc
    · exact w.cz h hh
  · rcases mem_set ht hh with e | hh
    · rw [e]; exact dd_nd r u.ss (w.nd u mu)
    · exact w.nd h hh
  · have old : Al hs (.put c b x) → 1 ≤ c.1 ∧ x.length = 1 ∧ ∃ (k : Nat) (h : HS), (hs.set t ⟨rows', dd u.ss r⟩)[k]? = some h ∧ c.2 = (k : Int) + 1 ∧ Slip.put c b x ∈ h.ss := fun a => by
      obtain ⟨h1, h2, j, h, h3, h4, h5⟩ := w.own c b x a
      refine ⟨h1, h2, j, ?_⟩
      by_cases e : t = j
      · subst e
        rw [ht] at h3
        cases h3
        exact ⟨_, List.getElem?_set_self tl, h4, (dd_mem r u.ss _).mpr (.inl h5)⟩
      · exact ⟨h, by rw [List.getElem?_set_ne e]; exact h3, h4, h5⟩
    rcases (al _).mp a with a | a
    · exact old a
    · rcases own c b x a with z | ⟨z1, z2, z3⟩
      · exact old z
      · exact ⟨z1, z2, t, _, List.getElem?_set_self tl, z3, (dd_mem r u.ss _).mpr (.inr a)⟩
theorem WI.hearOld (w : WI n hs Pm Cm) {t : Nat} {u : HS} {r d : List Slip} (ht : hs[t]? = some u) (hr : ∀ s ∈ r, Al hs s) (hd : ∀ x ∈ d, x ∈ u.ss) (hc : Cz d r) (hl : u.ss.length + r.length ≤ 5000) : ∃ rows' k, HA u.rows u.ss r rows' (dd u.ss r) k ∧ WI n (hs.set t ⟨rows', dd u.ss r⟩) Pm Cm := by
  have red : ∀ s, (Al hs s ∨ s ∈ r) ↔ Al hs s := fun s => ⟨fun z => z.elim id (hr s), .inl⟩
  exact w.hear ht (w.fit.sub fun s z => (red s).mp z) hd hc (fun c b x m => .inl (hr _ m)) (fun c b x => (red _).trans (w.puts c b x)) w.onlyp w.pnd (fun c => (red _).trans (w.cuts c)) hl
end
noncomputable def DOk (n : Nat) : Deed → Prop
  | .write h _ z => h < n ∧ z.length ≤ 12 ∧ PyData.strOk z = true
  | .rub h _ _ => h < n
  | .tell g t _ => g < n ∧ t < n
  | .share g t => g < n ∧ t < n
noncomputable def mP : Deed → Ans → List Slip
  | .write _ _ _, .made ss => ss
  | _, _ => []
noncomputable def mC : Deed → Ans → List Tag
  | .rub _ _ _, .made ss => cutTags ss
  | _, _ => []
theorem put_one : ∀ {ss : List Slip} {t b b' : Tag} {x x' : Str}, (putTags ss).Nodup → Slip.put t b x ∈ ss → Slip.put t b' x' ∈ ss → b = b' ∧ x = x'
  | [], _, _, _, _, _, _, h, _ => by cases h
  | .cut t0 :: ss, t, b, b', x, x', nd, h, k => by
    rcases List.mem_cons.mp h with e | h
    · cases e
    · rcases List.mem_cons.mp k with e | k
      · cases e
      · exact put_one (ss := ss) nd h k
  | .put t0 b0 x0 :: ss, t, b, b', x, x', nd, h, k => by
    have nd' : (t0 :: putTags ss).Nodup := nd
    obtain ⟨n1, n2⟩ := List.nodup_cons.mp nd'
    rcases List.mem_cons.mp h with e | h
    · injection e with e1 e2 e3
      rcases List.mem_cons.mp k with e' | k
      · injection e' with f1 f2 f3
        exact ⟨e2.trans f2.symm, e3.trans f3.symm⟩
      · exact absurd (mem_putTags.mpr ⟨b', x', by rw [← e1]; exact k⟩) n1
    · rcases List.mem_cons.mp k with e' | k
      · injection e' with f1 f2 f3
        exact absurd (mem_putTags.mpr ⟨b, x, by rw [← f1]; exact h⟩) n1
      · exact put_one (ss := ss) n2 h k
theorem putTags_app (a b : List Slip) : putTags (a ++ b) = putTags a ++ putTags b := by unfold putTags; rw [List.filterMap_append]
theorem mem_putsOf {n : Int} : ∀ {xs : List Str} {c : Int} {b : Tag} {s : Slip}, b.1 < c → s ∈ putsOf c n b xs → ∃ t b' x, s = .put t b' x ∧ t.2 = n ∧ c ≤ t.1 ∧ b'.1 < t.1 ∧ x ∈ xs
  | [], _, _, _, _, h => by cases h
  | y :: ys, c, b, s, hb, h => by
    rcases List.mem_cons.mp (show s ∈ .put (c, n) b y :: putsOf (c + 1) n (c, n) ys from h) with e | h
    · exact ⟨(c, n), b, y, e, rfl, Int.le_refl c, hb, List.mem_cons_self⟩
    · obtain ⟨t, b', x, e, h1, h2, h3, h4⟩ := mem_putsOf (xs := ys) (c := c + 1) (b := (c, n)) (by show c < c + 1; omega) h
      exact ⟨t, b', x, e, h1, by omega, h3, List.mem_cons_of_mem _ h4⟩
theorem putsOf_nd {n : Int} : ∀ (xs : List Str) (c : Int) (b : Tag), (putTags (putsOf c n b xs)).Nodup ∧ ∀ t ∈ putTags (putsOf c n b xs), c ≤ t.1
  | [], _, _ => ⟨List.nodup_nil, fun _ h => by cases h⟩
  | y :: ys, c, b => by
    obtain ⟨h1, h2⟩ := putsOf_nd (n := n) ys (c + 1) (c, n)
    show ((c, n) :: putTags (putsOf (c + 1) n (c, n) ys)).Nodup ∧ ∀ t ∈ (c, n) :: putTags (putsOf (c + 1) n (c, n) ys), c ≤ t.1
    refine ⟨List.nodup_cons.mpr ⟨fun z => ?_, h1⟩, fun t ht => ?_⟩
    · have := h2 _ z
      have : c + 1 ≤ c := this
      omega
    · rcases List.mem_cons.mp ht with e | ht
      · rw [e]; exact Int.le_refl c
      · have := h2 t ht; omega
theorem putsOf_cz {n : Int} : ∀ (xs : List Str) (c : Int) (b : Tag) (d : List Slip), (b = (0, 0) ∨ b ∈ putTags d) → Cz d (putsOf c n b xs)
  | [], _, _, _, _ => trivial
  | y :: ys, c, b, d, h => by
    show okAt d (.put (c, n) b y) ∧ Cz (d ++ [.put (c, n) b y]) (putsOf (c + 1) n (c, n) ys)
    refine ⟨?_, putsOf_cz ys (c + 1) (c, n) _ (.inr (mem_putTags.mpr ⟨b, y, List.mem_append_right _ (List.mem_singleton.mpr rfl)⟩))⟩
    rcases h with e | e
    · exact .inl e
    · exact .inr (mem_putTags.mp e)
theorem cutsOf_cz : ∀ (ts : List Tag) (d : List Slip), (∀ t ∈ ts, t ∈ putTags d) → Cz d (cutsOf ts)
  | [], _, _ => trivial
  | t :: ts, d, h => by
    show okAt d (.cut t) ∧ Cz (d ++ [.cut t]) (cutsOf ts)
    refine ⟨mem_putTags.mp (h t List.mem_cons_self), cutsOf_cz ts _ fun q hq => ?_⟩
    obtain ⟨b, x, z⟩ := mem_putTags.mp (h q (List.mem_cons_of_mem _ hq))
    exact mem_putTags.mpr ⟨b, x, List.mem_append_left _ z⟩
theorem cutTags_cuts : ∀ ts : List Tag, cutTags (cutsOf ts) = ts
  | [] => rfl
  | t :: ts => by
    show t :: cutTags (cutsOf ts) = _
    rw [cutTags_cuts ts]
theorem ahead_mem (rows : List Rw) (p : Nat) : ahead rows p = (0, 0) ∨ ∃ r ∈ rows, r.tag = ahead rows p := by
  have h := List.mem_of_getLast? (ahead_last rows p)
  rcases List.mem_cons.mp h with e | h
  · exact .inl e
  · obtain ⟨r, hr, e⟩ := List.mem_map.mp (List.mem_of_mem_take h)
    exact .inr ⟨r, there_sub hr, e⟩
theorem chs_one {z x : Str} (h : x ∈ chs z) : x.length = 1 := by
  unfold chs at h
  obtain ⟨c, _, rfl⟩ := List.mem_map.mp h
  rfl
section
variable {n : Nat} {hs : List HS} {Pm : List Slip} {Cm : List Tag}
theorem WI.tc (w : WI n hs Pm Cm) {h : HS} (hh : h ∈ hs) : ∀ r ∈ h.rows, 1 ≤ r.tc := fun r hr => (w.own _ _ _ ⟨h, hh, ((w.hrd h hh).put r hr).1⟩).1
theorem WI.one1 (w : WI n hs Pm Cm) {h : HS} (hh : h ∈ hs) : one1 h.rows := fun r hr => (w.own _ _ _ ⟨h, hh, ((w.hrd h hh).put r hr).1⟩).2.1
theorem WI.write (w : WI n hs Pm Cm) {h p : Nat} {z : Str} (hn : h < n) (hz : z.length ≤ 12) (okz : PyData.strOk z = true) (hP : Pm.length ≤ 1000) :
    ∃ s hs', hs[h]? = some s ∧ Stp hs (.write h p z) hs' (.made (wrote h s p z)) ∧ WI n hs' (Pm ++ wrote h s p z) Cm ∧ (wrote h s p z).length ≤ 12 := by
  have hl : h < hs.length := by rw [w.len]; exact hn
  have es : hs[h]? = some hs[h] := List.getElem?_eq_getElem hl
  generalize hs[h] = s at es
  have ms := List.mem_of_getElem? es
  have H := w.hrd s ms
  have tc := w.tc ms
  have nn := most_nn tc
  have bh : (ahead s.rows p).1 < most s.rows + 1 := by
    rcases ahead_mem s.rows p with e | ⟨r, hr, e⟩
    · rw [e]; show (0 : Int) < _; omega
    · rw [← e]
      have := most_ge r hr
      show r.tc < _
      omega
  have mem : ∀ q ∈ wrote h s p z, ∃ t b' x, q = .put t b' x ∧ t.2 = (h : Int) + 1 ∧ most s.rows + 1 ≤ t.1 ∧ b'.1 < t.1 ∧ x ∈ chs z := fun q hq => mem_putsOf bh hq
  have fresh : ∀ t b x b' x', Slip.put t b x ∈ wrote h s p z → ¬ Al hs (.put t b' x') := fun t b x b' x' hm a => by
    obtain ⟨t1, b1, x1, e, h1, h2, _, _⟩ := mem _ hm
    cases e
    obtain ⟨_, _, k, v, hk, e2, hv⟩ := w.own _ _ _ a
    have ek : k = h := by rw [h1] at e2; omega
    subst ek
    rw [es] at hk
    cases hk
    obtain ⟨r, hr, et⟩ := H.has _ _ _ hv
    have := most_ge r hr
    have e3 : r.tc = t.1 := congrArg Prod.fst et
    omega
  have nd := putsOf_nd (n := (h : Int) + 1) (chs z) (most s.rows + 1) (ahead s.rows p)
  have F : Fit fun q => Al hs q ∨ q ∈ wrote h s p z := by
    refine ⟨fun t b x a => ?_, fun t b x b' x' a a' => ?_⟩
    · rcases a with a | a
      · exact w.fit.put t b x a
      · obtain ⟨t1, b1, x1, e, h1, h2, h3, h4⟩ := mem _ a
        cases e
        exact ⟨ltr_iff.mpr (.inl h3), fun e => by have e1 : t.1 = 0 := congrArg Prod.fst e; omega, chs_ok okz x h4⟩
    · rcases a with a | a
      · rcases a' with a' | a'
        · exact w.fit.one t b x b' x' a a'
        · exact absurd a (fresh _ _ _ _ _ a')
      · rcases a' with a' | a'
        · exact absurd a' (fresh _ _ _ _ _ a)
        · exact put_one nd.1 a a'
  have cz : Cz s.ss (wrote h s p z) := putsOf_cz _ _ _ _ (by
    rcases ahead_mem s.rows p with e | ⟨r, hr, e⟩
    · exact .inl e
    · exact .inr (by rw [← e]; exact mem_putTags.mpr ⟨_, _, (H.put r hr).1⟩))
  have lw : (wrote h s p z).length ≤ 12 := by
    show (putsOf _ _ _ _).length ≤ 12
    rw [putsOf_len, chs_len]; exact hz
  have sl := w.ssLen ms
  have rl := w.rowsLen ms
  obtain ⟨rows', k, ha, w'⟩ := w.hear (Pm' := Pm ++ wrote h s p z) (Cm' := Cm) es F (fun x hx => hx) cz (fun c b x m => .inr (by
    obtain ⟨t1, b1, x1, e, h1, h2, h3, h4⟩ := mem _ m
    cases e
    exact ⟨by omega, chs_one h4, h1⟩)) (fun c b x => by rw [List.mem_append, w.puts]) (fun q hq => by
    rcases List.mem_append.mp hq with m | m
    · exact w.onlyp q m
    · obtain ⟨t1, b1, x1, e, _⟩ := mem _ m
      rw [e]; rfl) (by
    rw [putTags_app, List.nodup_append]
    refine ⟨w.pnd, nd.1, fun a ha b hb e => ?_⟩
    subst e
    obtain ⟨b1, x1, m1⟩ := mem_putTags.mp ha
    obtain ⟨b2, x2, m2⟩ := mem_putTags.mp hb
    exact fresh _ _ _ _ _ m2 ((w.puts _ _ _).mpr m1)) (fun c => ⟨(fun a => by
    rcases a with a | a
    · exact (w.cuts c).mp a
    · obtain ⟨t1, b1, x1, e, _⟩ := mem _ a
      cases e), (fun a => .inl ((w.cuts c).mpr a))⟩) (by omega)
  exact ⟨s, _, es, .write es (by omega) (by omega) ha, w', lw⟩
theorem mem_cutsOf {ts : List Tag} {s : Slip} : s ∈ cutsOf ts ↔ ∃ t ∈ ts, s = .cut t := by
  unfold cutsOf
  rw [List.mem_map]
  constructor
  · rintro ⟨t, h, rfl⟩; exact ⟨t, h, rfl⟩
  · rintro ⟨t, h, rfl⟩; exact ⟨t, h, rfl⟩
theorem WI.rub (w : WI n hs Pm Cm) {h p m : Nat} (hn : h < n) (hP : Pm.length ≤ 1000) :
    ∃ s hs', hs[h]? = some s ∧ Stp hs (.rub h p m) hs' (.made (rubs s p m)) ∧ WI n hs' Pm (Cm ++ rubT s.rows p m) ∧ (rubT s.rows p m).length ≤ m := by
  have hl : h < hs.length := by rw [w.len]; exact hn
  have es : hs[h]? = some hs[h] := List.getElem?_eq_getElem hl
  generalize hs[h] = s at es
  have ms := List.mem_of_getElem? es
  have H := w.hrd s ms
  have sub : ∀ t ∈ rubT s.rows p m, ∃ r ∈ s.rows, r.tag = t := fun t ht => by
    unfold rubT at ht
    obtain ⟨r, hr, e⟩ := List.mem_map.mp (List.mem_of_mem_drop (List.mem_of_mem_take ht))
    exact ⟨r, there_sub hr, e⟩
  have noput : ∀ c b x, Slip.put c b x ∉ rubs s p m := fun c b x hm => by
    obtain ⟨t, _, e⟩ := mem_cutsOf.mp hm
    cases e
  have F : Fit fun q => Al hs q ∨ q ∈ rubs s p m := ⟨fun t b x a => w.fit.put t b x (a.resolve_right (noput _ _ _)), fun t b x b' x' a a' => w.fit.one t b x b' x' (a.resolve_right (noput _ _ _)) (a'.resolve_right (noput _ _ _))⟩
  have cz : Cz s.ss (rubs s p m) := cutsOf_cz _ _ fun t ht => by
    obtain ⟨r, hr, e⟩ := sub t ht
    rw [← e]
    exact mem_putTags.mpr ⟨_, _, (H.put r hr).1⟩
  have l1 : (rubs s p m).length ≤ s.rows.length := by
    show (cutsOf (rubT s.rows p m)).length ≤ _
    unfold cutsOf rubT
    rw [List.length_map, List.length_take, List.length_drop, List.length_map]
    have := there_len s.rows
    omega
  have sl := w.ssLen ms
  have rl := w.rowsLen ms
  obtain ⟨rows', k, ha, w'⟩ := w.hear (Pm' := Pm) (Cm' := Cm ++ rubT s.rows p m) es F (fun x hx => hx) cz (fun c b x m => absurd m (noput _ _ _)) (fun c b x => ⟨fun a => (w.puts c b x).mp (a.resolve_right (noput _ _ _)), fun a => .inl ((w.puts c b x).mpr a)⟩) w.onlyp w.pnd (fun c => by
    rw [List.mem_append, w.cuts]
    have e : Slip.cut c ∈ rubs s p m ↔ c ∈ rubT s.rows p m := by
      show Slip.cut c ∈ cutsOf _ ↔ _
      rw [mem_cutsOf]
      constructor
      · rintro ⟨t, ht, e⟩; cases e; exact ht
      · exact fun ht => ⟨c, ht, rfl⟩
    rw [e]) (by omega)
  refine ⟨s, _, es, .rub es ha, w', ?_⟩
  unfold rubT
  rw [List.length_take]
  exact Nat.min_le_left _ _
theorem Hrd.not {U : Slip → Prop} (F : Fit U) {rows : List Rw} {ss : List Slip} (h : Hrd U rows ss) {q : Slip} (hU : U q) (hm : q ∉ ss) (no : ¬ okAt ss q) : hrdX rows q = some ("NotYet" : Str) := by
  cases q with
  | put t b x =>
    have ft : fnd t rows = none := fnd_none fun r hr e => by
      have p := (h.put r hr).1
      rw [e] at p
      obtain ⟨e1, e2⟩ := F.one _ _ _ _ _ (h.all _ p) hU
      rw [e1, e2] at p
      exact hm p
    have hb : bix rows b = none := by
      unfold bix
      rw [if_neg fun e => no (.inl e)]
      have fb : fnd b rows = none := fnd_none fun r hr e => no (.inr ⟨r.bhd, r.sg, by rw [← e]; exact (h.put r hr).1⟩)
      rw [fb]; rfl
    show putX rows t b x = _
    unfold putX
    rw [ft, hb]
  | cut t =>
    have ft : fnd t rows = none := fnd_none fun r hr e => no ⟨r.bhd, r.sg, by rw [← e]; exact (h.put r hr).1⟩
    show cutX rows t = _
    unfold cutX
    rw [ft]
theorem WI.share (w : WI n hs Pm Cm) {g t : Nat} (hg : g < n) (ht : t < n) (hP : Pm.length ≤ 1000) :
    ∃ s u rows' k, hs[g]? = some s ∧ hs[t]? = some u ∧ HA u.rows u.ss s.ss rows' (dd u.ss s.ss) k ∧ WI n (hs.set t ⟨rows', dd u.ss s.ss⟩) Pm Cm := by
  have es : hs[g]? = some (hs[g]'(by rw [w.len]; exact hg)) := List.getElem?_eq_getElem _
  have eu : hs[t]? = some (hs[t]'(by rw [w.len]; exact ht)) := List.getElem?_eq_getElem _
  generalize hs[g]'(by rw [w.len]; exact hg) = s at es
  generalize hs[t]'(by rw [w.len]; exact ht) = u at eu
  have ms := List.mem_of_getElem? es
  have mu := List.mem_of_getElem? eu
  have sl := w.ssLen ms
  have ul := w.ssLen mu
  obtain ⟨rows', k, ha, w'⟩ := w.hearOld (d := []) eu (fun q hq => ⟨s, ms, hq⟩) (fun x hx => by cases hx) (w.cz s ms) (by omega)
  exact ⟨s, u, rows', k, es, eu, ha, w'⟩
theorem WI.tell (w : WI n hs Pm Cm) {g t wh : Nat} (hg : g < n) (ht : t < n) (hP : Pm.length ≤ 1000) :
    ∃ hs' a, Stp hs (.tell g t wh) hs' a ∧ WI n hs' Pm Cm := by
  have es : hs[g]? = some (hs[g]'(by rw [w.len]; exact hg)) := List.getElem?_eq_getElem _
  have eu : hs[t]? = some (hs[t]'(by rw [w.len]; exact ht)) := List.getElem?_eq_getElem _
  generalize hs[g]'(by rw [w.len]; exact hg) = s at es
  generalize hs[t]'(by rw [w.len]; exact ht) = u at eu
  have ms := List.mem_of_getElem? es
  have mu := List.mem_of_getElem? eu
  have ul := w.ssLen mu
  have oh := w.okh mu hP
  cases eq : s.ss[wh]? with
  | none => exact ⟨hs, _, .past es eu (List.getElem?_eq_none_iff.mp eq), w⟩
  | some q =>
    have mq := List.mem_of_getElem? eq
    have aq : Al hs q := ⟨s, ms, mq⟩
    have okq := w.fit.okSl aq
    by_cases hm : q ∈ u.ss
    · exact ⟨hs, _, .old es eu eq oh okq hm, w⟩
    · by_cases ok : okAt u.ss q
      · obtain ⟨rows', k, ha, w'⟩ := w.hearOld (r := [q]) (d := u.ss) eu (fun x hx => by rw [List.mem_singleton.mp hx]; exact aq) (fun x hx => hx) ⟨ok, trivial⟩ (by rw [List.length_singleton]; omega)
        have e : dd u.ss [q] = u.ss ++ [q] := by unfold dd; rw [if_neg hm]; rfl
        rw [e] at ha w'
        cases ha with
        | old _ _ hm' _ => exact absurd hm' hm
        | new h1 h2 h3 h4 h5 =>
          cases h5
          exact ⟨_, _, .new es eu eq oh okq hm h4 ok, w'⟩
      · exact ⟨hs, _, .refused es eu eq oh okq hm ((w.hrd u mu).not w.fit aq hm ok) ok, w⟩
theorem WI.step (w : WI n hs Pm Cm) {d : Deed} (hd : DOk n d) (hP : Pm.length ≤ 1000) : ∃ hs' a, Stp hs d hs' a ∧ WI n hs' (Pm ++ mP d a) (Cm ++ mC d a) ∧ (mP d a).length ≤ 12 := by
  cases d with
  | write h p z =>
    obtain ⟨s, hs', _, st, w', l⟩ := w.write (p := p) hd.1 hd.2.1 hd.2.2 hP
    exact ⟨hs', _, st, by show WI n hs' (Pm ++ wrote h s p z) (Cm ++ []); rw [List.append_nil]; exact w', l⟩
  | rub h p m =>
    obtain ⟨s, hs', _, st, w', l⟩ := w.rub (p := p) (m := m) hd hP
    exact ⟨hs', _, st, by show WI n hs' (Pm ++ []) (Cm ++ cutTags (cutsOf _)); rw [List.append_nil, cutTags_cuts]; exact w', Nat.zero_le _⟩
  | tell g t wh =>
    obtain ⟨hs', a, st, w'⟩ := w.tell (wh := wh) hd.1 hd.2 hP
    refine ⟨hs', a, st, ?_, Nat.zero_le _⟩
    show WI n hs' (Pm ++ []) (Cm ++ [])
    rw [List.append_nil, List.append_nil]; exact w'
  | share g t =>
    obtain ⟨s, u, rows', k, es, eu, ha, w'⟩ := w.share hd.1 hd.2 hP
    refine ⟨_, _, .share es eu ha, ?_, Nat.zero_le _⟩
    show WI n _ (Pm ++ []) (Cm ++ [])
    rw [List.append_nil, List.append_nil]; exact w'
noncomputable def cP : List Deed → List Ans → List Slip
  | d :: ds, a :: as => mP d a ++ cP ds as
  | _, _ => []
noncomputable def cC : List Deed → List Ans → List Tag
  | d :: ds, a :: as => mC d a ++ cC ds as
  | _, _ => []
theorem WI.run : ∀ {ds : List Deed} {hs : List HS} {Pm : List Slip} {Cm : List Tag}, WI n hs Pm Cm → (∀ d ∈ ds, DOk n d) → Pm.length + 12 * ds.length ≤ 1000 → ∃ hs' as, Run hs ds hs' as ∧ WI n hs' (Pm ++ cP ds as) (Cm ++ cC ds as) ∧ (Pm ++ cP ds as).length ≤ Pm.length + 12 * ds.length
  | [], hs, Pm, Cm, w, _, _ => ⟨hs, [], .nil, by show WI n hs (Pm ++ []) (Cm ++ []); rw [List.append_nil, List.append_nil]; exact w, by show (Pm ++ []).length ≤ _; rw [List.append_nil]; omega⟩
  | d :: ds, hs, Pm, Cm, w, hd, hP => by
    rw [List.length_cons] at hP
    obtain ⟨h1, a, st, w1, l1⟩ := w.step (hd d List.mem_cons_self) (by omega)
    obtain ⟨h2, as, rn, w2, l2⟩ := WI.run w1 (fun q hq => hd q (List.mem_cons_of_mem _ hq)) (by rw [List.length_append]; omega)
    refine ⟨h2, a :: as, .cons st rn, ?_, ?_⟩
    · show WI n h2 (Pm ++ (mP d a ++ cP ds as)) (Cm ++ (mC d a ++ cC ds as))
      rw [← List.append_assoc, ← List.append_assoc]; exact w2
    · show (Pm ++ (mP d a ++ cP ds as)).length ≤ _
      rw [← List.append_assoc, List.length_cons]
      rw [List.length_append (as := Pm)] at l2
      omega
end
section
variable {n : Nat} {Pm : List Slip} {Cm : List Tag}
theorem WI.shareIn : ∀ (gs : List Nat) {hs : List HS} (w : WI n hs Pm Cm), 0 < n → Pm.length ≤ 1000 → (∀ g ∈ gs, g ≠ 0 ∧ g < n) →
    ∃ hs' as, Run hs (gs.map fun g => .share g 0) hs' as ∧ WI n hs' Pm Cm ∧ (∀ k, k ≠ 0 → hs'[k]? = hs[k]?) ∧ ∀ u : HS, hs[0]? = some u → ∃ u' : HS, hs'[0]? = some u' ∧ (∀ s ∈ u.ss, s ∈ u'.ss) ∧ ∀ g ∈ gs, ∀ v : HS, hs[g]? = some v → ∀ s ∈ v.ss, s ∈ u'.ss
  | [], hs, w, _, _, _ => ⟨hs, [], .nil, w, fun _ _ => rfl, fun u hu => ⟨u, hu, fun _ h => h, fun g hg => by cases hg⟩⟩
  | g :: gs, hs, w, hn, hP, hg => by
    obtain ⟨g0, gn⟩ := hg g List.mem_cons_self
    obtain ⟨s, u, rows', k, es, eu, ha, w'⟩ := w.share gn hn hP
    have hl := (List.getElem?_eq_some_iff.mp eu).1
    obtain ⟨hs', as, rn, w2, keep, top⟩ := WI.shareIn gs w' hn hP fun q hq => hg q (List.mem_cons_of_mem _ hq)
    have same : ∀ k, k ≠ 0 → (hs.set 0 ⟨rows', dd u.ss s.ss⟩)[k]? = hs[k]? := fun k hk => List.getElem?_set_ne (Ne.symm hk)
    obtain ⟨u', hu', t1, t2⟩ := top _ (List.getElem?_set_self hl)
    refine ⟨hs', _, .cons (.share es eu ha) rn, w2, fun k hk => (keep k hk).trans (same k hk), fun u0 hu0 => ?_⟩
    rw [eu] at hu0
    cases hu0
    refine ⟨u', hu', fun q hq => t1 q ((dd_mem _ _ _).mpr (.inl hq)), fun g' hg' v hv q hq => ?_⟩
    rcases List.mem_cons.mp hg' with e | hg'
    · rw [e, es] at hv
      cases hv
      exact t1 q ((dd_mem _ _ _).mpr (.inr hq))
    · exact t2 g' hg' v (by rw [same g' (hg g' (List.mem_cons_of_mem _ hg')).1]; exact hv) q hq
theorem WI.shareOut : ∀ (ts : List Nat) {hs : List HS} (w : WI n hs Pm Cm), 0 < n → Pm.length ≤ 1000 → (∀ t ∈ ts, t ≠ 0 ∧ t < n) → (∀ u : HS, hs[0]? = some u → ∀ s, Al hs s → s ∈ u.ss) →
    ∃ hs' as, Run hs (ts.map fun t => .share 0 t) hs' as ∧ WI n hs' Pm Cm ∧ (∀ s, Al hs' s ↔ Al hs s) ∧ hs'[0]? = hs[0]? ∧ (∀ (k : Nat) (v : HS), hs[k]? = some v → ∃ v' : HS, hs'[k]? = some v' ∧ ∀ s ∈ v.ss, s ∈ v'.ss) ∧ ∀ t ∈ ts, ∀ v : HS, hs'[t]? = some v → ∀ s, Al hs s → s ∈ v.ss
  | [], hs, w, _, _, _, _ => ⟨hs, [], .nil, w, fun _ => Iff.rfl, rfl, fun k v h => ⟨v, h, fun _ h => h⟩, fun t ht => by cases ht⟩
  | t :: ts, hs, w, hn, hP, ht, all => by
    obtain ⟨t0, tn⟩ := ht t List.mem_cons_self
    obtain ⟨s, u, rows', k, es, eu, ha, w'⟩ := w.share hn tn hP
    have hl := (List.getElem?_eq_some_iff.mp eu).1
    have e0 : (hs.set t ⟨rows', dd u.ss s.ss⟩)[0]? = hs[0]? := List.getElem?_set_ne t0
    have al : ∀ q, Al (hs.set t ⟨rows', dd u.ss s.ss⟩) q ↔ Al hs q := fun q => (al_set eu (dd_mem _ _) q).trans ⟨fun z => z.elim id fun m => ⟨s, List.mem_of_getElem? es, m⟩, .inl⟩
    obtain ⟨hs', as, rn, w2, al2, z0, keep, top⟩ := WI.shareOut ts w' hn hP (fun q hq => ht q (List.mem_cons_of_mem _ hq)) (fun u0 hu0 q hq => all u0 (by rw [← e0]; exact hu0) q ((al q).mp hq))
    refine ⟨hs', _, .cons (.share es eu ha) rn, w2, fun q => (al2 q).trans (al q), z0.trans e0, fun k v hv => ?_, fun t' ht' v hv q hq => ?_⟩
    · by_cases e : t = k
      · subst e
        rw [eu] at hv
        cases hv
        obtain ⟨v', h1, h2⟩ := keep t _ (List.getElem?_set_self hl)
        exact ⟨v', h1, fun q hq => h2 q ((dd_mem _ _ _).mpr (.inl hq))⟩
      · exact keep k v (by rw [List.getElem?_set_ne e]; exact hv)
    · rcases List.mem_cons.mp ht' with e | ht'
      · subst e
        obtain ⟨v', h1, h2⟩ := keep t' _ (List.getElem?_set_self hl)
        rw [hv] at h1
        cases h1
        exact h2 q ((dd_mem _ _ _).mpr (.inr (all s es q hq)))
      · exact top t' ht' v hv q ((al q).mpr hq)
noncomputable def sharesOf (n : Nat) : List Deed := ((List.range' 1 (n - 1)).map fun g => .share g 0) ++ (List.range' 1 (n - 1)).map fun t => .share 0 t
theorem WI.shares {hs : List HS} (w : WI n hs Pm Cm) (hn : 0 < n) (hP : Pm.length ≤ 1000) : ∃ hs' as, Run hs (sharesOf n) hs' as ∧ WI n hs' Pm Cm ∧ ∀ h ∈ hs', ∀ s, s ∈ h.ss ↔ Al hs' s := by
  have rng : ∀ g ∈ List.range' 1 (n - 1), g ≠ 0 ∧ g < n := fun g hg => by
    have := List.mem_range'_1.mp hg
    omega
  have e0 : hs[0]? = some (hs[0]'(by rw [w.len]; exact hn)) := List.getElem?_eq_getElem _
  generalize hs[0]'(by rw [w.len]; exact hn) = u at e0
  obtain ⟨h1, as1, r1, w1, keep, top⟩ := w.shareIn _ hn hP rng
  obtain ⟨u', hu', t1, t2⟩ := top u e0
  have all : ∀ u0, h1[0]? = some u0 → ∀ s, Al h1 s → s ∈ u0.ss := fun u0 hu0 s ⟨v, mv, ms⟩ => by
    rw [hu'] at hu0
    cases hu0
    obtain ⟨k, hk⟩ := List.mem_iff_getElem?.mp mv
    by_cases ek : k = 0
    · subst ek
      rw [hu'] at hk
      cases hk
      exact ms
    · have kl := (List.getElem?_eq_some_iff.mp hk).1
      rw [w1.len] at kl
      rw [keep k ek] at hk
      exact t2 k (List.mem_range'_1.mpr (by omega)) v hk s ms
  obtain ⟨h2, as2, r2, w2, al, z0, _, out⟩ := w1.shareOut _ hn hP rng all
  refine ⟨h2, as1 ++ as2, r1.app r2, w2, fun h hh s => ⟨fun m => ⟨h, hh, m⟩, fun a => ?_⟩⟩
  obtain ⟨k, hk⟩ := List.mem_iff_getElem?.mp hh
  have kl := (List.getElem?_eq_some_iff.mp hk).1
  rw [w2.len] at kl
  have a1 := (al s).mp a
  by_cases ek : k = 0
  · subst ek
    rw [z0] at hk
    exact all h hk s a1
  · exact out k (List.mem_range'_1.mpr (by omega)) h hk s a1
theorem WI.oneSheet {hs : List HS} (w : WI n hs Pm Cm) (all : ∀ h ∈ hs, ∀ s, s ∈ h.ss ↔ Al hs s) {a b : HS} (ha : a ∈ hs) (hb : b ∈ hs) : a.rows = b.rows :=
  Hrd.same w.fit (w.hrd a ha) (w.hrd b hb) fun s => (all a ha s).trans (all b hb s).symm
structure Whole (R : List Rw) (Pm : List Slip) (Cm : List Tag) : Prop where
  gd : Gd R
  ok : okS R
  one : one1 R
  len : R.length = Pm.length
  row : ∀ t b x, Slip.put t b x ∈ Pm → (⟨t.1, t.2, b.1, b.2, x, decide (t ∈ Cm)⟩ : Rw) ∈ R
theorem putTags_len {ss : List Slip} (h : ∀ s ∈ ss, isPut s = true) : (putTags ss).length = ss.length := by
  rw [← puts_len, List.filter_eq_self.mpr h]
theorem Hrd.rowOf {U : Slip → Prop} (F : Fit U) {rows : List Rw} {ss : List Slip} (H : Hrd U rows ss) {t b : Tag} {x : Str} (m : Slip.put t b x ∈ ss) : (⟨t.1, t.2, b.1, b.2, x, decide (Slip.cut t ∈ ss)⟩ : Rw) ∈ rows := by
  obtain ⟨r, hr, e⟩ := H.has _ _ _ m
  obtain ⟨p, o⟩ := H.put r hr
  rw [e] at p o
  obtain ⟨e1, e2⟩ := F.one _ _ _ _ _ (H.all _ p) (H.all _ m)
  have eo : r.out = decide (Slip.cut t ∈ ss) := by
    rw [Bool.eq_iff_iff, o]; simp
  have er : r = ⟨t.1, t.2, b.1, b.2, x, decide (Slip.cut t ∈ ss)⟩ := by
    rw [← eo, ← e, ← e1, ← e2]
    cases r; rfl
  rw [← er]; exact hr
theorem WI.whole {hs : List HS} (w : WI n hs Pm Cm) (all : ∀ h ∈ hs, ∀ s, s ∈ h.ss ↔ Al hs s) {h : HS} (hh : h ∈ hs) : Whole h.rows Pm Cm := by
  have H := w.hrd h hh
  refine ⟨H.gd, H.ok, w.one1 hh, Nat.le_antisymm (w.rowsLen hh) ?_, fun t b x m => ?_⟩
  · rw [← putTags_len w.onlyp]
    have z := sub_len (l := putTags Pm) (m := h.rows.map Rw.tag) w.pnd fun t ht => by
      obtain ⟨b, x, m⟩ := mem_putTags.mp ht
      obtain ⟨r, hr, e⟩ := H.has t b x ((all h hh _).mpr ((w.puts _ _ _).mpr m))
      rw [← e]; exact List.mem_map_of_mem hr
    rw [List.length_map] at z
    exact z
  · have z := H.rowOf w.fit ((all h hh _).mpr ((w.puts _ _ _).mpr m))
    have e : decide (Slip.cut t ∈ h.ss) = decide (t ∈ Cm) := by
      rw [Bool.eq_iff_iff]
      simp only [decide_eq_true_eq]
      exact (all h hh _).trans (w.cuts t)
    rw [e] at z
    exact z
end
noncomputable def Hang (hung : List Tag) : List Rw → Prop
  | [] => True
  | r :: M => r.bhd ∈ hung ∧ Hang (hung ++ [r.tag]) M
theorem Wk.hang {x : Tag} {st m : List Tag} {M : List Rw} (h : Wk st M m) : ∀ hung : List Tag, Srt st → x ∈ m → (∀ r ∈ M, r.tag ≠ x) → x ∈ hung → (∀ y ∈ st, ltr y x → y ∈ hung) → Hang hung M := by
  induction h with
  | nil => intro _ _ _ _ _ _; exact trivial
  | @cons st pre post st' r rs e1 e2 e3 k ih =>
    intro hung s hx ne hh hst
    have nx : x ∈ r.bhd :: post := by
      rcases k.stack x hx with z | ⟨q, hq, e⟩
      · rcases List.mem_cons.mp z with z | z
        · exact absurd z.symm (ne r List.mem_cons_self)
        · exact z
      · exact absurd e (ne q (List.mem_cons_of_mem _ hq))
    have hb : r.bhd ∈ hung := by
      rcases List.mem_cons.mp nx with z | z
      · rw [← z]; exact hh
      · rw [e1] at s
        refine hst _ (by rw [e1]; exact List.mem_append_right _ List.mem_cons_self) ?_
        exact (List.pairwise_cons.mp (List.pairwise_append.mp s).2.1).1 x z
    refine ⟨hb, ih (hung ++ [r.tag]) (by rw [e1] at s; exact s.tail e3) hx (fun q hq => ne q (List.mem_cons_of_mem _ hq)) (List.mem_append_left _ hh) fun y hy hl => ?_⟩
    rcases List.mem_cons.mp hy with z | z
    · rw [z]; exact List.mem_append_right _ (List.mem_singleton.mpr rfl)
    · exact List.mem_append_left _ (hst y (by rw [e1]; exact List.mem_append_right _ z) hl)
theorem Gd.between {R : List Rw} (g : Gd R) {r1 r2 : Rw} (h1 : r1 ∈ R) (h2 : r2 ∈ R) (hb : r2.bhd = r1.tag) : ∃ A M B, R = A ++ r1 :: (M ++ r2 :: B) ∧ Hang [r1.tag] M ∧ (∀ r ∈ A, r.tag ≠ r1.tag ∧ r.tag ≠ r2.tag) ∧ (∀ r ∈ M, r.tag ≠ r1.tag ∧ r.tag ≠ r2.tag) ∧ r1.tag ≠ r2.tag := by
  obtain ⟨st, w⟩ := g.wk
  obtain ⟨C, B, e⟩ := List.append_of_mem h2
  subst e
  obtain ⟨m, w1, w2⟩ := Wk.split w
  have hm : r1.tag ∈ m := by
    cases w2 with
    | cons q1 _ _ _ => rw [q1, hb]; exact List.mem_append_right _ List.mem_cons_self
  have nd := g.nd
  rw [List.map_append, List.map_cons, List.nodup_append] at nd
  obtain ⟨n1, n2, n3⟩ := nd
  have hC : r1 ∈ C := by
    rcases w1.stack _ hm with z | ⟨q, hq, eq⟩
    · exact absurd (List.mem_singleton.mp z) (g.nz r1 h1)
    · obtain ⟨i, hi⟩ := List.mem_iff_getElem?.mp h1
      obtain ⟨j, hj⟩ := List.mem_iff_getElem?.mp (List.mem_append_left (r2 :: B) hq)
      have := g.uniq i j r1 q hi hj eq.symm
      subst this
      rw [hi] at hj
      cases hj
      exact hq
  obtain ⟨A, M, e⟩ := List.append_of_mem hC
  subst e
  rw [List.map_append, List.map_cons, List.nodup_append] at n1
  obtain ⟨a1, a2, a3⟩ := n1
  obtain ⟨b1, b2⟩ := List.nodup_cons.mp a2
  rw [show A ++ r1 :: M = (A ++ [r1]) ++ M by simp] at w1
  obtain ⟨m1, w3, w4⟩ := Wk.split w1
  obtain ⟨post, em⟩ := Wk.top w3
  subst em
  have s1 := w3.srt srt0
  have far : ∀ r ∈ A ++ r1 :: M, r.tag ≠ r2.tag := fun r hr => n3 _ (List.mem_map_of_mem hr) _ List.mem_cons_self
  refine ⟨A, M, B, by simp, w4.hang [r1.tag] s1 hm (fun r hr e => b1 (by rw [← e]; exact List.mem_map_of_mem hr)) (List.mem_singleton.mpr rfl) (fun y hy hl => ?_), fun r hr => ⟨?_, far r (List.mem_append_left _ hr)⟩, fun r hr => ⟨fun e => b1 (by rw [← e]; exact List.mem_map_of_mem hr), far r (List.mem_append_right _ (List.mem_cons_of_mem _ hr))⟩, far r1 (List.mem_append_right _ List.mem_cons_self)⟩
  · rcases List.mem_cons.mp hy with z | z
    · rw [z]; exact List.mem_singleton.mpr rfl
    · exact absurd hl fun hl => ltr_asym hl ((List.pairwise_cons.mp s1).1 y z)
  · exact a3 _ (List.mem_map_of_mem hr) _ List.mem_cons_self
end MQ
namespace Lk
open PySem PySem.Spec PyProof.Rows L2 MQ
noncomputable def HandsAt (S : Sto) (ps : List Addr) (hs : List HS) : Prop := ps.Nodup ∧ ps.length = hs.length ∧ ∀ (k : Nat) p h, ps[k]? = some p → hs[k]? = some h → S p = some (.ins (handFs ((k : Int) + 1) h.rows h.ss))
noncomputable def Keep (ps : List Addr) (S S' : Sto) : Prop := ∀ b o, b ∉ ps → S b = some o → S' b = some o
theorem Keep.refl (ps : List Addr) (S : Sto) : Keep ps S S := fun _ _ _ h => h
theorem HandsAt.at {S : Sto} {ps : List Addr} {hs : List HS} (h : HandsAt S ps hs) {k : Nat} {s : HS} (hk : hs[k]? = some s) : ∃ p, ps[k]? = some p ∧ S p = some (.ins (handFs ((k : Int) + 1) s.rows s.ss)) := by
  have hl : k < ps.length := by rw [h.2.1]; exact (List.getElem?_eq_some_iff.mp hk).1
  exact ⟨ps[k], List.getElem?_eq_getElem hl, h.2.2 k ps[k] s (List.getElem?_eq_getElem hl) hk⟩
theorem HandsAt.set {S : Sto} {ps : List Addr} {hs : List HS} (h : HandsAt S ps hs) {k : Nat} {p : Addr} (hp : ps[k]? = some p) (x : HS) : HandsAt (sset S p (.ins (handFs ((k : Int) + 1) x.rows x.ss))) ps (hs.set k x) := by
  have kl := (List.getElem?_eq_some_iff.mp hp).1
  refine ⟨h.1, by rw [List.length_set]; exact h.2.1, fun j q y hq hy => ?_⟩
  by_cases e : k = j
  · subst e
    rw [hp] at hq
    cases hq
    rw [List.getElem?_set_self (by rw [← h.2.1]; exact kl)] at hy
    cases hy
    exact sset_same
  · rw [List.getElem?_set_ne e] at hy
    have ne : q ≠ p := fun z => e ((List.getElem?_inj kl h.1).mp (by rw [hp, hq, z]))
    rw [sset_ne ne]
    exact h.2.2 j q y hq hy
theorem Keep.set {ps : List Addr} {S : Sto} {k : Nat} {p : Addr} {o : Ob} (hp : ps[k]? = some p) : Keep ps S (sset S p o) := fun b u nb hb => by
  rw [sset_ne (fun z => nb (by rw [z]; exact List.mem_of_getElem? hp))]; exact hb
theorem HandsAt.other {S : Sto} {ps : List Addr} {hs : List HS} (h : HandsAt S ps hs) {p : Addr} {o : Ob} (hp : p ∉ ps) : HandsAt (sset S p o) ps hs :=
  ⟨h.1, h.2.1, fun j q y hq hy => by rw [sset_ne (fun z => hp (by rw [← z]; exact List.mem_of_getElem? hq))]; exact h.2.2 j q y hq hy⟩
theorem HandsAt.free {S : Sto} {ps : List Addr} {hs : List HS} (h : HandsAt S ps hs) {p : Addr} (hp : S p = none) : p ∉ ps := fun m => by
  obtain ⟨k, hk⟩ := List.mem_iff_getElem?.mp m
  have kl : k < hs.length := by rw [← h.2.1]; exact (List.getElem?_eq_some_iff.mp hk).1
  have z := h.2.2 k p _ hk (List.getElem?_eq_getElem kl)
  rw [hp] at z
  cases z
noncomputable def sp_rubbed : Ds := fun ds S Q => ∃ (rows : List Rw) (p m : Nat), ds = [.lst (rows.map rowD), .int p, .int m] ∧ Q (.lst ((cutsOf (rubT rows p m)).map slipD)) S
theorem ln_rubbed : ∀ ds S Q, sp_rubbed ds S Q → ds.length = 3 := by rintro _ S Q ⟨_, _, _, rfl, _⟩; rfl
noncomputable def sp_Hand_rub : Ds := fun ds S Q => ∃ (a : Addr) (n : Int) (rows : List Rw) (ss : List Slip) (p m : Nat) (rows' : List Rw) (ss' : List Slip) (k : Nat), ds = [.ref a, .int p, .int m] ∧ S a = some (.ins (handFs n rows ss)) ∧ HA rows ss (cutsOf (rubT rows p m)) rows' ss' k ∧
  Q (.lst ((cutsOf (rubT rows p m)).map slipD)) (sset S a (.ins (handFs n rows' ss')))
theorem ln_Hand_rub : ∀ ds S Q, sp_Hand_rub ds S Q → ds.length = 3 := by rintro _ S Q ⟨_, _, _, _, _, _, _, _, _, rfl, _⟩; rfl
noncomputable def sp_begun : Ds := fun ds S Q => ∃ n : Nat, ds = [.int n] ∧ n ≤ 100 ∧ ∀ ps S', HandsAt S' ps (hs0 n) → Q (.lst (ps.map .ref)) S'
theorem ln_begun : ∀ ds S Q, sp_begun ds S Q → ds.length = 1 := by rintro _ S Q ⟨_, rfl, _⟩; rfl
noncomputable def sp_told : Ds := fun ds S Q => ∃ (ps : List Addr) (hs hs' : List HS) (a : Ans) (g t w : Nat) (pg pt : Addr), ds = [.ref pg, .ref pt, .int w] ∧ ps[g]? = some pg ∧ ps[t]? = some pt ∧ HandsAt S ps hs ∧ Stp hs (.tell g t w) hs' a ∧ ∀ S', HandsAt S' ps hs' → Keep ps S S' → Q (ansD a) S'
theorem ln_told : ∀ ds S Q, sp_told ds S Q → ds.length = 3 := by rintro _ S Q ⟨_, _, _, _, _, _, _, _, _, rfl, _⟩; rfl
noncomputable def sp_done : Ds := fun ds S Q => ∃ (ps : List Addr) (hs hs' : List HS) (d : Deed) (a : Ans), ds = [.lst (ps.map .ref), deedD d] ∧ HandsAt S ps hs ∧ Stp hs d hs' a ∧ ∀ S', HandsAt S' ps hs' → Keep ps S S' → Q (ansD a) S'
theorem ln_done : ∀ ds S Q, sp_done ds S Q → ds.length = 2 := by rintro _ S Q ⟨_, _, _, _, _, rfl, _⟩; rfl
noncomputable def sp_story : Ds := fun ds S Q => ∃ (n : Nat) (deeds : List Deed) (hs' : List HS) (as : List Ans), ds = [.int n, .lst (deeds.map deedD)] ∧ n ≤ 100 ∧ deeds.length ≤ 1000 ∧ Run (hs0 n) deeds hs' as ∧ ∀ S', Q (.lst (as.map ansD)) S'
theorem ln_story : ∀ ds S Q, sp_story ds S Q → ds.length = 2 := by rintro _ S Q ⟨_, _, _, _, rfl, _⟩; rfl
noncomputable def sp_hands_after : Ds := fun ds S Q => ∃ (n : Nat) (deeds : List Deed) (hs' : List HS) (as : List Ans), ds = [.int n, .lst (deeds.map deedD)] ∧ n ≤ 100 ∧ Run (hs0 n) deeds hs' as ∧ ∀ ps S', HandsAt S' ps hs' → Q (.lst (ps.map .ref)) S'
theorem ln_hands_after : ∀ ds S Q, sp_hands_after ds S Q → ds.length = 2 := by rintro _ S Q ⟨_, _, _, _, rfl, _⟩; rfl
noncomputable def sp_ends : Ds := fun ds S Q => ∃ (n : Nat) (deeds : List Deed) (hs' : List HS) (as : List Ans), ds = [.int n, .lst (deeds.map deedD)] ∧ n ≤ 100 ∧ Run (hs0 n) deeds hs' as ∧ ∀ S', Q (.lst (hs'.map fun h => .lst (h.rows.map rowD))) S'
theorem ln_ends : ∀ ds S Q, sp_ends ds S Q → ds.length = 2 := by rintro _ S Q ⟨_, _, _, _, rfl, _⟩; rfl
noncomputable def txt (rows : List Rw) : Str := tx "" ((there rows).map Rw.sg)
noncomputable def sp_words : Ds := fun ds S Q => ∃ rows : List Rw, ds = [.lst (rows.map rowD)] ∧ rows.length ≤ 1000 ∧ one1 rows ∧ Q (.str (txt rows)) S
theorem ln_words : ∀ ds S Q, sp_words ds S Q → ds.length = 1 := by rintro _ S Q ⟨_, rfl, _⟩; rfl
noncomputable def sp_texts : Ds := fun ds S Q => ∃ (n : Nat) (deeds : List Deed) (hs' : List HS) (as : List Ans), ds = [.int n, .lst (deeds.map deedD)] ∧ n ≤ 100 ∧ Run (hs0 n) deeds hs' as ∧ (∀ h ∈ hs', h.rows.length ≤ 1000 ∧ one1 h.rows) ∧ ∀ S', Q (.lst (hs'.map fun h => .str (txt h.rows))) S'
theorem ln_texts : ∀ ds S Q, sp_texts ds S Q → ds.length = 2 := by rintro _ S Q ⟨_, _, _, _, rfl, _⟩; rfl
noncomputable def sp_law_drawn_deeds : Ds := fun ds S Q => ∃ (cells : List Int) (n : Nat), ds = [.lst (cells.map .int), .int n] ∧ 0 < n ∧ n ≤ 100 ∧ cells.length ≤ 64 ∧ ∀ deeds : List Deed, deeds.length = cells.length → (∀ d ∈ deeds, DOk n d) → Q (.lst (deeds.map deedD)) S
theorem ln_law_drawn_deeds : ∀ ds S Q, sp_law_drawn_deeds ds S Q → ds.length = 2 := by rintro _ S Q ⟨_, _, rfl, _⟩; rfl
noncomputable def sp_law_is_slip : Ds := fun ds S Q => ∃ s : Slip, ds = [slipD s] ∧ Q (.bl true) S
theorem ln_law_is_slip : ∀ ds S Q, sp_law_is_slip ds S Q → ds.length = 1 := by rintro _ S Q ⟨_, rfl, _⟩; rfl
noncomputable def sp_law_are_slips : Ds := fun ds S Q => ∃ ss : List Slip, ds = [.lst (ss.map slipD)] ∧ Q (.bl true) S
theorem ln_law_are_slips : ∀ ds S Q, sp_law_are_slips ds S Q → ds.length = 1 := by rintro _ S Q ⟨_, rfl, _⟩; rfl
noncomputable def sp_law_room : Ds := fun ds S Q => ∃ (ns : List Int) (a b : Int), ds = [.scr ns, .int a, .int b] ∧ ns.length ≤ 63 ∧ Q (.int a) S
theorem ln_law_room : ∀ ds S Q, sp_law_room ds S Q → ds.length = 3 := by rintro _ S Q ⟨_, _, _, rfl, _⟩; rfl
noncomputable def lay : Nat → Dv → Prop
  | 0, d => (∃ i, d = .int i) ∨ ∃ x, d = .str x ∧ PyData.strOk x = true
  | n + 1, d => lay n d ∨ ∃ ds : List Dv, (d = .tup ds ∨ d = .lst ds) ∧ ds.length ≤ 5000 ∧ ∀ x ∈ ds, lay n x
noncomputable def sp_law_so : Nat → Ds
  | 0 => fun _ _ _ => False
  | n + 1 => fun ds S Q => ∃ d, ds = [d, d] ∧ lay n d ∧ Q (.bl true) S
theorem ln_law_so : ∀ n ds S Q, sp_law_so n ds S Q → ds.length = 2
  | 0, _, _, _, h => h.elim
  | n + 1, _, S, Q, h => by obtain ⟨_, rfl, _⟩ := h; rfl
theorem onLst_at {S : Sto} {p : Addr} {ds : List Dv} {k : Addr → List Dv → Prop} (h : S p = some (.lst ds)) : onLstK S (.ref p) k = k p ds := by
  simp only [onLstK, onLst, h]
theorem fLen_at {S : Sto} {p : Addr} {ds : List Dv} (h : S p = some (.lst ds)) : fLen S [.ref p] = some (.int ds.length) := by simp [fLen, rdL, h]
noncomputable def ct_QuillError : List (Str × Bool) := [("QuillError", true), ("NotYet", true), ("Clash", true), ("Backwards", true)]
noncomputable def wbt_law_drawn_deeds_0_6 : WS :=
  (wIf (wCmp oLt (wOp oMod (wOp oMod (wOp oMul (wVar 4) (wC (.int 48271))) (wC (.int 1021))) (wC (.int 8))) (wC (.int 3)))
  (wSeq (wSet 9 (wOp oMod (wOp oMod (wOp oMul (wOp oAdd (wOp oAdd (wVar 4) (wOp oDiv (wVar 3) (wC (.int 4)))) (wC (.int 2))) (wC (.int 48271))) (wC (.int 1031))) (wC (.int 4))))
  (wSeq (wSet 10 (wSlS (wC (.str "ab ~c(d0i")) (some (wOp oMod (wVar 3) (wC (.int 6)))) (some (wOp oAdd (wOp oMod (wVar 3) (wC (.int 6))) (wVar 9)))))
  (wSeq (wIf (wCmp oEq (wOp oMod (wVar 3) (wC (.int 20))) (wC (.int 3)))
  (wSet 10 (wJoin (wC (.str "")) (wCons (wCompR [4] (wR1 (wCons (wOp oMul (wC (.int 4)) (wVar 9)) wNil)) wYes (wOp oIx (wCall sp_law_marks wNil) (wOp oMod (wOp oAdd (wVar 1) (wOp oMul (wC (.int 5)) (wVar 0))) (wC (.int 94))))) wNil)))
  wNext)
  (wDrop (wApp (wVar 2) (wCons (wTup (wCons (wC (.str "write")) (wCons (wVar 5) (wCons (wVar 7) (wCons (wVar 10) wNil))))) wNil))))))
  (wIf (wCmp oEq (wOp oMod (wOp oMod (wOp oMul (wVar 4) (wC (.int 48271))) (wC (.int 1021))) (wC (.int 8))) (wC (.int 3)))
  (wDrop (wApp (wVar 2) (wCons (wTup (wCons (wC (.str "rub")) (wCons (wVar 5) (wCons (wVar 7) (wCons (wVar 8) wNil))))) wNil)))
  (wIf (wCmp oLt (wOp oMod (wOp oMod (wOp oMul (wVar 4) (wC (.int 48271))) (wC (.int 1021))) (wC (.int 8))) (wC (.int 7)))
  (wDrop (wApp (wVar 2) (wCons (wTup (wCons (wC (.str "tell")) (wCons (wVar 5) (wCons (wVar 6) (wCons (wOp oMod (wOp oMod (wOp oMul (wOp oAdd (wVar 4) (wOp oMul (wC (.int 5)) (wVar 3))) (wC (.int 48271))) (wC (.int 1039))) (wOp oAdd (wVar 3) (wC (.int 1)))) wNil))))) wNil)))
  (wDrop (wApp (wVar 2) (wCons (wTup (wCons (wC (.str "share")) (wCons (wVar 5) (wCons (wVar 6) wNil)))) wNil))))))
theorem wbt_law_drawn_deeds_0_6_e {D : Dn} {ρ : Ev} {S : Sto} : wbt_law_drawn_deeds_0_6 D ρ S =
  (wIf (wCmp oLt (wOp oMod (wOp oMod (wOp oMul (wVar 4) (wC (.int 48271))) (wC (.int 1021))) (wC (.int 8))) (wC (.int 3)))
  (wSeq (wSet 9 (wOp oMod (wOp oMod (wOp oMul (wOp oAdd (wOp oAdd (wVar 4) (wOp oDiv (wVar 3) (wC (.int 4)))) (wC (.int 2))) (wC (.int 48271))) (wC (.int 1031))) (wC (.int 4))))
  (wSeq (wSet 10 (wSlS (wC (.str "ab ~c(d0i")) (some (wOp oMod (wVar 3) (wC (.int 6)))) (some (wOp oAdd (wOp oMod (wVar 3) (wC (.int 6))) (wVar 9)))))
  (wSeq (wIf (wCmp oEq (wOp oMod (wVar 3) (wC (.int 20))) (wC (.int 3)))
  (wSet 10 (wJoin (wC (.str "")) (wCons (wCompR [4] (wR1 (wCons (wOp oMul (wC (.int 4)) (wVar 9)) wNil)) wYes (wOp oIx (wCall sp_law_marks wNil) (wOp oMod (wOp oAdd (wVar 1) (wOp oMul (wC (.int 5)) (wVar 0))) (wC (.int 94))))) wNil)))
  wNext)
  (wDrop (wApp (wVar 2) (wCons (wTup (wCons (wC (.str "write")) (wCons (wVar 5) (wCons (wVar 7) (wCons (wVar 10) wNil))))) wNil))))))
  (wIf (wCmp oEq (wOp oMod (wOp oMod (wOp oMul (wVar 4) (wC (.int 48271))) (wC (.int 1021))) (wC (.int 8))) (wC (.int 3)))
  (wDrop (wApp (wVar 2) (wCons (wTup (wCons (wC (.str "rub")) (wCons (wVar 5) (wCons (wVar 7) (wCons (wVar 8) wNil))))) wNil)))
  (wIf (wCmp oLt (wOp oMod (wOp oMod (wOp oMul (wVar 4) (wC (.int 48271))) (wC (.int 1021))) (wC (.int 8))) (wC (.int 7)))
  (wDrop (wApp (wVar 2) (wCons (wTup (wCons (wC (.str "tell")) (wCons (wVar 5) (wCons (wVar 6) (wCons (wOp oMod (wOp oMod (wOp oMul (wOp oAdd (wVar 4) (wOp oMul (wC (.int 5)) (wVar 3))) (wC (.int 48271))) (wC (.int 1039))) (wOp oAdd (wVar 3) (wC (.int 1)))) wNil))))) wNil)))
  (wDrop (wApp (wVar 2) (wCons (wTup (wCons (wC (.str "share")) (wCons (wVar 5) (wCons (wVar 6) wNil)))) wNil)))))) D ρ S := id rfl
noncomputable def wbt_law_drawn_deeds_0_5 : WS :=
  (wSeq (wIf (wCmp oEq (wOp oMod (wOp oMod (wOp oMul (wVar 4) (wC (.int 48271))) (wC (.int 1087))) (wC (.int 7))) (wC (.int 1)))
  (wSeq (wSet 7 (wOp oMod (wOp oMod (wOp oMul (wVar 4) (wC (.int 48271))) (wC (.int 1091))) (wC (.int 190))))
  (wSet 8 (wOp oMod (wOp oMod (wOp oMul (wVar 4) (wC (.int 48271))) (wC (.int 1093))) (wC (.int 190)))))
  wNext)
  wbt_law_drawn_deeds_0_6)
theorem wbt_law_drawn_deeds_0_5_e {D : Dn} {ρ : Ev} {S : Sto} : wbt_law_drawn_deeds_0_5 D ρ S =
  (wSeq (wIf (wCmp oEq (wOp oMod (wOp oMod (wOp oMul (wVar 4) (wC (.int 48271))) (wC (.int 1087))) (wC (.int 7))) (wC (.int 1)))
  (wSeq (wSet 7 (wOp oMod (wOp oMod (wOp oMul (wVar 4) (wC (.int 48271))) (wC (.int 1091))) (wC (.int 190))))
  (wSet 8 (wOp oMod (wOp oMod (wOp oMul (wVar 4) (wC (.int 48271))) (wC (.int 1093))) (wC (.int 190)))))
  wNext)
  wbt_law_drawn_deeds_0_6) D ρ S := id rfl
noncomputable def wbt_law_drawn_deeds_0_4 : WS :=
  (wSeq (wSet 8 (wOp oMod (wOp oMod (wOp oMul (wOp oAdd (wVar 4) (wC (.int 1))) (wC (.int 48271))) (wC (.int 1033))) (wC (.int 4))))
  wbt_law_drawn_deeds_0_5)
theorem wbt_law_drawn_deeds_0_4_e {D : Dn} {ρ : Ev} {S : Sto} : wbt_law_drawn_deeds_0_4 D ρ S =
  (wSeq (wSet 8 (wOp oMod (wOp oMod (wOp oMul (wOp oAdd (wVar 4) (wC (.int 1))) (wC (.int 48271))) (wC (.int 1033))) (wC (.int 4))))
  wbt_law_drawn_deeds_0_5) D ρ S := id rfl
noncomputable def wbt_law_drawn_deeds_0_3 : WS :=
  (wSeq (wSet 7 (wOp oMod (wOp oMod (wOp oMul (wOp oAdd (wVar 4) (wVar 3)) (wC (.int 48271))) (wC (.int 1009))) (wC (.int 9))))
  wbt_law_drawn_deeds_0_4)
theorem wbt_law_drawn_deeds_0_3_e {D : Dn} {ρ : Ev} {S : Sto} : wbt_law_drawn_deeds_0_3 D ρ S =
  (wSeq (wSet 7 (wOp oMod (wOp oMod (wOp oMul (wOp oAdd (wVar 4) (wVar 3)) (wC (.int 48271))) (wC (.int 1009))) (wC (.int 9))))
  wbt_law_drawn_deeds_0_4) D ρ S := id rfl
noncomputable def wbt_law_drawn_deeds_0_2 : WS :=
  (wSeq (wSet 6 (wOp oAdd (wOp oMod (wOp oMod (wOp oMul (wOp oAdd (wOp oAdd (wOp oAdd (wVar 4) (wVar 3)) (wC (.int 1))) (wOp oDiv (wVar 3) (wC (.int 5)))) (wC (.int 48271))) (wC (.int 1019))) (wVar 1)) (wC (.int 1))))
  wbt_law_drawn_deeds_0_3)
theorem wbt_law_drawn_deeds_0_2_e {D : Dn} {ρ : Ev} {S : Sto} : wbt_law_drawn_deeds_0_2 D ρ S =
  (wSeq (wSet 6 (wOp oAdd (wOp oMod (wOp oMod (wOp oMul (wOp oAdd (wOp oAdd (wOp oAdd (wVar 4) (wVar 3)) (wC (.int 1))) (wOp oDiv (wVar 3) (wC (.int 5)))) (wC (.int 48271))) (wC (.int 1019))) (wVar 1)) (wC (.int 1))))
  wbt_law_drawn_deeds_0_3) D ρ S := id rfl
noncomputable def wbt_law_drawn_deeds_0_1 : WS :=
  (wSeq (wSet 5 (wOp oAdd (wOp oMod (wOp oMod (wOp oMul (wOp oAdd (wVar 4) (wVar 3)) (wC (.int 48271))) (wC (.int 1013))) (wVar 1)) (wC (.int 1))))
  wbt_law_drawn_deeds_0_2)
theorem wbt_law_drawn_deeds_0_1_e {D : Dn} {ρ : Ev} {S : Sto} : wbt_law_drawn_deeds_0_1 D ρ S =
  (wSeq (wSet 5 (wOp oAdd (wOp oMod (wOp oMod (wOp oMul (wOp oAdd (wVar 4) (wVar 3)) (wC (.int 48271))) (wC (.int 1013))) (wVar 1)) (wC (.int 1))))
  wbt_law_drawn_deeds_0_2) D ρ S := id rfl
noncomputable def wb_law_drawn_deeds_0 : WS :=
  (wSeq (wSet 4 (wOp oIx (wVar 0) (wVar 3)))
  wbt_law_drawn_deeds_0_1)
theorem wb_law_drawn_deeds_0_e {D : Dn} {ρ : Ev} {S : Sto} : wb_law_drawn_deeds_0 D ρ S =
  (wSeq (wSet 4 (wOp oIx (wVar 0) (wVar 3)))
  wbt_law_drawn_deeds_0_1) D ρ S := id rfl
noncomputable def w_law_drawn_deeds : WS :=
  (wSeq (wSet 2 (wLstM wNil))
  (wSeq (wThen 2 (wForR1 3 (wCons (wCB fLen (wCons (wVar 0) wNil)) wNil)
  wb_law_drawn_deeds_0))
  (wRet (wVar 2))))
theorem w_law_drawn_deeds_e {D : Dn} {ρ : Ev} {S : Sto} : w_law_drawn_deeds D ρ S =
  (wSeq (wSet 2 (wLstM wNil))
  (wSeq (wThen 2 (wForR1 3 (wCons (wCB fLen (wCons (wVar 0) wNil)) wNil)
  wb_law_drawn_deeds_0))
  (wRet (wVar 2)))) D ρ S := id rfl
noncomputable def w_begun : WS :=
  (wRet (wCompR [] (wR2 (wCons (wC (.int 1)) (wCons (wOp oAdd (wVar 0) (wC (.int 1))) wNil))) wYes (wMake sp_Hand_init (wCons (wVar 0) wNil))))
theorem w_begun_e {D : Dn} {ρ : Ev} {S : Sto} : w_begun D ρ S =
  (wRet (wCompR [] (wR2 (wCons (wC (.int 1)) (wCons (wOp oAdd (wVar 0) (wC (.int 1))) wNil))) wYes (wMake sp_Hand_init (wCons (wVar 0) wNil)))) D ρ S := id rfl
noncomputable def w_rubbed : WS :=
  (wRet (wComp (wSl (wCall sp_standing (wCons (wVar 0) wNil)) (some (wVar 1)) (some (wOp oAdd (wVar 1) (wVar 2)))) (wTup (wCons (wC (.str "cut")) (wCons (wVar 0) wNil)))))
theorem w_rubbed_e {D : Dn} {ρ : Ev} {S : Sto} : w_rubbed D ρ S =
  (wRet (wComp (wSl (wCall sp_standing (wCons (wVar 0) wNil)) (some (wVar 1)) (some (wOp oAdd (wVar 1) (wVar 2)))) (wTup (wCons (wC (.str "cut")) (wCons (wVar 0) wNil))))) D ρ S := id rfl
noncomputable def w_Hand_rub : WS :=
  (wSeq (wSet 3 (wCall sp_rubbed (wCons (wFld "rows" (wVar 0)) (wCons (wVar 1) (wCons (wVar 2) wNil)))))
  (wSeq (wDrop (wMeth "hear_all" sp_Hand_hear_all (wVar 0) (wCons (wVar 3) wNil)))
  (wRet (wVar 3))))
theorem w_Hand_rub_e {D : Dn} {ρ : Ev} {S : Sto} : w_Hand_rub D ρ S =
  (wSeq (wSet 3 (wCall sp_rubbed (wCons (wFld "rows" (wVar 0)) (wCons (wVar 1) (wCons (wVar 2) wNil)))))
  (wSeq (wDrop (wMeth "hear_all" sp_Hand_hear_all (wVar 0) (wCons (wVar 3) wNil)))
  (wRet (wVar 3)))) D ρ S := id rfl
noncomputable def w_told : WS :=
  (wSeq (wIf (wCmp oGe (wVar 2) (wCB fLen (wCons (wFld "slips" (wVar 0)) wNil)))
  (wRet (wC .non))
  wNext)
  (wSeq (wSet 3 (wOp oIx (wFld "slips" (wVar 0)) (wVar 2)))
  (wTry (wRet (wMeth "hear" sp_Hand_hear (wVar 1) (wCons (wVar 3) wNil))) (xMeth "hear" spx_Hand_hear (wVar 1) (wCons (wVar 3) wNil)) ((ct_QuillError, (wRet (wC .non))) :: []))))
theorem w_told_e {D : Dn} {ρ : Ev} {S : Sto} : w_told D ρ S =
  (wSeq (wIf (wCmp oGe (wVar 2) (wCB fLen (wCons (wFld "slips" (wVar 0)) wNil)))
  (wRet (wC .non))
  wNext)
  (wSeq (wSet 3 (wOp oIx (wFld "slips" (wVar 0)) (wVar 2)))
  (wTry (wRet (wMeth "hear" sp_Hand_hear (wVar 1) (wCons (wVar 3) wNil))) (xMeth "hear" spx_Hand_hear (wVar 1) (wCons (wVar 3) wNil)) ((ct_QuillError, (wRet (wC .non))) :: [])))) D ρ S := id rfl
noncomputable def wt_done_5 : WS :=
  (wRet (wMeth "hear_all" sp_Hand_hear_all (wVar 3) (wCons (wFld "slips" (wVar 2)) wNil)))
theorem wt_done_5_e {D : Dn} {ρ : Ev} {S : Sto} : wt_done_5 D ρ S =
  (wRet (wMeth "hear_all" sp_Hand_hear_all (wVar 3) (wCons (wFld "slips" (wVar 2)) wNil))) D ρ S := id rfl
noncomputable def wt_done_4 : WS :=
  (wSeq (wIf (wCmp oEq (wOp oIx (wVar 1) (wC (.int 0))) (wC (.str "tell")))
  (wRet (wCall sp_told (wCons (wVar 2) (wCons (wVar 3) (wCons (wOp oIx (wVar 1) (wC (.int 3))) wNil)))))
  wNext)
  wt_done_5)
theorem wt_done_4_e {D : Dn} {ρ : Ev} {S : Sto} : wt_done_4 D ρ S =
  (wSeq (wIf (wCmp oEq (wOp oIx (wVar 1) (wC (.int 0))) (wC (.str "tell")))
  (wRet (wCall sp_told (wCons (wVar 2) (wCons (wVar 3) (wCons (wOp oIx (wVar 1) (wC (.int 3))) wNil)))))
  wNext)
  wt_done_5) D ρ S := id rfl
noncomputable def wt_done_3 : WS :=
  (wSeq (wSet 3 (wOp oIx (wVar 0) (wOp oSub (wOp oIx (wVar 1) (wC (.int 2))) (wC (.int 1)))))
  wt_done_4)
theorem wt_done_3_e {D : Dn} {ρ : Ev} {S : Sto} : wt_done_3 D ρ S =
  (wSeq (wSet 3 (wOp oIx (wVar 0) (wOp oSub (wOp oIx (wVar 1) (wC (.int 2))) (wC (.int 1)))))
  wt_done_4) D ρ S := id rfl
noncomputable def wt_done_2 : WS :=
  (wSeq (wIf (wCmp oEq (wOp oIx (wVar 1) (wC (.int 0))) (wC (.str "rub")))
  (wRet (wMeth "rub" sp_Hand_rub (wVar 2) (wCons (wOp oIx (wVar 1) (wC (.int 2))) (wCons (wOp oIx (wVar 1) (wC (.int 3))) wNil))))
  wNext)
  wt_done_3)
theorem wt_done_2_e {D : Dn} {ρ : Ev} {S : Sto} : wt_done_2 D ρ S =
  (wSeq (wIf (wCmp oEq (wOp oIx (wVar 1) (wC (.int 0))) (wC (.str "rub")))
  (wRet (wMeth "rub" sp_Hand_rub (wVar 2) (wCons (wOp oIx (wVar 1) (wC (.int 2))) (wCons (wOp oIx (wVar 1) (wC (.int 3))) wNil))))
  wNext)
  wt_done_3) D ρ S := id rfl
noncomputable def wt_done_1 : WS :=
  (wSeq (wIf (wCmp oEq (wOp oIx (wVar 1) (wC (.int 0))) (wC (.str "write")))
  (wRet (wMeth "write" sp_Hand_write (wVar 2) (wCons (wOp oIx (wVar 1) (wC (.int 2))) (wCons (wOp oIx (wVar 1) (wC (.int 3))) wNil))))
  wNext)
  wt_done_2)
theorem wt_done_1_e {D : Dn} {ρ : Ev} {S : Sto} : wt_done_1 D ρ S =
  (wSeq (wIf (wCmp oEq (wOp oIx (wVar 1) (wC (.int 0))) (wC (.str "write")))
  (wRet (wMeth "write" sp_Hand_write (wVar 2) (wCons (wOp oIx (wVar 1) (wC (.int 2))) (wCons (wOp oIx (wVar 1) (wC (.int 3))) wNil))))
  wNext)
  wt_done_2) D ρ S := id rfl
noncomputable def w_done : WS :=
  (wSeq (wSet 2 (wOp oIx (wVar 0) (wOp oSub (wOp oIx (wVar 1) (wC (.int 1))) (wC (.int 1)))))
  wt_done_1)
theorem w_done_e {D : Dn} {ρ : Ev} {S : Sto} : w_done D ρ S =
  (wSeq (wSet 2 (wOp oIx (wVar 0) (wOp oSub (wOp oIx (wVar 1) (wC (.int 1))) (wC (.int 1)))))
  wt_done_1) D ρ S := id rfl
noncomputable def wb_story_0 : WS :=
  (wDrop (wApp (wVar 3) (wCons (wCall sp_done (wCons (wVar 2) (wCons (wVar 4) wNil))) wNil)))
theorem wb_story_0_e {D : Dn} {ρ : Ev} {S : Sto} : wb_story_0 D ρ S =
  (wDrop (wApp (wVar 3) (wCons (wCall sp_done (wCons (wVar 2) (wCons (wVar 4) wNil))) wNil))) D ρ S := id rfl
noncomputable def w_story : WS :=
  (wSeq (wSet 2 (wCall sp_begun (wCons (wVar 0) wNil)))
  (wSeq (wSet 3 (wLstM wNil))
  (wSeq (wThen 3 (wFor 4 (wVar 1)
  wb_story_0))
  (wRet (wVar 3)))))
theorem w_story_e {D : Dn} {ρ : Ev} {S : Sto} : w_story D ρ S =
  (wSeq (wSet 2 (wCall sp_begun (wCons (wVar 0) wNil)))
  (wSeq (wSet 3 (wLstM wNil))
  (wSeq (wThen 3 (wFor 4 (wVar 1)
  wb_story_0))
  (wRet (wVar 3))))) D ρ S := id rfl
noncomputable def wb_hands_after_0 : WS :=
  (wDrop (wCall sp_done (wCons (wVar 2) (wCons (wVar 3) wNil))))
theorem wb_hands_after_0_e {D : Dn} {ρ : Ev} {S : Sto} : wb_hands_after_0 D ρ S =
  (wDrop (wCall sp_done (wCons (wVar 2) (wCons (wVar 3) wNil)))) D ρ S := id rfl
noncomputable def w_hands_after : WS :=
  (wSeq (wSet 2 (wCall sp_begun (wCons (wVar 0) wNil)))
  (wSeq (wFor 3 (wVar 1)
  wb_hands_after_0)
  (wRet (wVar 2))))
theorem w_hands_after_e {D : Dn} {ρ : Ev} {S : Sto} : w_hands_after D ρ S =
  (wSeq (wSet 2 (wCall sp_begun (wCons (wVar 0) wNil)))
  (wSeq (wFor 3 (wVar 1)
  wb_hands_after_0)
  (wRet (wVar 2)))) D ρ S := id rfl
noncomputable def w_ends : WS :=
  (wRet (wComp (wCall sp_hands_after (wCons (wVar 0) (wCons (wVar 1) wNil))) (wFld "rows" (wVar 0))))
theorem w_ends_e {D : Dn} {ρ : Ev} {S : Sto} : w_ends D ρ S =
  (wRet (wComp (wCall sp_hands_after (wCons (wVar 0) (wCons (wVar 1) wNil))) (wFld "rows" (wVar 0)))) D ρ S := id rfl
noncomputable def w_words : WS :=
  (wRet (wJoin (wC (.str "")) (wCons (wCompIf (wVar 0) (wNot (wTest (wOp oIx (wVar 0) (wC (.int 3))))) (wOp oIx (wVar 0) (wC (.int 2)))) wNil)))
theorem w_words_e {D : Dn} {ρ : Ev} {S : Sto} : w_words D ρ S =
  (wRet (wJoin (wC (.str "")) (wCons (wCompIf (wVar 0) (wNot (wTest (wOp oIx (wVar 0) (wC (.int 3))))) (wOp oIx (wVar 0) (wC (.int 2)))) wNil))) D ρ S := id rfl
noncomputable def w_texts : WS :=
  (wRet (wComp (wCall sp_hands_after (wCons (wVar 0) (wCons (wVar 1) wNil))) (wCall sp_words (wCons (wFld "rows" (wVar 0)) wNil))))
theorem w_texts_e {D : Dn} {ρ : Ev} {S : Sto} : w_texts D ρ S =
  (wRet (wComp (wCall sp_hands_after (wCons (wVar 0) (wCons (wVar 1) wNil))) (wCall sp_words (wCons (wFld "rows" (wVar 0)) wNil)))) D ρ S := id rfl
noncomputable def w_law_is_slip : WS :=
  (wSeq (wIf (wOr (wNot (wTest (wIsI "tuple" (wVar 0)))) (wCmp oLt (wCB fLen (wCons (wVar 0) wNil)) (wC (.int 2))))
  (wRet (wC (.bl false)))
  wNext)
  (wSeq (wIf (wOr (wNot (wTest (wIsI "str" (wOp oIx (wVar 0) (wC (.int 0)))))) (wNot (wTest (wCall sp_law_is_tag (wCons (wOp oIx (wVar 0) (wC (.int 1))) wNil)))))
  (wRet (wC (.bl false)))
  wNext)
  (wSeq (wIf (wAnd (wCmp oEq (wOp oIx (wVar 0) (wC (.int 0))) (wC (.str "put"))) (wCmp oEq (wCB fLen (wCons (wVar 0) wNil)) (wC (.int 4))))
  (wRet (wAndV (wCall sp_law_is_tag (wCons (wOp oIx (wVar 0) (wC (.int 2))) wNil)) (wIsI "str" (wOp oIx (wVar 0) (wC (.int 3))))))
  wNext)
  (wRet (wAndV (wOp (asD oEq) (wOp oIx (wVar 0) (wC (.int 0))) (wC (.str "cut"))) (wOp (asD oEq) (wCB fLen (wCons (wVar 0) wNil)) (wC (.int 2))))))))
theorem w_law_is_slip_e {D : Dn} {ρ : Ev} {S : Sto} : w_law_is_slip D ρ S =
  (wSeq (wIf (wOr (wNot (wTest (wIsI "tuple" (wVar 0)))) (wCmp oLt (wCB fLen (wCons (wVar 0) wNil)) (wC (.int 2))))
  (wRet (wC (.bl false)))
  wNext)
  (wSeq (wIf (wOr (wNot (wTest (wIsI "str" (wOp oIx (wVar 0) (wC (.int 0)))))) (wNot (wTest (wCall sp_law_is_tag (wCons (wOp oIx (wVar 0) (wC (.int 1))) wNil)))))
  (wRet (wC (.bl false)))
  wNext)
  (wSeq (wIf (wAnd (wCmp oEq (wOp oIx (wVar 0) (wC (.int 0))) (wC (.str "put"))) (wCmp oEq (wCB fLen (wCons (wVar 0) wNil)) (wC (.int 4))))
  (wRet (wAndV (wCall sp_law_is_tag (wCons (wOp oIx (wVar 0) (wC (.int 2))) wNil)) (wIsI "str" (wOp oIx (wVar 0) (wC (.int 3))))))
  wNext)
  (wRet (wAndV (wOp (asD oEq) (wOp oIx (wVar 0) (wC (.int 0))) (wC (.str "cut"))) (wOp (asD oEq) (wCB fLen (wCons (wVar 0) wNil)) (wC (.int 2)))))))) D ρ S := id rfl
noncomputable def wb_law_are_slips_0 : WS :=
  (wIf (wNot (wTest (wCall sp_law_is_slip (wCons (wVar 1) wNil))))
  (wRet (wC (.bl false)))
  wNext)
theorem wb_law_are_slips_0_e {D : Dn} {ρ : Ev} {S : Sto} : wb_law_are_slips_0 D ρ S =
  (wIf (wNot (wTest (wCall sp_law_is_slip (wCons (wVar 1) wNil))))
  (wRet (wC (.bl false)))
  wNext) D ρ S := id rfl
noncomputable def w_law_are_slips : WS :=
  (wSeq (wIf (wNot (wTest (wIsI "list" (wVar 0))))
  (wRet (wC (.bl false)))
  wNext)
  (wSeq (wFor 1 (wVar 0)
  wb_law_are_slips_0)
  (wRet (wC (.bl true)))))
theorem w_law_are_slips_e {D : Dn} {ρ : Ev} {S : Sto} : w_law_are_slips D ρ S =
  (wSeq (wIf (wNot (wTest (wIsI "list" (wVar 0))))
  (wRet (wC (.bl false)))
  wNext)
  (wSeq (wFor 1 (wVar 0)
  wb_law_are_slips_0)
  (wRet (wC (.bl true))))) D ρ S := id rfl
noncomputable def wb_law_so_0 (n : Nat) : WS :=
  (wIf (wNot (wTest (wCall (sp_law_so n) (wCons (wOp oIx (wVar 0) (wVar 2)) (wCons (wOp oIx (wVar 1) (wVar 2)) wNil)))))
  (wRet (wC (.bl false)))
  wNext)
theorem wb_law_so_0_e {n : Nat} {D : Dn} {ρ : Ev} {S : Sto} : wb_law_so_0 n D ρ S =
  (wIf (wNot (wTest (wCall (sp_law_so n) (wCons (wOp oIx (wVar 0) (wVar 2)) (wCons (wOp oIx (wVar 1) (wVar 2)) wNil)))))
  (wRet (wC (.bl false)))
  wNext) D ρ S := id rfl
noncomputable def wt_law_so_9 (n : Nat) : WS :=
  (wRet (wC (.bl true)))
theorem wt_law_so_9_e {n : Nat} {D : Dn} {ρ : Ev} {S : Sto} : wt_law_so_9 n D ρ S =
  (wRet (wC (.bl true))) D ρ S := id rfl
noncomputable def wt_law_so_8 (n : Nat) : WS :=
  (wSeq (wForR1 2 (wCons (wCB fLen (wCons (wVar 1) wNil)) wNil)
  (wb_law_so_0 n))
  (wt_law_so_9 n))
theorem wt_law_so_8_e {n : Nat} {D : Dn} {ρ : Ev} {S : Sto} : wt_law_so_8 n D ρ S =
  (wSeq (wForR1 2 (wCons (wCB fLen (wCons (wVar 1) wNil)) wNil)
  (wb_law_so_0 n))
  (wt_law_so_9 n)) D ρ S := id rfl
noncomputable def wt_law_so_7 (n : Nat) : WS :=
  (wSeq (wIf (wCmp oNe (wCB fLen (wCons (wVar 0) wNil)) (wCB fLen (wCons (wVar 1) wNil)))
  (wRet (wC (.bl false)))
  wNext)
  (wt_law_so_8 n))
theorem wt_law_so_7_e {n : Nat} {D : Dn} {ρ : Ev} {S : Sto} : wt_law_so_7 n D ρ S =
  (wSeq (wIf (wCmp oNe (wCB fLen (wCons (wVar 0) wNil)) (wCB fLen (wCons (wVar 1) wNil)))
  (wRet (wC (.bl false)))
  wNext)
  (wt_law_so_8 n)) D ρ S := id rfl
noncomputable def wt_law_so_6 (n : Nat) : WS :=
  (wSeq (wIf (wOr (wCmp oNe (wIsI "list" (wVar 1)) (wIsI "list" (wVar 0))) (wNot (wTest (wIsP (wVar 1)))))
  (wRet (wC (.bl false)))
  wNext)
  (wt_law_so_7 n))
theorem wt_law_so_6_e {n : Nat} {D : Dn} {ρ : Ev} {S : Sto} : wt_law_so_6 n D ρ S =
  (wSeq (wIf (wOr (wCmp oNe (wIsI "list" (wVar 1)) (wIsI "list" (wVar 0))) (wNot (wTest (wIsP (wVar 1)))))
  (wRet (wC (.bl false)))
  wNext)
  (wt_law_so_7 n)) D ρ S := id rfl
noncomputable def wt_law_so_5 (n : Nat) : WS :=
  (wSeq (wIf (wCmp oNe (wIsI "tuple" (wVar 1)) (wIsI "tuple" (wVar 0)))
  (wRet (wC (.bl false)))
  wNext)
  (wt_law_so_6 n))
theorem wt_law_so_5_e {n : Nat} {D : Dn} {ρ : Ev} {S : Sto} : wt_law_so_5 n D ρ S =
  (wSeq (wIf (wCmp oNe (wIsI "tuple" (wVar 1)) (wIsI "tuple" (wVar 0)))
  (wRet (wC (.bl false)))
  wNext)
  (wt_law_so_6 n)) D ρ S := id rfl
noncomputable def wt_law_so_4 (n : Nat) : WS :=
  (wSeq (wIf (wTest (wIsI "dict" (wVar 1)))
  wNo
  wNext)
  (wt_law_so_5 n))
theorem wt_law_so_4_e {n : Nat} {D : Dn} {ρ : Ev} {S : Sto} : wt_law_so_4 n D ρ S =
  (wSeq (wIf (wTest (wIsI "dict" (wVar 1)))
  wNo
  wNext)
  (wt_law_so_5 n)) D ρ S := id rfl
noncomputable def wt_law_so_3 (n : Nat) : WS :=
  (wSeq (wIf (wTest (wIsI "str" (wVar 1)))
  (wRet (wAndV (wIsI "str" (wVar 0)) (wOp (asD oEq) (wVar 0) (wVar 1))))
  wNext)
  (wt_law_so_4 n))
theorem wt_law_so_3_e {n : Nat} {D : Dn} {ρ : Ev} {S : Sto} : wt_law_so_3 n D ρ S =
  (wSeq (wIf (wTest (wIsI "str" (wVar 1)))
  (wRet (wAndV (wIsI "str" (wVar 0)) (wOp (asD oEq) (wVar 0) (wVar 1))))
  wNext)
  (wt_law_so_4 n)) D ρ S := id rfl
noncomputable def wt_law_so_2 (n : Nat) : WS :=
  (wSeq (wIf (wTest (wIsI "int" (wVar 1)))
  (wRet (wAndV (wIsI "int" (wVar 0)) (wAndV (wNotV (wIsI "bool" (wVar 0))) (wOp (asD oEq) (wVar 0) (wVar 1)))))
  wNext)
  (wt_law_so_3 n))
theorem wt_law_so_2_e {n : Nat} {D : Dn} {ρ : Ev} {S : Sto} : wt_law_so_2 n D ρ S =
  (wSeq (wIf (wTest (wIsI "int" (wVar 1)))
  (wRet (wAndV (wIsI "int" (wVar 0)) (wAndV (wNotV (wIsI "bool" (wVar 0))) (wOp (asD oEq) (wVar 0) (wVar 1)))))
  wNext)
  (wt_law_so_3 n)) D ρ S := id rfl
noncomputable def wt_law_so_1 (n : Nat) : WS :=
  (wSeq (wIf (wTest (wIsI "bool" (wVar 1)))
  (wRet (wAndV (wIsI "bool" (wVar 0)) (wOp (asD oEq) (wVar 0) (wVar 1))))
  wNext)
  (wt_law_so_2 n))
theorem wt_law_so_1_e {n : Nat} {D : Dn} {ρ : Ev} {S : Sto} : wt_law_so_1 n D ρ S =
  (wSeq (wIf (wTest (wIsI "bool" (wVar 1)))
  (wRet (wAndV (wIsI "bool" (wVar 0)) (wOp (asD oEq) (wVar 0) (wVar 1))))
  wNext)
  (wt_law_so_2 n)) D ρ S := id rfl
noncomputable def w_law_so (n : Nat) : WS :=
  (wSeq (wIf (wCmp oIs (wVar 1) (wC .non))
  (wRet (wOp (asD oIs) (wVar 0) (wC .non)))
  wNext)
  (wt_law_so_1 n))
theorem w_law_so_e {n : Nat} {D : Dn} {ρ : Ev} {S : Sto} : w_law_so n D ρ S =
  (wSeq (wIf (wCmp oIs (wVar 1) (wC .non))
  (wRet (wOp (asD oIs) (wVar 0) (wC .non)))
  wNext)
  (wt_law_so_1 n)) D ρ S := id rfl
noncomputable def w_law_room : WS :=
  (wSeq (wIf (wCmp oGt (wCB fLen (wCons (wVar 0) wNil)) (wC (.int 63)))
  (wRet (wVar 2))
  wNext)
  (wRet (wVar 1)))
theorem w_law_room_e {D : Dn} {ρ : Ev} {S : Sto} : w_law_room D ρ S =
  (wSeq (wIf (wCmp oGt (wCB fLen (wCons (wVar 0) wNil)) (wC (.int 63)))
  (wRet (wVar 2))
  wNext)
  (wRet (wVar 1))) D ρ S := id rfl
theorem ok_rubbed : ∀ ds S Q, sp_rubbed ds S Q → w_rubbed { nx := fun _ S' => Q .non S', rt := Q } (ent 3 ds) S := by
  rintro _ S Q ⟨rows, p, m, rfl, q⟩
  have ec : cutD ((there rows).map fun r => tagD r.tag) (some (p : Int)) (some ((p : Int) + (m : Int))) = (rubT rows p m).map tagD := by
    rw [cut_midG]
    unfold rubT
    rw [← List.map_drop, ← List.map_take, List.map_map]; rfl
  simp [w_rubbed_e, ent, ec]
  refine cutc_cmp _ [] ?_
  rw [List.nil_append]
  exact q
theorem ok_Hand_rub : ∀ ds S Q, sp_Hand_rub ds S Q → w_Hand_rub { nx := fun _ S' => Q .non S', rt := Q } (ent 4 ds) S := by
  rintro _ S Q ⟨a, n, rows, ss, p, m, rows', ss', k, rfl, hS, h, q⟩
  simp [w_Hand_rub_e, ent, onIns_at hS]
  refine ⟨rows, p, m, rfl, ?_⟩
  simp [onIns_at hS]
  refine ⟨a, _, n, rows, ss, cutsOf (rubT rows p m), rows', ss', k, rfl, hS, rdL_lst, (fun e => by cases e), h, ?_⟩
  simp
  exact q
theorem begun_cmp {Q : QE} : ∀ (m k : Nat) (ps : List Addr) (S : Sto), HandsAt S ps (hs0 k) → (∀ ps S', HandsAt S' ps (hs0 (k + m)) → Q (.lst (ps.map .ref)) S') →
    cmpL (wt2 [] wYes) (we2 [] (wMake sp_Hand_init (wCons (wVar 0) wNil))) ((List.range' k m).map fun (i : Nat) => Dv.int (1 + (i : Int))) S (ps.map .ref) (fun zs S2 => Q (.lst zs) S2)
  | 0, k, ps, S, h, q => q ps S h
  | m + 1, k, ps, S, h, q => by
    have lp : ps.length = k := by rw [h.2.1]; exact List.length_replicate
    rw [List.range'_succ, List.map_cons]
    simp [cmpL]
    intro p hp
    refine ⟨p, 1 + (k : Int), rfl, sset_same, ?_⟩
    have hp' := h.free hp
    have h' : HandsAt (sset S p (.ins (handFs (1 + (k : Int)) [] []))) (ps ++ [p]) (hs0 (k + 1)) := by
      refine ⟨?_, by rw [List.length_append, lp]; exact List.length_replicate.symm, fun j q y hq hy => ?_⟩
      · rw [List.nodup_append]
        exact ⟨h.1, List.nodup_cons.mpr ⟨List.not_mem_nil, List.nodup_nil⟩, fun a ha b hb e => hp' (by rw [← List.mem_singleton.mp hb, ← e]; exact ha)⟩
      · have ey : y = ⟨[], []⟩ := (List.mem_replicate.mp (List.mem_of_getElem? hy)).2
        by_cases hj : j < ps.length
        · rw [List.getElem?_append_left hj] at hq
          rw [sset_ne (fun z => hp' (by rw [← z]; exact List.mem_of_getElem? hq))]
          exact h.2.2 j q y hq (by
            rw [ey]
            unfold hs0
            rw [List.getElem?_replicate, if_pos (by omega)])
        · rw [List.getElem?_append_right (by omega)] at hq
          have ej : j = ps.length := by
            have := (List.getElem?_eq_some_iff.mp hq).1
            rw [List.length_singleton] at this; omega
          rw [ej, Nat.sub_self] at hq
          have eq : q = p := (Option.some.inj hq).symm
          rw [eq, sset_same, ey, ej, lp, Int.add_comm]
    have z := begun_cmp (Q := Q) m (k + 1) (ps ++ [p]) _ h' (fun ps' S' hh => q ps' S' (by rw [show k + (m + 1) = k + 1 + m by omega]; exact hh))
    rw [List.map_append] at z
    simp [sset_sset]
    exact z
theorem ok_begun : ∀ ds S Q, sp_begun ds S Q → w_begun { nx := fun _ S' => Q .non S', rt := Q } (ent 1 ds) S := by
  rintro _ S Q ⟨n, rfl, hn, q⟩
  have z := begun_cmp (Q := Q) n 0 [] S ⟨List.nodup_nil, rfl, fun k p h hp => by simp at hp⟩ (fun ps S' h => q ps S' (by rw [Nat.zero_add] at h; exact h))
  simp [w_begun_e, ent]
  refine ⟨by omega, by omega, ?_⟩
  have e : ((n : Int) + 1 - 1).toNat = n := by omega
  unfold rngD
  rw [List.range_eq_range']
  first | exact z | (rw [e]; exact z)
theorem hrun_q {nm : Str} {D : Dn} {ρ : Ev} {S : Sto} {w : WS} (h : nm = "NotYet" ∨ nm = "Clash" ∨ nm = "Backwards") (k : w D ρ S) : hRun [(ct_QuillError, w)] nm D ρ S := by
  rcases h with rfl | rfl | rfl <;> exact k
theorem hrdX_nm {rows : List Rw} {s : Slip} {nm : Str} (h : hrdX rows s = some nm) : nm = "NotYet" ∨ nm = "Clash" ∨ nm = "Backwards" := by
  cases s with
  | put t b x =>
    have h' : putX rows t b x = some nm := h
    unfold putX at h'
    split at h'
    · split at h'
      · cases h'
      · cases h'; exact .inr (.inl rfl)
    · split at h'
      · cases h'; exact .inl rfl
      · split at h'
        · cases h'
        · cases h'; exact .inr (.inr rfl)
  | cut t =>
    have h' : cutX rows t = some nm := h
    unfold cutX at h'
    split at h'
    · cases h'
    · cases h'; exact .inl rfl
theorem ok_told : ∀ ds S Q, sp_told ds S Q → w_told { nx := fun _ S' => Q .non S', rt := Q } (ent 4 ds) S := by
  rintro _ S Q ⟨ps, hs, hs', a, g, t, w, pg, pt, rfl, hg, ht, hA, st, q⟩
  have at' : ∀ {k : Nat} {p : Addr} {s : HS}, ps[k]? = some p → hs[k]? = some s → S p = some (.ins (handFs ((k : Int) + 1) s.rows s.ss)) := fun h1 h2 => hA.2.2 _ _ _ h1 h2
  have ixs : ∀ {s : HS} {x : Slip} (S : Sto), s.ss[w]? = some x → oIx S (.lst (s.ss.map slipD)) (.int (w : Int)) = some (slipD x) := fun S h => ix_lst (by omega) (by rw [Int.toNat_natCast, List.getElem?_map, h]; rfl)
  cases st with
  | @past _ _ _ s u es eu hw =>
    have hl : ((s.ss.length : Int) ≤ (w : Int)) := by omega
    simp [w_told_e, ent, onIns_at (at' hg es), hl]
    exact q S hA (Keep.refl _ _)
  | @old _ _ _ s u x es eu ex oh okx hm =>
    have hl := (List.getElem?_eq_some_iff.mp ex).1
    have hl' : ¬ ((s.ss.length : Int) ≤ (w : Int)) := by omega
    simp [w_told_e, ent, onIns_at (at' hg es), hl', ixs _ ex]
    unfold wTry
    left
    simp [onIns_at (at' ht eu)]
    exact ⟨pt, _, u.rows, u.ss, x, rfl, at' ht eu, oh, okx, fun _ => q S hA (Keep.refl _ _), fun z => absurd hm z⟩
  | @new _ _ _ s u x rows' es eu ex oh okx hm hr oa =>
    have hl := (List.getElem?_eq_some_iff.mp ex).1
    have hl' : ¬ ((s.ss.length : Int) ≤ (w : Int)) := by omega
    simp [w_told_e, ent, onIns_at (at' hg es), hl', ixs _ ex]
    unfold wTry
    left
    simp [onIns_at (at' ht eu)]
    exact ⟨pt, _, u.rows, u.ss, x, rfl, at' ht eu, oh, okx, fun z => absurd z hm, fun _ => ⟨rows', hr, q _ (hA.set ht ⟨rows', u.ss ++ [x]⟩) (Keep.set ht)⟩⟩
  | @refused _ _ _ s u x nm es eu ex oh okx hm hr oa =>
    have hl := (List.getElem?_eq_some_iff.mp ex).1
    have hl' : ¬ ((s.ss.length : Int) ≤ (w : Int)) := by omega
    simp [w_told_e, ent, onIns_at (at' hg es), hl', ixs _ ex]
    unfold wTry
    right
    simp [onIns_at (at' ht eu)]
    refine ⟨pt, _, u.rows, u.ss, x, nm, rfl, at' ht eu, oh, okx, hm, hr, hrun_q (hrdX_nm hr) ?_⟩
    simp
    exact q S hA (Keep.refl _ _)
theorem sok_write : PyData.strOk ("write" : Str) = true := by decide +kernel
theorem sok_rub : PyData.strOk ("rub" : Str) = true := by decide +kernel
theorem sok_tell : PyData.strOk ("tell" : Str) = true := by decide +kernel
theorem sok_share : PyData.strOk ("share" : Str) = true := by decide +kernel
@[simp] theorem oEq_ww {S : Sto} : oEq S (.str "write") (.str "write") = some true := by rw [oEq_str sok_write sok_write]; simp
@[simp] theorem oEq_rw {S : Sto} : oEq S (.str "rub") (.str "write") = some false := by rw [oEq_str sok_rub sok_write, decide_eq_false (by decide +kernel)]
@[simp] theorem oEq_tw {S : Sto} : oEq S (.str "tell") (.str "write") = some false := by rw [oEq_str sok_tell sok_write, decide_eq_false (by decide +kernel)]
@[simp] theorem oEq_sw {S : Sto} : oEq S (.str "share") (.str "write") = some false := by rw [oEq_str sok_share sok_write, decide_eq_false (by decide +kernel)]
@[simp] theorem oEq_wr {S : Sto} : oEq S (.str "write") (.str "rub") = some false := by rw [oEq_str sok_write sok_rub, decide_eq_false (by decide +kernel)]
@[simp] theorem oEq_rr {S : Sto} : oEq S (.str "rub") (.str "rub") = some true := by rw [oEq_str sok_rub sok_rub]; simp
@[simp] theorem oEq_tr {S : Sto} : oEq S (.str "tell") (.str "rub") = some false := by rw [oEq_str sok_tell sok_rub, decide_eq_false (by decide +kernel)]
@[simp] theorem oEq_sr {S : Sto} : oEq S (.str "share") (.str "rub") = some false := by rw [oEq_str sok_share sok_rub, decide_eq_false (by decide +kernel)]
@[simp] theorem oEq_tt {S : Sto} : oEq S (.str "tell") (.str "tell") = some true := by rw [oEq_str sok_tell sok_tell]; simp
@[simp] theorem oEq_st {S : Sto} : oEq S (.str "share") (.str "tell") = some false := by rw [oEq_str sok_share sok_tell, decide_eq_false (by decide +kernel)]
theorem ok_done : ∀ ds S Q, sp_done ds S Q → w_done { nx := fun _ S' => Q .non S', rt := Q } (ent 4 ds) S := by
  rintro _ S Q ⟨ps, hs, hs', d, a, rfl, hA, st, q⟩
  have ixp : ∀ {k : Nat} {p : Addr} (S : Sto), ps[k]? = some p → oIx S (.lst (ps.map .ref)) (.int (k : Int)) = some (.ref p) := fun S h => ix_lst (by omega) (by rw [Int.toNat_natCast, List.getElem?_map, h]; rfl)
  cases st with
  | @write h p z s rows' ss' k es hl hz ha =>
    obtain ⟨ph, hp, hS⟩ := hA.at es
    simp [w_done_e, wt_done_1_e, ent, deedD, ixp _ hp, onIns_at hS]
    exact ⟨ph, _, s.rows, s.ss, p, z, rows', ss', k, rfl, hS, hl, hz, ha, q _ (hA.set hp ⟨rows', ss'⟩) (Keep.set hp)⟩
  | @rub h p m s rows' ss' k es ha =>
    obtain ⟨ph, hp, hS⟩ := hA.at es
    simp [w_done_e, wt_done_1_e, wt_done_2_e, ent, deedD, ixp _ hp, onIns_at hS]
    exact ⟨ph, _, s.rows, s.ss, p, m, rows', ss', k, rfl, hS, ha, q _ (hA.set hp ⟨rows', ss'⟩) (Keep.set hp)⟩
  | @share g t s u rows' ss' k es eu ha =>
    obtain ⟨pg, hg, hSg⟩ := hA.at es
    obtain ⟨pt, ht, hSt⟩ := hA.at eu
    simp [w_done_e, wt_done_1_e, wt_done_2_e, wt_done_3_e, wt_done_4_e, wt_done_5_e, ent, deedD, ixp _ hg, ixp _ ht, onIns_at hSg, onIns_at hSt]
    exact ⟨pt, _, _, u.rows, u.ss, s.ss, rows', ss', k, rfl, hSt, rdL_lst, (fun e => by cases e), ha, q _ (hA.set ht ⟨rows', ss'⟩) (Keep.set ht)⟩
  | @past g t w s u es eu hw =>
    obtain ⟨pg, hg, hSg⟩ := hA.at es
    obtain ⟨pt, ht, hSt⟩ := hA.at eu
    simp [w_done_e, wt_done_1_e, wt_done_2_e, wt_done_3_e, wt_done_4_e, ent, deedD, ixp _ hg, ixp _ ht]
    exact ⟨ps, _, _, _, g, t, w, pg, pt, rfl, hg, ht, hA, .past es eu hw, q⟩
  | @old g t w s u x es eu ex oh okx hm =>
    obtain ⟨pg, hg, hSg⟩ := hA.at es
    obtain ⟨pt, ht, hSt⟩ := hA.at eu
    simp [w_done_e, wt_done_1_e, wt_done_2_e, wt_done_3_e, wt_done_4_e, ent, deedD, ixp _ hg, ixp _ ht]
    exact ⟨ps, _, _, _, g, t, w, pg, pt, rfl, hg, ht, hA, .old es eu ex oh okx hm, q⟩
  | @new g t w s u x rows' es eu ex oh okx hm hr oa =>
    obtain ⟨pg, hg, hSg⟩ := hA.at es
    obtain ⟨pt, ht, hSt⟩ := hA.at eu
    simp [w_done_e, wt_done_1_e, wt_done_2_e, wt_done_3_e, wt_done_4_e, ent, deedD, ixp _ hg, ixp _ ht]
    exact ⟨ps, _, _, _, g, t, w, pg, pt, rfl, hg, ht, hA, .new es eu ex oh okx hm hr oa, q⟩
  | @refused g t w s u x nm es eu ex oh okx hm hr oa =>
    obtain ⟨pg, hg, hSg⟩ := hA.at es
    obtain ⟨pt, ht, hSt⟩ := hA.at eu
    simp [w_done_e, wt_done_1_e, wt_done_2_e, wt_done_3_e, wt_done_4_e, ent, deedD, ixp _ hg, ixp _ ht]
    exact ⟨ps, _, _, _, g, t, w, pg, pt, rfl, hg, ht, hA, .refused es eu ex oh okx hm hr oa, q⟩
theorem story_turns {D : Dn} {ps : List Addr} {p3 : Addr} {x0 x1 : Option Dv} {hs hs' : List HS} {ds : List Deed} {as : List Ans} (rn : Run hs ds hs' as) : ∀ (acc : List Ans) (S : Sto) (x4 : Option Dv), acc.length + ds.length ≤ 1000 → HandsAt S ps hs → S p3 = some (.lst (acc.map ansD)) → p3 ∉ ps →
    (∀ S' y, S' p3 = some (.lst ((acc ++ as).map ansD)) → D.nx [x0, x1, some (.lst (ps.map .ref)), some (.ref p3), y] S') → forL 4 wb_story_0 D (ds.map deedD) [x0, x1, some (.lst (ps.map .ref)), some (.ref p3), x4] S := by
  induction rn with
  | nil =>
    intro acc S x4 hl hA h3 n3 fin
    exact fin S x4 (by rw [List.append_nil]; exact h3)
  | @cons hs h1 h2 d ds a as st _ ih =>
    intro acc S x4 hl hA h3 n3 fin
    rw [List.length_cons] at hl
    have step := fun S' (hA' : HandsAt S' ps h1) (h3' : S' p3 = some (.lst ((acc ++ [a]).map ansD))) => ih (acc ++ [a]) S' (some (deedD d)) (by rw [List.length_append, List.length_singleton]; omega) hA' h3' n3 (fun S2 y z => fin S2 y (by rw [List.append_assoc] at z; exact z))
    show wb_story_0 { D with nx := forL 4 wb_story_0 D (ds.map deedD), ct := forL 4 wb_story_0 D (ds.map deedD), bk := D.nx } [x0, x1, some (.lst (ps.map .ref)), some (.ref p3), some (deedD d)] S
    generalize forL 4 wb_story_0 D (ds.map deedD) = N at step ⊢
    have hlim : acc.length < lim := by unfold lim; omega
    simp [wb_story_0_e, onLst_at h3]
    refine ⟨ps, hs, h1, d, a, rfl, hA, st, fun S' hA' kp => ?_⟩
    have h3' := kp p3 _ n3 h3
    simp [onLst_at h3', hlim]
    exact step _ (hA'.other n3) (by rw [sset_same, List.map_append]; rfl)
theorem frzAt_at {i : Nat} {ρ : Ev} {S : Sto} {p : Addr} {ds : List Dv} {k : Ev → Sto → Prop} (h1 : ev? ρ i = some (.ref p)) (h2 : S p = some (.lst ds)) (h : k (ρ.set i (some (.lst ds))) (sdel S p)) : frzAt i ρ S k := by
  simp only [frzAt, h1, h2]
  exact h
theorem ok_story : ∀ ds S Q, sp_story ds S Q → w_story { nx := fun _ S' => Q .non S', rt := Q } (ent 5 ds) S := by
  rintro _ S Q ⟨n, deeds, hs', as, rfl, hn, hl, rn, q⟩
  simp [w_story_e, ent]
  refine ⟨n, rfl, hn, fun ps S1 hA => ?_⟩
  simp
  intro p3 h3
  refine story_turns rn [] _ none (by show 0 + _ ≤ _; omega) (hA.other (hA.free h3)) sset_same (hA.free h3) fun S' y z => ?_
  rw [List.nil_append] at z
  dsimp only
  refine frzAt_at (by simp) z ?_
  simp
  exact q _
theorem after_turns {D : Dn} {ps : List Addr} {x0 x1 : Option Dv} {hs hs' : List HS} {ds : List Deed} {as : List Ans} (rn : Run hs ds hs' as) : ∀ (S : Sto) (x3 : Option Dv), HandsAt S ps hs →
    (∀ S' y, HandsAt S' ps hs' → D.nx [x0, x1, some (.lst (ps.map .ref)), y] S') → forL 3 wb_hands_after_0 D (ds.map deedD) [x0, x1, some (.lst (ps.map .ref)), x3] S := by
  induction rn with
  | nil => intro S x3 hA fin; exact fin S x3 hA
  | @cons hs h1 h2 d ds a as st _ ih =>
    intro S x3 hA fin
    have step := fun S' (hA' : HandsAt S' ps h1) => ih S' (some (deedD d)) hA' fin
    show wb_hands_after_0 { D with nx := forL 3 wb_hands_after_0 D (ds.map deedD), ct := forL 3 wb_hands_after_0 D (ds.map deedD), bk := D.nx } [x0, x1, some (.lst (ps.map .ref)), some (deedD d)] S
    generalize forL 3 wb_hands_after_0 D (ds.map deedD) = N at step ⊢
    simp [wb_hands_after_0_e]
    exact ⟨ps, hs, h1, d, a, rfl, hA, st, fun S' hA' kp => step S' hA'⟩
theorem ok_hands_after : ∀ ds S Q, sp_hands_after ds S Q → w_hands_after { nx := fun _ S' => Q .non S', rt := Q } (ent 4 ds) S := by
  rintro _ S Q ⟨n, deeds, hs', as, rfl, hn, rn, q⟩
  simp [w_hands_after_e, ent]
  refine ⟨n, rfl, hn, fun ps S1 hA => ?_⟩
  simp
  refine after_turns rn _ none hA fun S' y z => ?_
  simp
  exact q ps S' z
theorem fld_cmp {S : Sto} {f : Str} {v : HS → Dv} (hv : ∀ (n : Int) (h : HS), (handFs n h.rows h.ss).lookup f = some (v h)) {Q : List Dv → Sto → Prop} : ∀ (ps : List Addr) (hs : List HS) (acc : List Dv), ps.length = hs.length → (∀ (k : Nat) p h, ps[k]? = some p → hs[k]? = some h → ∃ n : Int, S p = some (.ins (handFs n h.rows h.ss))) →
    Q (acc ++ hs.map v) S → cmpL wYes (wFld f (wVar 0)) (ps.map .ref) S acc Q
  | [], [], acc, _, _, q => by simpa [cmpL] using q
  | [], _ :: _, _, h, _, _ => by simp at h
  | _ :: _, [], _, h, _, _ => by simp at h
  | p :: ps, h :: hs, acc, hl, hk, q => by
    obtain ⟨n, hS⟩ := hk 0 p h rfl rfl
    have z := fld_cmp (S := S) hv (Q := Q) ps hs (acc ++ [v h]) (by simpa using hl) (fun k p' h' h1 h2 => hk (k + 1) p' h' (by simpa using h1) (by simpa using h2)) (by simpa using q)
    simp [cmpL, onIns_at hS, hv]
    exact z
theorem HandsAt.ex {S : Sto} {ps : List Addr} {hs : List HS} (h : HandsAt S ps hs) : ∀ (k : Nat) p x, ps[k]? = some p → hs[k]? = some x → ∃ n : Int, S p = some (.ins (handFs n x.rows x.ss)) := fun k p x h1 h2 => ⟨_, h.2.2 k p x h1 h2⟩
theorem ok_ends : ∀ ds S Q, sp_ends ds S Q → w_ends { nx := fun _ S' => Q .non S', rt := Q } (ent 2 ds) S := by
  rintro _ S Q ⟨n, deeds, hs', as, rfl, hn, rn, q⟩
  simp [w_ends_e, ent]
  refine ⟨n, deeds, hs', as, rfl, hn, rn, fun ps S1 hA => ?_⟩
  simp
  exact fld_cmp (fun n h => lk_rows) ps hs' [] hA.2.1 hA.ex (q _)
theorem words_cmp {S : Sto} {Q : List Dv → Sto → Prop} : ∀ (rows : List Rw) (acc : List Dv), Q (acc ++ (there rows).map fun r => Dv.str r.sg) S → cmpL (wNot (wTest (wOp oIx (wVar 0) (wC (.int 3))))) (wOp oIx (wVar 0) (wC (.int 2))) (rows.map rowD) S acc Q
  | [], acc, q => by simpa [cmpL, there] using q
  | r :: rs, acc, q => by
    cases ho : r.out with
    | true =>
      have e : there (r :: rs) = there rs := by unfold there; rw [List.filter_cons, ho]; rfl
      rw [e] at q
      have z := words_cmp (S := S) (Q := Q) rs acc q
      simp [cmpL, rowD_e, ho]
      exact z
    | false =>
      have e : there (r :: rs) = r :: there rs := by unfold there; rw [List.filter_cons, ho]; rfl
      rw [e] at q
      have z := words_cmp (S := S) (Q := Q) rs (acc ++ [.str r.sg]) (by simpa using q)
      simp [cmpL, rowD_e, ho]
      exact z
theorem ok_words : ∀ ds S Q, sp_words ds S Q → w_words { nx := fun _ S' => Q .non S', rt := Q } (ent 1 ds) S := by
  rintro _ S Q ⟨rows, rfl, hl, h1, q⟩
  simp [w_words_e, ent]
  refine words_cmp rows [] ?_
  have hs := sum_ones (rows := there rows) (fun r hr => h1 r (there_sub hr))
  have hle := there_len rows
  simp
  refine ⟨(there rows).map Rw.sg, by rw [List.map_map]; rfl, ?_, by rw [glue_tx]; exact q⟩
  rw [hs, empty_len]; omega
theorem texts_cmp {S : Sto} {Q : List Dv → Sto → Prop} : ∀ (ps : List Addr) (hs : List HS) (acc : List Dv), ps.length = hs.length → (∀ (k : Nat) p h, ps[k]? = some p → hs[k]? = some h → ∃ n : Int, S p = some (.ins (handFs n h.rows h.ss))) → (∀ h ∈ hs, h.rows.length ≤ 1000 ∧ one1 h.rows) →
    Q (acc ++ hs.map fun h => .str (txt h.rows)) S → cmpL wYes (wCall sp_words (wCons (wFld "rows" (wVar 0)) wNil)) (ps.map .ref) S acc Q
  | [], [], acc, _, _, _, q => by simpa [cmpL] using q
  | [], _ :: _, _, h, _, _, _ => by simp at h
  | _ :: _, [], _, h, _, _, _ => by simp at h
  | p :: ps, h :: hs, acc, hl, hk, hw, q => by
    obtain ⟨n, hS⟩ := hk 0 p h rfl rfl
    obtain ⟨w1, w2⟩ := hw h List.mem_cons_self
    have z := texts_cmp (S := S) (Q := Q) ps hs (acc ++ [.str (txt h.rows)]) (by simpa using hl) (fun k p' h' h1 h2 => hk (k + 1) p' h' (by simpa using h1) (by simpa using h2)) (fun x hx => hw x (List.mem_cons_of_mem _ hx)) (by simpa using q)
    simp [cmpL, onIns_at hS]
    exact ⟨h.rows, rfl, w1, w2, z⟩
theorem ok_texts : ∀ ds S Q, sp_texts ds S Q → w_texts { nx := fun _ S' => Q .non S', rt := Q } (ent 2 ds) S := by
  rintro _ S Q ⟨n, deeds, hs', as, rfl, hn, rn, hw, q⟩
  simp [w_texts_e, ent]
  refine ⟨n, deeds, hs', as, rfl, hn, rn, fun ps S1 hA => ?_⟩
  simp
  exact texts_cmp ps hs' [] hA.2.1 hA.ex hw (q _)
theorem ok_law_is_slip : ∀ ds S Q, sp_law_is_slip ds S Q → w_law_is_slip { nx := fun _ S' => Q .non S', rt := Q } (ent 1 ds) S := by
  rintro _ S Q ⟨s, rfl, q⟩
  cases s with
  | put t b x =>
    simp [w_law_is_slip_e, ent, slipD]
    exact q
  | cut t =>
    simp [w_law_is_slip_e, ent, slipD]
    exact q
theorem are_turns {D : Dn} {S : Sto} {x0 : Option Dv} (fin : ∀ y, D.nx [x0, y] S) : ∀ (ss : List Slip) (x1 : Option Dv), forL 1 wb_law_are_slips_0 D (ss.map slipD) [x0, x1] S
  | [], x1 => fin x1
  | s :: ss, x1 => by
    have step := are_turns fin ss (some (slipD s))
    show wb_law_are_slips_0 { D with nx := forL 1 wb_law_are_slips_0 D (ss.map slipD), ct := forL 1 wb_law_are_slips_0 D (ss.map slipD), bk := D.nx } [x0, some (slipD s)] S
    generalize forL 1 wb_law_are_slips_0 D (ss.map slipD) = N at step ⊢
    simp [wb_law_are_slips_0_e]
    refine ⟨s, rfl, ?_⟩
    simp
    exact step
theorem ok_law_are_slips : ∀ ds S Q, sp_law_are_slips ds S Q → w_law_are_slips { nx := fun _ S' => Q .non S', rt := Q } (ent 2 ds) S := by
  rintro _ S Q ⟨ss, rfl, q⟩
  simp [w_law_are_slips_e, ent]
  exact are_turns (fun y => by simp; exact q) ss none
theorem ok_law_room : ∀ ds S Q, sp_law_room ds S Q → w_law_room { nx := fun _ S' => Q .non S', rt := Q } (ent 3 ds) S := by
  rintro _ S Q ⟨ns, a, b, rfl, hl, q⟩
  have h : ¬ ((63 : Int) < (ns.length : Int)) := by omega
  simp [w_law_room_e, ent, h]
  exact q
theorem so_turns {D : Dn} {S : Sto} {n : Nat} {d : Dv} {ds : List Dv} (hd : d = .tup ds ∨ d = .lst ds) (hl : ∀ x ∈ ds, lay n x) (fin : ∀ y2, D.nx [some d, some d, y2] S) : ∀ (m k : Nat) (x2 : Option Dv), m + k = ds.length →
    forR 2 (wb_law_so_0 (n + 1)) D m (k : Int) [some d, some d, x2] S
  | 0, k, x2, _ => fin x2
  | m + 1, k, x2, hm => by
    have hk : k < ds.length := by omega
    have g : ds[k]? = some ds[k] := List.getElem?_eq_getElem hk
    have step : forR 2 (wb_law_so_0 (n + 1)) D m ((k : Int) + 1) [some d, some d, some (.int k)] S := so_turns hd hl fin m (k + 1) (some (.int k)) (by omega)
    show wb_law_so_0 (n + 1) { D with nx := forR 2 (wb_law_so_0 (n + 1)) D m ((k : Int) + 1), ct := forR 2 (wb_law_so_0 (n + 1)) D m ((k : Int) + 1), bk := D.nx } [some d, some d, some (.int k)] S
    generalize forR 2 (wb_law_so_0 (n + 1)) D m ((k : Int) + 1) = N at step ⊢
    have ix : ∀ S : Sto, oIx S d (.int (k : Int)) = some ds[k] := fun S => by
      rcases hd with e | e <;> rw [e]
      · exact atI_ok (by omega) (by rw [Int.toNat_natCast]; exact g)
      · exact ix_lst (by omega) (by rw [Int.toNat_natCast]; exact g)
    simp [wb_law_so_0_e, ix]
    refine ⟨ds[k], rfl, hl _ (List.getElem_mem hk), ?_⟩
    simp
    exact step
theorem ok_law_so : ∀ n ds S Q, sp_law_so (n + 1) ds S Q → w_law_so n { nx := fun _ S' => Q .non S', rt := Q } (ent 3 ds) S := by
  have base : ∀ n d S Q, lay 0 d → Q (.bl true) S → w_law_so n { nx := fun _ S' => Q .non S', rt := Q } (ent 3 [d, d]) S := by
    rintro n d S Q h q
    rcases h with ⟨i, rfl⟩ | ⟨x, rfl, okx⟩
    · have e1 : oIs S (.int i) .non = some false := rfl
      simp [w_law_so_e, wt_law_so_1_e, wt_law_so_2_e, ent, e1]
      exact q
    · have e1 : oIs S (.str x) .non = some false := rfl
      have e2 : isI S "bool" (.str x) = some (.bl false) := rfl
      have e3 : isI S "int" (.str x) = some (.bl false) := rfl
      have e4 : oEq S (.str x) (.str x) = some true := by rw [oEq_str okx okx]; simp
      simp [w_law_so_e, wt_law_so_1_e, wt_law_so_2_e, wt_law_so_3_e, ent, e1, e2, e3, e4]
      exact q
  have seq : ∀ n d (ds : List Dv) S Q, (d = .tup ds ∨ d = .lst ds) → ds.length ≤ 5000 → (∀ x ∈ ds, lay n x) → Q (.bl true) S → w_law_so (n + 1) { nx := fun _ S' => Q .non S', rt := Q } (ent 3 [d, d]) S := by
    rintro n d ds S Q hd hl hx q
    have z := so_turns (D := { nx := wt_law_so_9 (n + 1) { nx := fun _ S' => Q .non S', rt := Q }, rt := Q }) (S := S) hd hx (fun y2 => by simp [wt_law_so_9_e]; exact q) ds.length 0 none (by omega)
    have e1 : oIs S d .non = some false := by rcases hd with e | e <;> rw [e] <;> rfl
    have e2 : isI S "bool" d = some (.bl false) := by rcases hd with e | e <;> rw [e] <;> rfl
    have e3 : isI S "int" d = some (.bl false) := by rcases hd with e | e <;> rw [e] <;> rfl
    have e4 : isI S "str" d = some (.bl false) := by rcases hd with e | e <;> rw [e] <;> rfl
    have e5 : isI S "dict" d = some (.bl false) := by rcases hd with e | e <;> rw [e] <;> rfl
    have e6 : isP S d = some (.bl true) := by rcases hd with e | e <;> rw [e] <;> rfl
    have e7 : ∃ b, isI S "tuple" d = some (.bl b) := by rcases hd with e | e <;> rw [e] <;> exact ⟨_, rfl⟩
    have e8 : ∃ b, isI S "list" d = some (.bl b) := by rcases hd with e | e <;> rw [e] <;> exact ⟨_, rfl⟩
    have e9 : fLen S [d] = some (.int ds.length) := by
      rcases hd with e | e <;> rw [e]
      · exact fLen_tup
      · exact fLen_lst
    obtain ⟨b7, e7⟩ := e7
    obtain ⟨b8, e8⟩ := e8
    simp [w_law_so_e, wt_law_so_1_e, wt_law_so_2_e, wt_law_so_3_e, wt_law_so_4_e, wt_law_so_5_e, wt_law_so_6_e, wt_law_so_7_e, wt_law_so_8_e, ent, e1, e2, e3, e4, e5, e6, e7, e8, e9]
    exact ⟨by omega, z⟩
  rintro n _ S Q ⟨d, rfl, h, q⟩
  induction n generalizing d with
  | zero => exact base 0 d S Q h q
  | succ n ih =>
    have down : ∀ (m : Nat) (d : Dv), lay m d → lay 0 d ∨ ∃ m' ds, m' < m ∧ (d = .tup ds ∨ d = .lst ds) ∧ ds.length ≤ 5000 ∧ ∀ x ∈ ds, lay m' x := by
      intro m
      induction m with
      | zero => exact fun d h => .inl h
      | succ m ihm =>
        intro d h
        rcases h with h | ⟨ds, h1, h2, h3⟩
        · rcases ihm d h with z | ⟨m', ds, z1, z2⟩
          · exact .inl z
          · exact .inr ⟨m', ds, by omega, z2⟩
        · exact .inr ⟨m, ds, by omega, h1, h2, h3⟩
    have up : ∀ (m m' : Nat) (d : Dv), m' ≤ m → lay m' d → lay m d := by
      intro m
      induction m with
      | zero => intro m' d hm h; rw [show m' = 0 by omega] at h; exact h
      | succ m ihm =>
        intro m' d hm h
        by_cases e : m' = m + 1
        · rw [e] at h; exact h
        · exact .inl (ihm m' d (by omega) h)
    rcases down (n + 1) d h with z | ⟨m', ds, hm, z1, z2, z3⟩
    · exact base (n + 1) d S Q z q
    · exact seq n d ds S Q z1 z2 (fun x hx => up n m' x (by omega) (z3 x hx)) q
theorem cutS_ok {z : Str} {l h : Option Int} (ok : PyData.strOk z = true) : PyData.strOk (cutS z l h) = true ∧ (cutS z l h).length ≤ z.length := by
  unfold cutS
  refine ⟨?_, ?_⟩
  · have all : z.cps.all (· < 0x110000) = true := ok
    rw [← Array.all_toList, List.all_eq_true] at all
    show (List.toArray _ : Array Nat).all (· < 0x110000) = true
    rw [← Array.all_toList, List.all_eq_true]
    intro x hx
    exact all x (List.mem_of_mem_drop (List.mem_of_mem_take (by simpa using hx)))
  · show (List.toArray _).size ≤ z.cps.size
    rw [List.size_toArray, List.length_take, List.length_drop, Array.length_toList]
    omega
theorem sg9_len : ("ab ~c(d0i" : Str).length = 9 := by decide +kernel
theorem sg9_lim : ("ab ~c(d0i" : Str).length ≤ lim := by rw [sg9_len]; decide
theorem sg9_ok : PyData.strOk ("ab ~c(d0i" : Str) = true := by decide +kernel
theorem marks_cmp {S : Sto} {c : Int} {Q : List Dv → Sto → Prop} : ∀ (L : List Nat) (acc : List Str), (∀ x ∈ acc, PyData.strOk x = true ∧ x.length = 1) → (∀ ts : List Str, ts.length = acc.length + L.length → (∀ x ∈ ts, PyData.strOk x = true ∧ x.length = 1) → Q (ts.map .str) S) →
    cmpL (wt2 [.int c] wYes) (we2 [.int c] (wOp oIx (wCall sp_law_marks wNil) (wOp oMod (wOp oAdd (wVar 1) (wOp oMul (wC (.int 5)) (wVar 0))) (wC (.int 94))))) (L.map fun (i : Nat) => Dv.int (0 + (i : Int))) S (acc.map .str) Q
  | [], acc, ha, q => q acc (by simp) ha
  | k :: L, acc, ha, q => by
    obtain ⟨sg, hsg, oksg, lsg⟩ := ix_sign (S := S) (z := marks) (i := (c + 5 * (k : Int)) % 94) (by rw [marks_len]; decide) marks_ok (by omega) (by rw [marks_len]; omega)
    have z := marks_cmp (S := S) (c := c) (Q := Q) L (acc ++ [sg]) (fun x hx => by
      rcases List.mem_append.mp hx with m | m
      · exact ha x m
      · rw [List.mem_singleton.mp m]; exact ⟨oksg, lsg⟩) (fun ts hl h => q ts (by rw [hl, List.length_append, List.length_singleton, List.length_cons]; omega) h)
    have e5 : ∀ S : Sto, oMul S (.int 5) (.int (k : Int)) = some (.int (5 * (k : Int))) := fun S => oMul_small (by decide) (by decide)
    rw [List.map_append] at z
    simp [cmpL, e5, hsg]
    simpa using z
theorem deeds_6 {D : Dn} {S0 : Sto} {p : Addr} {n h t pl gn k : Nat} {c : Int} {x0 x1 x9 x10 : Option Dv} {deeds : List Deed} (hh : h < n) (ht : t < n) (hl : deeds.length ≤ 100) (hk : k ≤ 100)
    (fin : ∀ d, DOk n d → ∀ y9 y10, D.nx [x0, x1, some (.ref p), some (.int k), some (.int c), some (.int ((h : Int) + 1)), some (.int ((t : Int) + 1)), some (.int pl), some (.int gn), y9, y10] (sset S0 p (.lst ((deeds ++ [d]).map deedD)))) :
    wbt_law_drawn_deeds_0_6 D [x0, x1, some (.ref p), some (.int k), some (.int c), some (.int ((h : Int) + 1)), some (.int ((t : Int) + 1)), some (.int pl), some (.int gn), x9, x10] (sset S0 p (.lst (deeds.map deedD))) := by
  have hlim : deeds.length < lim := by unfold lim; omega
  have fin' : ∀ d, DOk n d → ∀ y9 y10, D.nx [x0, x1, some (.ref p), some (.int k), some (.int c), some (.int ((h : Int) + 1)), some (.int ((t : Int) + 1)), some (.int pl), some (.int gn), y9, y10] (sset S0 p (.lst (deeds.map deedD ++ [deedD d]))) := fun d hd y9 y10 => by
    have z := fin d hd y9 y10
    rw [List.map_append] at z
    exact z
  have e5 : ∀ S : Sto, oMul S (.int 5) (.int (k : Int)) = some (.int (5 * (k : Int))) := fun S => oMul_small (by decide) (by decide)
  by_cases h1 : c * 48271 % 1021 % 8 < 3
  · obtain ⟨ok9, l9⟩ := cutS_ok (l := some ((k : Int) % 6)) (h := some ((k : Int) % 6 + (c + (k : Int) / 4 + 2) * 48271 % 1031 % 4)) sg9_ok
    rw [sg9_len] at l9
    by_cases h2 : (k : Int) % 20 = 3
    · have m0 : 0 ≤ (c + (k : Int) / 4 + 2) * 48271 % 1031 % 4 := by omega
      have m1 : (c + (k : Int) / 4 + 2) * 48271 % 1031 % 4 < 4 := by omega
      have e4 : ∀ S : Sto, oMul S (.int 4) (.int ((c + (k : Int) / 4 + 2) * 48271 % 1031 % 4)) = some (.int (4 * ((c + (k : Int) / 4 + 2) * 48271 % 1031 % 4))) := fun S => oMul_small (by decide) (by decide)
      simp [wbt_law_drawn_deeds_0_6_e, h1, h2, sg9_lim, e4]
      generalize (c + (k : Int) / 4 + 2) * 48271 % 1031 % 4 = sz at *
      refine ⟨by omega, by omega, ?_⟩
      unfold rngD
      refine marks_cmp (List.range (4 * sz).toNat) [] (fun x hx => by cases hx) fun ts tl th => ?_
      simp
      refine ⟨ts, rfl, ?_, ?_⟩
      · have : (ts.map (·.length)).sum = ts.length := by
          clear tl
          induction ts with
          | nil => rfl
          | cons a l ih => rw [List.map_cons, List.sum_cons, (th a List.mem_cons_self).2, ih fun x hx => th x (List.mem_cons_of_mem _ hx), List.length_cons]; omega
        simp at tl
        rw [this, empty_len]; omega
      · have lt : (glue "" ts).length = ts.length := by
          rw [glue_tx, tx_len, empty_len]
          clear tl
          induction ts with
          | nil => rfl
          | cons a l ih =>
            have := ih fun x hx => th x (List.mem_cons_of_mem _ hx)
            rw [List.map_cons, List.sum_cons, (th a List.mem_cons_self).2, List.length_cons]; omega
        have okt : PyData.strOk (glue "" ts) = true := by rw [glue_tx]; exact ok_tx ok_empty fun x hx => (th x hx).1
        simp at tl
        simp [hlim, sset_sset]
        exact fin' (.write h pl (glue "" ts)) ⟨hh, by omega, okt⟩ _ _
    · simp [wbt_law_drawn_deeds_0_6_e, h1, h2, sg9_lim, hlim, sset_sset]
      exact fin' (.write h pl (cutS "ab ~c(d0i" (some ((k : Int) % 6)) (some ((k : Int) % 6 + (c + (k : Int) / 4 + 2) * 48271 % 1031 % 4)))) ⟨hh, by omega, ok9⟩ _ _
  · by_cases h2 : c * 48271 % 1021 % 8 = 3
    · simp [wbt_law_drawn_deeds_0_6_e, h1, h2, hlim, sset_sset]
      exact fin' (.rub h pl gn) hh _ _
    · by_cases h3 : c * 48271 % 1021 % 8 < 7
      · have hk1 : (0 : Int) < (k : Int) + 1 := by omega
        have m0 := Int.emod_nonneg ((c + 5 * (k : Int)) * 48271 % 1039) (show (k : Int) + 1 ≠ 0 by omega)
        have em : ∀ (S : Sto) (i : Int), oMod S (.int i) (.int ((k : Int) + 1)) = some (.int (i % ((k : Int) + 1))) := fun S i => oMod_lit hk1
        simp [wbt_law_drawn_deeds_0_6_e, h1, h2, h3, e5, em, hlim, sset_sset]
        have z := fin' (.tell h t ((c + 5 * (k : Int)) * 48271 % 1039 % ((k : Int) + 1)).toNat) ⟨hh, ht⟩ x9 x10
        have e : ((((c + 5 * (k : Int)) * 48271 % 1039 % ((k : Int) + 1)).toNat : Nat) : Int) = (c + 5 * (k : Int)) * 48271 % 1039 % ((k : Int) + 1) := by omega
        simp only [deedD] at z
        rw [e] at z
        exact z
      · simp [wbt_law_drawn_deeds_0_6_e, h1, h2, h3, hlim, sset_sset]
        exact fin' (.share h t) ⟨hh, ht⟩ _ _
theorem mod_nat {a : Int} {n : Nat} (hn : 0 < n) : ∃ h : Nat, h < n ∧ a % (n : Int) = (h : Int) := by
  have h0 := Int.emod_nonneg a (show (n : Int) ≠ 0 by omega)
  have h1 := Int.emod_lt_of_pos a (show (0 : Int) < n by omega)
  exact ⟨(a % (n : Int)).toNat, by omega, by omega⟩
theorem deeds_turns {D : Dn} {S0 : Sto} {p : Addr} {n : Nat} {cells : List Int} (hn : 0 < n) (hc : cells.length ≤ 64)
    (fin : ∀ (deeds : List Deed) (ρ : Ev), deeds.length = cells.length → (∀ d ∈ deeds, DOk n d) → ev? ρ 2 = some (.ref p) → ρ.length = 11 → D.nx ρ (sset S0 p (.lst (deeds.map deedD)))) :
    ∀ (m k : Nat) (deeds : List Deed) (x3 x4 x5 x6 x7 x8 x9 x10 : Option Dv), m + k = cells.length → deeds.length = k → (∀ d ∈ deeds, DOk n d) →
      forR 3 wb_law_drawn_deeds_0 D m (k : Int) [some (.lst (cells.map .int)), some (.int n), some (.ref p), x3, x4, x5, x6, x7, x8, x9, x10] (sset S0 p (.lst (deeds.map deedD))) := by
  intro m
  induction m with
  | zero =>
    intro k deeds x3 x4 x5 x6 x7 x8 x9 x10 hm hl hd
    exact fin deeds _ (by omega) hd (by simp) (by simp)
  | succ m ih =>
    intro k deeds x3 x4 x5 x6 x7 x8 x9 x10 hm hl hd
    have hk : k < cells.length := by omega
    have ix : ∀ S, oIx S (.lst (cells.map .int)) (.int (k : Int)) = some (.int cells[k]) := fun S => ix_lst (by omega) (by simp [hk])
    generalize cells[k] = c at ix
    obtain ⟨h, hh, eh⟩ := mod_nat (a := (c + (k : Int)) * 48271 % 1013) hn
    obtain ⟨t, ht, et⟩ := mod_nat (a := (c + (k : Int) + 1 + (k : Int) / 5) * 48271 % 1019) hn
    have step : ∀ (d : Deed), DOk n d → ∀ (pl gn : Int) y9 y10, forR 3 wb_law_drawn_deeds_0 D m ((k : Int) + 1) [some (.lst (cells.map .int)), some (.int n), some (.ref p), some (.int k), some (.int c), some (.int ((h : Int) + 1)), some (.int ((t : Int) + 1)), some (.int pl), some (.int gn), y9, y10] (sset S0 p (.lst ((deeds ++ [d]).map deedD))) := fun d dk pl gn y9 y10 =>
      ih (k + 1) (deeds ++ [d]) _ _ _ _ _ _ _ _ (by omega) (by rw [List.length_append, List.length_singleton]; omega) (fun q hq => by
        rcases List.mem_append.mp hq with z | z
        · exact hd q z
        · rw [List.mem_singleton.mp z]; exact dk)
    show wb_law_drawn_deeds_0 { D with nx := forR 3 wb_law_drawn_deeds_0 D m ((k : Int) + 1), ct := forR 3 wb_law_drawn_deeds_0 D m ((k : Int) + 1), bk := D.nx } [some (.lst (cells.map .int)), some (.int n), some (.ref p), some (.int k), x4, x5, x6, x7, x8, x9, x10] (sset S0 p (.lst (deeds.map deedD)))
    generalize forR 3 wb_law_drawn_deeds_0 D m ((k : Int) + 1) = N at step ⊢
    have hn' : (0 : Int) < (n : Int) := by omega
    have em : ∀ (S : Sto) (i : Int), oMod S (.int i) (.int (n : Int)) = some (.int (i % (n : Int))) := fun S i => oMod_lit hn'
    have six : ∀ (pl gn : Int) (x9 x10 : Option Dv), 0 ≤ pl → 0 ≤ gn → wbt_law_drawn_deeds_0_6 { D with nx := N, ct := N, bk := D.nx } [some (.lst (cells.map .int)), some (.int n), some (.ref p), some (.int k), some (.int c), some (.int ((h : Int) + 1)), some (.int ((t : Int) + 1)), some (.int pl), some (.int gn), x9, x10] (sset S0 p (.lst (deeds.map deedD))) := fun pl gn x9 x10 h1 h2 => by
      have e1 : pl = ((pl.toNat : Nat) : Int) := by omega
      have e2 : gn = ((gn.toNat : Nat) : Int) := by omega
      rw [e1, e2]
      exact deeds_6 hh ht (by omega) (by omega) fun d dk y9 y10 => step d dk _ _ y9 y10
    by_cases h7 : c * 48271 % 1087 % 7 = 1
    · simp [wb_law_drawn_deeds_0_e, wbt_law_drawn_deeds_0_1_e, wbt_law_drawn_deeds_0_2_e, wbt_law_drawn_deeds_0_3_e, wbt_law_drawn_deeds_0_4_e, wbt_law_drawn_deeds_0_5_e, ix, em, eh, et, h7]
      exact six _ _ _ _ (by omega) (by omega)
    · simp [wb_law_drawn_deeds_0_e, wbt_law_drawn_deeds_0_1_e, wbt_law_drawn_deeds_0_2_e, wbt_law_drawn_deeds_0_3_e, wbt_law_drawn_deeds_0_4_e, wbt_law_drawn_deeds_0_5_e, ix, em, eh, et, h7]
      exact six _ _ _ _ (by omega) (by omega)
theorem ok_law_drawn_deeds : ∀ ds S Q, sp_law_drawn_deeds ds S Q → w_law_drawn_deeds { nx := fun _ S' => Q .non S', rt := Q } (ent 11 ds) S := by
  rintro _ S Q ⟨cells, n, rfl, hn, _, hc, q⟩
  simp [w_law_drawn_deeds_e, ent]
  intro p hp
  refine ⟨by omega, deeds_turns (S0 := S) (p := p) hn hc ?_ cells.length 0 [] none none none none none none none none (by simp) rfl (fun d hd => by cases hd)⟩
  intro deeds ρ hl hd h2 h11
  refine frzAt_set h2 hp ?_
  have e : ev? (ρ.set 2 (some (.lst (deeds.map deedD)))) 2 = some (.lst (deeds.map deedD)) := by simp [ev?, h11]
  simp [e]
  exact q deeds hl hd
end Lk
set_option maxHeartbeats 0
namespace Lk
open PySem PySem.Spec PyProof.Rows L2 MQ
noncomputable def sp_law_shares : Ds := fun ds S Q => ∃ n : Nat, ds = [.int n] ∧ 0 < n ∧ n ≤ 100 ∧ Q (.lst ((sharesOf n).map deedD)) S
theorem ln_law_shares : ∀ ds S Q, sp_law_shares ds S Q → ds.length = 1 := by rintro _ S Q ⟨_, rfl, _⟩; rfl
noncomputable def sp_law_go : Ds := fun ds S Q => (∃ (h p : Nat) (z : Str) (c : Int) (b : Tag), ds = [.lst ((putsOf c ((h : Int) + 1) b (chs z)).map slipD), deedD (.write h p z)] ∧ z.length ≤ 1000 ∧ PyData.strOk z = true ∧ Q (.bl true) S) ∨
  ∃ (h p m : Nat) (ts : List Tag), ds = [.lst ((cutsOf ts).map slipD), deedD (.rub h p m)] ∧ ts.length ≤ m ∧ Q (.bl true) S
theorem ln_law_go : ∀ ds S Q, sp_law_go ds S Q → ds.length = 2 := by rintro _ S Q (⟨_, _, _, _, _, rfl, _⟩ | ⟨_, _, _, _, rfl, _⟩) <;> rfl
noncomputable def sp_law_between : Ds := fun ds S Q => ∃ (R : List Rw) (r1 r2 : Rw), ds = [.lst (R.map rowD), tagD r1.tag, tagD r2.tag] ∧ Gd R ∧ R.length ≤ 1000 ∧ r1 ∈ R ∧ r2 ∈ R ∧ r2.bhd = r1.tag ∧ ∀ S', Q (.bl true) S'
theorem ln_law_between : ∀ ds S Q, sp_law_between ds S Q → ds.length = 3 := by rintro _ S Q ⟨_, _, _, rfl, _⟩; rfl
noncomputable def sp_law_holds : Ds := fun ds S Q => ∃ (R : List Rw) (Pm : List Slip) (Cm : List Tag), ds = [.lst (R.map rowD), .lst (Pm.map slipD), .lst (Cm.map tagD)] ∧ R.length ≤ 1000 ∧ okS R ∧ R.Nodup ∧ R.length = Pm.length ∧ (∀ s ∈ Pm, isPut s = true) ∧ (∀ s ∈ Pm, okSl s) ∧
  (∀ t b x, Slip.put t b x ∈ Pm → (⟨t.1, t.2, b.1, b.2, x, decide (t ∈ Cm)⟩ : Rw) ∈ R) ∧ Q (.bl true) S
theorem ln_law_holds : ∀ ds S Q, sp_law_holds ds S Q → ds.length = 3 := by rintro _ S Q ⟨_, _, _, rfl, _⟩; rfl
noncomputable def sp_law_all_one : Ds := fun ds S Q => ∃ (n : Nat) (R : List Rw), ds = [.lst (List.replicate n (.lst (R.map rowD))), .lst (List.replicate n (.str (txt R))), .int n] ∧ 0 < n ∧ n ≤ 100 ∧ R.length ≤ 1000 ∧ okS R ∧ one1 R ∧ Q (.bl true) S
theorem ln_law_all_one : ∀ ds S Q, sp_law_all_one ds S Q → ds.length = 3 := by rintro _ S Q ⟨_, _, rfl, _⟩; rfl
noncomputable def wb_law_holds_0 : WS :=
  (wIf (wCmp oNe (wCount (wVar 0) (wCons (wTup (wCons (wOp oIx (wVar 3) (wC (.int 1))) (wCons (wOp oIx (wVar 3) (wC (.int 2))) (wCons (wOp oIx (wVar 3) (wC (.int 3))) (wCons (wOp (asD oIn) (wOp oIx (wVar 3) (wC (.int 1))) (wVar 2)) wNil))))) wNil)) (wC (.int 1)))
  (wRet (wC (.bl false)))
  wNext)
theorem wb_law_holds_0_e {D : Dn} {ρ : Ev} {S : Sto} : wb_law_holds_0 D ρ S =
  (wIf (wCmp oNe (wCount (wVar 0) (wCons (wTup (wCons (wOp oIx (wVar 3) (wC (.int 1))) (wCons (wOp oIx (wVar 3) (wC (.int 2))) (wCons (wOp oIx (wVar 3) (wC (.int 3))) (wCons (wOp (asD oIn) (wOp oIx (wVar 3) (wC (.int 1))) (wVar 2)) wNil))))) wNil)) (wC (.int 1)))
  (wRet (wC (.bl false)))
  wNext) D ρ S := id rfl
noncomputable def w_law_holds : WS :=
  (wSeq (wIf (wCmp oNe (wCB fLen (wCons (wVar 0) wNil)) (wCB fLen (wCons (wVar 1) wNil)))
  (wRet (wC (.bl false)))
  wNext)
  (wSeq (wFor 3 (wVar 1)
  wb_law_holds_0)
  (wRet (wC (.bl true)))))
theorem w_law_holds_e {D : Dn} {ρ : Ev} {S : Sto} : w_law_holds D ρ S =
  (wSeq (wIf (wCmp oNe (wCB fLen (wCons (wVar 0) wNil)) (wCB fLen (wCons (wVar 1) wNil)))
  (wRet (wC (.bl false)))
  wNext)
  (wSeq (wFor 3 (wVar 1)
  wb_law_holds_0)
  (wRet (wC (.bl true))))) D ρ S := id rfl
noncomputable def wb_law_shares_0 : WS :=
  (wDrop (wApp (wVar 1) (wCons (wTup (wCons (wC (.str "share")) (wCons (wOp oAdd (wVar 2) (wC (.int 1))) (wCons (wC (.int 1)) wNil)))) wNil)))
theorem wb_law_shares_0_e {D : Dn} {ρ : Ev} {S : Sto} : wb_law_shares_0 D ρ S =
  (wDrop (wApp (wVar 1) (wCons (wTup (wCons (wC (.str "share")) (wCons (wOp oAdd (wVar 2) (wC (.int 1))) (wCons (wC (.int 1)) wNil)))) wNil))) D ρ S := id rfl
noncomputable def wb_law_shares_1 : WS :=
  (wDrop (wApp (wVar 1) (wCons (wTup (wCons (wC (.str "share")) (wCons (wC (.int 1)) (wCons (wOp oAdd (wVar 2) (wC (.int 1))) wNil)))) wNil)))
theorem wb_law_shares_1_e {D : Dn} {ρ : Ev} {S : Sto} : wb_law_shares_1 D ρ S =
  (wDrop (wApp (wVar 1) (wCons (wTup (wCons (wC (.str "share")) (wCons (wC (.int 1)) (wCons (wOp oAdd (wVar 2) (wC (.int 1))) wNil)))) wNil))) D ρ S := id rfl
noncomputable def w_law_shares : WS :=
  (wSeq (wSet 1 (wLstM wNil))
  (wSeq (wForR2 2 (wCons (wC (.int 1)) (wCons (wVar 0) wNil))
  wb_law_shares_0)
  (wSeq (wThen 1 (wForR2 2 (wCons (wC (.int 1)) (wCons (wVar 0) wNil))
  wb_law_shares_1))
  (wRet (wVar 1)))))
theorem w_law_shares_e {D : Dn} {ρ : Ev} {S : Sto} : w_law_shares D ρ S =
  (wSeq (wSet 1 (wLstM wNil))
  (wSeq (wForR2 2 (wCons (wC (.int 1)) (wCons (wVar 0) wNil))
  wb_law_shares_0)
  (wSeq (wThen 1 (wForR2 2 (wCons (wC (.int 1)) (wCons (wVar 0) wNil))
  wb_law_shares_1))
  (wRet (wVar 1))))) D ρ S := id rfl
noncomputable def wb_law_all_one_0 : WS :=
  (wSeq (wIf (wOr (wNot (wTest (wCall sp_law_is_sheet (wCons (wOp oIx (wVar 0) (wVar 3)) wNil)))) (wNot (wTest (wIsI "str" (wOp oIx (wVar 1) (wVar 3))))))
  (wRet (wC (.bl false)))
  wNext)
  (wIf (wOr (wCmp oNe (wOp oIx (wVar 0) (wVar 3)) (wOp oIx (wVar 0) (wC (.int 0)))) (wNot (wTest (wCall (sp_law_so 4) (wCons (wOp oIx (wVar 1) (wVar 3)) (wCons (wOp oIx (wVar 1) (wC (.int 0))) wNil))))))
  (wRet (wC (.bl false)))
  wNext))
theorem wb_law_all_one_0_e {D : Dn} {ρ : Ev} {S : Sto} : wb_law_all_one_0 D ρ S =
  (wSeq (wIf (wOr (wNot (wTest (wCall sp_law_is_sheet (wCons (wOp oIx (wVar 0) (wVar 3)) wNil)))) (wNot (wTest (wIsI "str" (wOp oIx (wVar 1) (wVar 3))))))
  (wRet (wC (.bl false)))
  wNext)
  (wIf (wOr (wCmp oNe (wOp oIx (wVar 0) (wVar 3)) (wOp oIx (wVar 0) (wC (.int 0)))) (wNot (wTest (wCall (sp_law_so 4) (wCons (wOp oIx (wVar 1) (wVar 3)) (wCons (wOp oIx (wVar 1) (wC (.int 0))) wNil))))))
  (wRet (wC (.bl false)))
  wNext)) D ρ S := id rfl
noncomputable def w_law_all_one : WS :=
  (wSeq (wIf (wOr (wNot (wTest (wIsI "list" (wVar 0)))) (wCmp oNe (wCB fLen (wCons (wVar 0) wNil)) (wVar 2)))
  (wRet (wC (.bl false)))
  wNext)
  (wSeq (wIf (wOr (wNot (wTest (wIsI "list" (wVar 1)))) (wCmp oNe (wCB fLen (wCons (wVar 1) wNil)) (wVar 2)))
  (wRet (wC (.bl false)))
  wNext)
  (wSeq (wForR1 3 (wCons (wVar 2) wNil)
  wb_law_all_one_0)
  (wRet (wCall (sp_law_so 4) (wCons (wOp oIx (wVar 1) (wC (.int 0))) (wCons (wJoin (wC (.str "")) (wCons (wCompIf (wOp oIx (wVar 0) (wC (.int 0))) (wNot (wTest (wOp oIx (wVar 0) (wC (.int 3))))) (wOp oIx (wVar 0) (wC (.int 2)))) wNil)) wNil)))))))
theorem w_law_all_one_e {D : Dn} {ρ : Ev} {S : Sto} : w_law_all_one D ρ S =
  (wSeq (wIf (wOr (wNot (wTest (wIsI "list" (wVar 0)))) (wCmp oNe (wCB fLen (wCons (wVar 0) wNil)) (wVar 2)))
  (wRet (wC (.bl false)))
  wNext)
  (wSeq (wIf (wOr (wNot (wTest (wIsI "list" (wVar 1)))) (wCmp oNe (wCB fLen (wCons (wVar 1) wNil)) (wVar 2)))
  (wRet (wC (.bl false)))
  wNext)
  (wSeq (wForR1 3 (wCons (wVar 2) wNil)
  wb_law_all_one_0)
  (wRet (wCall (sp_law_so 4) (wCons (wOp oIx (wVar 1) (wC (.int 0))) (wCons (wJoin (wC (.str "")) (wCons (wCompIf (wOp oIx (wVar 0) (wC (.int 0))) (wNot (wTest (wOp oIx (wVar 0) (wC (.int 3))))) (wOp oIx (wVar 0) (wC (.int 2)))) wNil)) wNil))))))) D ρ S := id rfl
noncomputable def wb_law_go_0 : WS :=
  (wIf (wCmp oNe (wOp oIx (wVar 2) (wC (.int 0))) (wC (.str "cut")))
  (wRet (wC (.bl false)))
  wNext)
theorem wb_law_go_0_e {D : Dn} {ρ : Ev} {S : Sto} : wb_law_go_0 D ρ S =
  (wIf (wCmp oNe (wOp oIx (wVar 2) (wC (.int 0))) (wC (.str "cut")))
  (wRet (wC (.bl false)))
  wNext) D ρ S := id rfl
noncomputable def wb_law_go_1 : WS :=
  (wSeq (wIf (wOr (wCmp oNe (wOp oIx (wOp oIx (wVar 0) (wVar 3)) (wC (.int 0))) (wC (.str "put"))) (wCmp oNe (wOp oIx (wOp oIx (wOp oIx (wVar 0) (wVar 3)) (wC (.int 1))) (wC (.int 1))) (wOp oIx (wVar 1) (wC (.int 1)))))
  (wRet (wC (.bl false)))
  wNext)
  (wSeq (wIf (wCmp oNe (wOp oIx (wOp oIx (wVar 0) (wVar 3)) (wC (.int 3))) (wOp oIx (wOp oIx (wVar 1) (wC (.int 3))) (wVar 3)))
  (wRet (wC (.bl false)))
  wNext)
  (wIf (wAnd (wCmp oGt (wVar 3) (wC (.int 0))) (wCmp oNe (wOp oIx (wOp oIx (wVar 0) (wVar 3)) (wC (.int 2))) (wOp oIx (wOp oIx (wVar 0) (wOp oSub (wVar 3) (wC (.int 1)))) (wC (.int 1)))))
  (wRet (wC (.bl false)))
  wNext)))
theorem wb_law_go_1_e {D : Dn} {ρ : Ev} {S : Sto} : wb_law_go_1 D ρ S =
  (wSeq (wIf (wOr (wCmp oNe (wOp oIx (wOp oIx (wVar 0) (wVar 3)) (wC (.int 0))) (wC (.str "put"))) (wCmp oNe (wOp oIx (wOp oIx (wOp oIx (wVar 0) (wVar 3)) (wC (.int 1))) (wC (.int 1))) (wOp oIx (wVar 1) (wC (.int 1)))))
  (wRet (wC (.bl false)))
  wNext)
  (wSeq (wIf (wCmp oNe (wOp oIx (wOp oIx (wVar 0) (wVar 3)) (wC (.int 3))) (wOp oIx (wOp oIx (wVar 1) (wC (.int 3))) (wVar 3)))
  (wRet (wC (.bl false)))
  wNext)
  (wIf (wAnd (wCmp oGt (wVar 3) (wC (.int 0))) (wCmp oNe (wOp oIx (wOp oIx (wVar 0) (wVar 3)) (wC (.int 2))) (wOp oIx (wOp oIx (wVar 0) (wOp oSub (wVar 3) (wC (.int 1)))) (wC (.int 1)))))
  (wRet (wC (.bl false)))
  wNext))) D ρ S := id rfl
noncomputable def w_law_go : WS :=
  (wSeq (wIf (wNot (wTest (wCall sp_law_are_slips (wCons (wVar 0) wNil))))
  (wRet (wC (.bl false)))
  wNext)
  (wSeq (wIf (wCmp oEq (wOp oIx (wVar 1) (wC (.int 0))) (wC (.str "rub")))
  (wSeq (wFor 2 (wVar 0)
  wb_law_go_0)
  (wRet (wOp (asD oLe) (wCB fLen (wCons (wVar 0) wNil)) (wOp oIx (wVar 1) (wC (.int 3))))))
  wNext)
  (wSeq (wIf (wCmp oNe (wCB fLen (wCons (wVar 0) wNil)) (wCB fLen (wCons (wOp oIx (wVar 1) (wC (.int 3))) wNil)))
  (wRet (wC (.bl false)))
  wNext)
  (wSeq (wForR1 3 (wCons (wCB fLen (wCons (wVar 0) wNil)) wNil)
  wb_law_go_1)
  (wRet (wC (.bl true)))))))
theorem w_law_go_e {D : Dn} {ρ : Ev} {S : Sto} : w_law_go D ρ S =
  (wSeq (wIf (wNot (wTest (wCall sp_law_are_slips (wCons (wVar 0) wNil))))
  (wRet (wC (.bl false)))
  wNext)
  (wSeq (wIf (wCmp oEq (wOp oIx (wVar 1) (wC (.int 0))) (wC (.str "rub")))
  (wSeq (wFor 2 (wVar 0)
  wb_law_go_0)
  (wRet (wOp (asD oLe) (wCB fLen (wCons (wVar 0) wNil)) (wOp oIx (wVar 1) (wC (.int 3))))))
  wNext)
  (wSeq (wIf (wCmp oNe (wCB fLen (wCons (wVar 0) wNil)) (wCB fLen (wCons (wOp oIx (wVar 1) (wC (.int 3))) wNil)))
  (wRet (wC (.bl false)))
  wNext)
  (wSeq (wForR1 3 (wCons (wCB fLen (wCons (wVar 0) wNil)) wNil)
  wb_law_go_1)
  (wRet (wC (.bl true))))))) D ρ S := id rfl
noncomputable def wb_law_between_0 : WS :=
  (wSeq (wIf (wCmp oEq (wOp oIx (wVar 4) (wC (.int 0))) (wVar 2))
  (wRet (wOp (asD oGt) (wCB fLen (wCons (wVar 3) wNil)) (wC (.int 0))))
  wNext)
  (wIf (wCmp oEq (wOp oIx (wVar 4) (wC (.int 0))) (wVar 1))
  (wSet 3 (wLstM (wCons (wVar 1) wNil)))
  (wIf (wCmp oGt (wCB fLen (wCons (wVar 3) wNil)) (wC (.int 0)))
  (wSeq (wIf (wCmp oNotIn (wOp oIx (wVar 4) (wC (.int 1))) (wVar 3))
  (wRet (wC (.bl false)))
  wNext)
  (wDrop (wApp (wVar 3) (wCons (wOp oIx (wVar 4) (wC (.int 0))) wNil))))
  wNext)))
theorem wb_law_between_0_e {D : Dn} {ρ : Ev} {S : Sto} : wb_law_between_0 D ρ S =
  (wSeq (wIf (wCmp oEq (wOp oIx (wVar 4) (wC (.int 0))) (wVar 2))
  (wRet (wOp (asD oGt) (wCB fLen (wCons (wVar 3) wNil)) (wC (.int 0))))
  wNext)
  (wIf (wCmp oEq (wOp oIx (wVar 4) (wC (.int 0))) (wVar 1))
  (wSet 3 (wLstM (wCons (wVar 1) wNil)))
  (wIf (wCmp oGt (wCB fLen (wCons (wVar 3) wNil)) (wC (.int 0)))
  (wSeq (wIf (wCmp oNotIn (wOp oIx (wVar 4) (wC (.int 1))) (wVar 3))
  (wRet (wC (.bl false)))
  wNext)
  (wDrop (wApp (wVar 3) (wCons (wOp oIx (wVar 4) (wC (.int 0))) wNil))))
  wNext))) D ρ S := id rfl
noncomputable def w_law_between : WS :=
  (wSeq (wSet 3 (wLstM wNil))
  (wSeq (wFor 4 (wVar 0)
  wb_law_between_0)
  (wRet (wC (.bl false)))))
theorem w_law_between_e {D : Dn} {ρ : Ev} {S : Sto} : w_law_between D ρ S =
  (wSeq (wSet 3 (wLstM wNil))
  (wSeq (wFor 4 (wVar 0)
  wb_law_between_0)
  (wRet (wC (.bl false))))) D ρ S := id rfl
noncomputable def wb_law_0 : WS :=
  (wIf (wNot (wTest (wCall sp_law_between (wCons (wOp oIx (wVar 4) (wC (.int 0))) (wCons (wOp oIx (wOp oIx (wOp oIx (wVar 3) (wVar 7)) (wOp oSub (wVar 8) (wC (.int 1)))) (wC (.int 1))) (wCons (wOp oIx (wOp oIx (wOp oIx (wVar 3) (wVar 7)) (wVar 8)) (wC (.int 1))) wNil))))))
  (wRet (wC (.bl false)))
  wNext)
theorem wb_law_0_e {D : Dn} {ρ : Ev} {S : Sto} : wb_law_0 D ρ S =
  (wIf (wNot (wTest (wCall sp_law_between (wCons (wOp oIx (wVar 4) (wC (.int 0))) (wCons (wOp oIx (wOp oIx (wOp oIx (wVar 3) (wVar 7)) (wOp oSub (wVar 8) (wC (.int 1)))) (wC (.int 1))) (wCons (wOp oIx (wOp oIx (wOp oIx (wVar 3) (wVar 7)) (wVar 8)) (wC (.int 1))) wNil))))))
  (wRet (wC (.bl false)))
  wNext) D ρ S := id rfl
noncomputable def wb_law_1 : WS :=
  (wSeq (wIf (wOr (wCmp oEq (wOp oIx (wOp oIx (wVar 2) (wVar 7)) (wC (.int 0))) (wC (.str "write"))) (wCmp oEq (wOp oIx (wOp oIx (wVar 2) (wVar 7)) (wC (.int 0))) (wC (.str "rub"))))
  (wIf (wNot (wTest (wCall sp_law_go (wCons (wOp oIx (wVar 3) (wVar 7)) (wCons (wOp oIx (wVar 2) (wVar 7)) wNil)))))
  (wRet (wC (.bl false)))
  wNext)
  wNext)
  (wSeq (wIf (wCmp oEq (wOp oIx (wOp oIx (wVar 2) (wVar 7)) (wC (.int 0))) (wC (.str "write")))
  (wSeq (wSet 5 (wOp oAdd (wVar 5) (wOp oIx (wVar 3) (wVar 7))))
  (wForR2 8 (wCons (wC (.int 1)) (wCons (wCB fLen (wCons (wOp oIx (wVar 3) (wVar 7)) wNil)) wNil))
  wb_law_0))
  wNext)
  (wIf (wCmp oEq (wOp oIx (wOp oIx (wVar 2) (wVar 7)) (wC (.int 0))) (wC (.str "rub")))
  (wSet 6 (wOp oAdd (wVar 6) (wComp (wOp oIx (wVar 3) (wVar 7)) (wOp oIx (wVar 0) (wC (.int 1))))))
  wNext)))
theorem wb_law_1_e {D : Dn} {ρ : Ev} {S : Sto} : wb_law_1 D ρ S =
  (wSeq (wIf (wOr (wCmp oEq (wOp oIx (wOp oIx (wVar 2) (wVar 7)) (wC (.int 0))) (wC (.str "write"))) (wCmp oEq (wOp oIx (wOp oIx (wVar 2) (wVar 7)) (wC (.int 0))) (wC (.str "rub"))))
  (wIf (wNot (wTest (wCall sp_law_go (wCons (wOp oIx (wVar 3) (wVar 7)) (wCons (wOp oIx (wVar 2) (wVar 7)) wNil)))))
  (wRet (wC (.bl false)))
  wNext)
  wNext)
  (wSeq (wIf (wCmp oEq (wOp oIx (wOp oIx (wVar 2) (wVar 7)) (wC (.int 0))) (wC (.str "write")))
  (wSeq (wSet 5 (wOp oAdd (wVar 5) (wOp oIx (wVar 3) (wVar 7))))
  (wForR2 8 (wCons (wC (.int 1)) (wCons (wCB fLen (wCons (wOp oIx (wVar 3) (wVar 7)) wNil)) wNil))
  wb_law_0))
  wNext)
  (wIf (wCmp oEq (wOp oIx (wOp oIx (wVar 2) (wVar 7)) (wC (.int 0))) (wC (.str "rub")))
  (wSet 6 (wOp oAdd (wVar 6) (wComp (wOp oIx (wVar 3) (wVar 7)) (wOp oIx (wVar 0) (wC (.int 1))))))
  wNext))) D ρ S := id rfl
noncomputable def wt_law_9 : WS :=
  (wRet (wCall sp_law_holds (wCons (wOp oIx (wVar 4) (wC (.int 0))) (wCons (wVar 5) (wCons (wVar 6) wNil)))))
theorem wt_law_9_e {D : Dn} {ρ : Ev} {S : Sto} : wt_law_9 D ρ S =
  (wRet (wCall sp_law_holds (wCons (wOp oIx (wVar 4) (wC (.int 0))) (wCons (wVar 5) (wCons (wVar 6) wNil))))) D ρ S := id rfl
noncomputable def wt_law_8 : WS :=
  (wSeq (wForR1 7 (wCons (wCB fLen (wCons (wVar 2) wNil)) wNil)
  wb_law_1)
  wt_law_9)
theorem wt_law_8_e {D : Dn} {ρ : Ev} {S : Sto} : wt_law_8 D ρ S =
  (wSeq (wForR1 7 (wCons (wCB fLen (wCons (wVar 2) wNil)) wNil)
  wb_law_1)
  wt_law_9) D ρ S := id rfl
noncomputable def wt_law_7 : WS :=
  (wSeq (wSet 6 (wLst wNil))
  wt_law_8)
theorem wt_law_7_e {D : Dn} {ρ : Ev} {S : Sto} : wt_law_7 D ρ S =
  (wSeq (wSet 6 (wLst wNil))
  wt_law_8) D ρ S := id rfl
noncomputable def wt_law_6 : WS :=
  (wSeq (wSet 5 (wLst wNil))
  wt_law_7)
theorem wt_law_6_e {D : Dn} {ρ : Ev} {S : Sto} : wt_law_6 D ρ S =
  (wSeq (wSet 5 (wLst wNil))
  wt_law_7) D ρ S := id rfl
noncomputable def wt_law_5 : WS :=
  (wSeq (wIf (wNot (wTest (wCall sp_law_all_one (wCons (wVar 4) (wCons (wCall sp_texts (wCons (wVar 1) (wCons (wCB fList (wCons (wVar 2) wNil)) wNil))) (wCons (wVar 1) wNil))))))
  (wRet (wC (.bl false)))
  wNext)
  wt_law_6)
theorem wt_law_5_e {D : Dn} {ρ : Ev} {S : Sto} : wt_law_5 D ρ S =
  (wSeq (wIf (wNot (wTest (wCall sp_law_all_one (wCons (wVar 4) (wCons (wCall sp_texts (wCons (wVar 1) (wCons (wCB fList (wCons (wVar 2) wNil)) wNil))) (wCons (wVar 1) wNil))))))
  (wRet (wC (.bl false)))
  wNext)
  wt_law_6) D ρ S := id rfl
noncomputable def wt_law_4 : WS :=
  (wSeq (wIf (wOr (wNot (wTest (wIsI "list" (wVar 3)))) (wCmp oNe (wCB fLen (wCons (wVar 3) wNil)) (wCB fLen (wCons (wVar 2) wNil))))
  (wRet (wC (.bl false)))
  wNext)
  wt_law_5)
theorem wt_law_4_e {D : Dn} {ρ : Ev} {S : Sto} : wt_law_4 D ρ S =
  (wSeq (wIf (wOr (wNot (wTest (wIsI "list" (wVar 3)))) (wCmp oNe (wCB fLen (wCons (wVar 3) wNil)) (wCB fLen (wCons (wVar 2) wNil))))
  (wRet (wC (.bl false)))
  wNext)
  wt_law_5) D ρ S := id rfl
noncomputable def wt_law_3 : WS :=
  (wSeq (wSet 4 (wCall sp_ends (wCons (wVar 1) (wCons (wCB fList (wCons (wVar 2) wNil)) wNil))))
  wt_law_4)
theorem wt_law_3_e {D : Dn} {ρ : Ev} {S : Sto} : wt_law_3 D ρ S =
  (wSeq (wSet 4 (wCall sp_ends (wCons (wVar 1) (wCons (wCB fList (wCons (wVar 2) wNil)) wNil))))
  wt_law_4) D ρ S := id rfl
noncomputable def wt_law_2 : WS :=
  (wSeq (wSet 3 (wCall sp_story (wCons (wVar 1) (wCons (wCB fList (wCons (wVar 2) wNil)) wNil))))
  wt_law_3)
theorem wt_law_2_e {D : Dn} {ρ : Ev} {S : Sto} : wt_law_2 D ρ S =
  (wSeq (wSet 3 (wCall sp_story (wCons (wVar 1) (wCons (wCB fList (wCons (wVar 2) wNil)) wNil))))
  wt_law_3) D ρ S := id rfl
noncomputable def wt_law_1 : WS :=
  (wSeq (wSet 2 (wOp oAdd (wCall sp_law_drawn_deeds (wCons (wSl (wVar 0) (some (wC (.int 1))) (some (wOp oAdd (wC (.int 1)) (wCall sp_law_room (wCons (wVar 0) (wCons (wC (.int 30)) (wCons (wC (.int 50)) wNil))))))) (wCons (wVar 1) wNil))) (wCall sp_law_shares (wCons (wVar 1) wNil))))
  wt_law_2)
theorem wt_law_1_e {D : Dn} {ρ : Ev} {S : Sto} : wt_law_1 D ρ S =
  (wSeq (wSet 2 (wOp oAdd (wCall sp_law_drawn_deeds (wCons (wSl (wVar 0) (some (wC (.int 1))) (some (wOp oAdd (wC (.int 1)) (wCall sp_law_room (wCons (wVar 0) (wCons (wC (.int 30)) (wCons (wC (.int 50)) wNil))))))) (wCons (wVar 1) wNil))) (wCall sp_law_shares (wCons (wVar 1) wNil))))
  wt_law_2) D ρ S := id rfl
noncomputable def w_law : WS :=
  (wSeq (wSet 1 (wOp oIx (wLst (wCons (wC (.int 2)) (wCons (wC (.int 3)) (wCons (wC (.int 4)) (wCons (wC (.int 2)) (wCons (wC (.int 3)) (wCons (wC (.int 4)) (wCons (wC (.int 2)) (wCons (wC (.int 9)) wNil))))))))) (wOp oMod (wOp oMod (wOp oMul (wCall sp_law_at (wCons (wVar 0) (wCons (wC (.int 0)) wNil))) (wC (.int 48271))) (wC (.int 1049))) (wC (.int 8)))))
  wt_law_1)
theorem w_law_e {D : Dn} {ρ : Ev} {S : Sto} : w_law D ρ S =
  (wSeq (wSet 1 (wOp oIx (wLst (wCons (wC (.int 2)) (wCons (wC (.int 3)) (wCons (wC (.int 4)) (wCons (wC (.int 2)) (wCons (wC (.int 3)) (wCons (wC (.int 4)) (wCons (wC (.int 2)) (wCons (wC (.int 9)) wNil))))))))) (wOp oMod (wOp oMod (wOp oMul (wCall sp_law_at (wCons (wVar 0) (wCons (wC (.int 0)) wNil))) (wC (.int 48271))) (wC (.int 1049))) (wC (.int 8)))))
  wt_law_1) D ρ S := id rfl
theorem shares_turns0 {D : Dn} {S0 : Sto} {p : Addr} {x0 : Option Dv} : ∀ (m k : Nat) (acc : List Deed) (x2 : Option Dv), acc.length + m ≤ 1000 → (∀ y, D.nx [x0, some (.ref p), y] (sset S0 p (.lst ((acc ++ (List.range' k m).map fun g => Deed.share g 0).map deedD)))) →
    forR 2 wb_law_shares_0 D m (k : Int) [x0, some (.ref p), x2] (sset S0 p (.lst (acc.map deedD)))
  | 0, k, acc, x2, hl, fin => by
    have z := fin x2
    rw [show (List.range' k 0).map (fun g => Deed.share g 0) = [] from rfl, List.append_nil] at z
    exact z
  | m + 1, k, acc, x2, hl, fin => by
    have step : forR 2 wb_law_shares_0 D m ((k : Int) + 1) [x0, some (.ref p), some (.int k)] (sset S0 p (.lst ((acc ++ [Deed.share k 0]).map deedD))) := shares_turns0 m (k + 1) (acc ++ [.share k 0]) (some (.int k)) (by rw [List.length_append, List.length_singleton]; omega) (fun y => by
      have z := fin y
      rw [List.range'_succ, List.map_cons] at z
      rw [List.append_assoc]; exact z)
    show wb_law_shares_0 { D with nx := forR 2 wb_law_shares_0 D m ((k : Int) + 1), ct := forR 2 wb_law_shares_0 D m ((k : Int) + 1), bk := D.nx } [x0, some (.ref p), some (.int k)] (sset S0 p (.lst (acc.map deedD)))
    generalize forR 2 wb_law_shares_0 D m ((k : Int) + 1) = N at step ⊢
    have hlim : acc.length < lim := by unfold lim; omega
    rw [List.map_append, show [Deed.share k 0].map deedD = [.tup [.str "share", .int ((k : Int) + 1), .int 1]] from rfl] at step
    simp [wb_law_shares_0_e, hlim, sset_sset]
    exact step
theorem shares_turns1 {D : Dn} {S0 : Sto} {p : Addr} {x0 : Option Dv} : ∀ (m k : Nat) (acc : List Deed) (x2 : Option Dv), acc.length + m ≤ 1000 → (∀ y, D.nx [x0, some (.ref p), y] (sset S0 p (.lst ((acc ++ (List.range' k m).map fun t => Deed.share 0 t).map deedD)))) →
    forR 2 wb_law_shares_1 D m (k : Int) [x0, some (.ref p), x2] (sset S0 p (.lst (acc.map deedD)))
  | 0, k, acc, x2, hl, fin => by
    have z := fin x2
    rw [show (List.range' k 0).map (fun t => Deed.share 0 t) = [] from rfl, List.append_nil] at z
    exact z
  | m + 1, k, acc, x2, hl, fin => by
    have step : forR 2 wb_law_shares_1 D m ((k : Int) + 1) [x0, some (.ref p), some (.int k)] (sset S0 p (.lst ((acc ++ [Deed.share 0 k]).map deedD))) := shares_turns1 m (k + 1) (acc ++ [.share 0 k]) (some (.int k)) (by rw [List.length_append, List.length_singleton]; omega) (fun y => by
      have z := fin y
      rw [List.range'_succ, List.map_cons] at z
      rw [List.append_assoc]; exact z)
    show wb_law_shares_1 { D with nx := forR 2 wb_law_shares_1 D m ((k : Int) + 1), ct := forR 2 wb_law_shares_1 D m ((k : Int) + 1), bk := D.nx } [x0, some (.ref p), some (.int k)] (sset S0 p (.lst (acc.map deedD)))
    generalize forR 2 wb_law_shares_1 D m ((k : Int) + 1) = N at step ⊢
    have hlim : acc.length < lim := by unfold lim; omega
    rw [List.map_append, show [Deed.share 0 k].map deedD = [.tup [.str "share", .int 1, .int ((k : Int) + 1)]] from rfl] at step
    simp [wb_law_shares_1_e, hlim, sset_sset]
    exact step
theorem ok_law_shares : ∀ ds S Q, sp_law_shares ds S Q → w_law_shares { nx := fun _ S' => Q .non S', rt := Q } (ent 3 ds) S := by
  rintro _ S Q ⟨n, rfl, hn, hl, q⟩
  have e : ((n : Int) - 1).toNat = n - 1 := by omega
  simp [w_law_shares_e, ent]
  intro p hp
  refine ⟨by omega, ?_⟩
  try rw [e]
  refine shares_turns0 (S0 := S) (p := p) (n - 1) 1 [] none (by show 0 + _ ≤ _; omega) fun y => ?_
  simp
  refine ⟨by omega, ?_⟩
  try rw [e]
  have z := shares_turns1 (D := { nx := fun ρ1 S1 => frzAt 1 ρ1 S1 (wRet (wVar 1) { nx := fun _ S' => Q .non S', rt := Q }), rt := Q }) (S0 := S) (p := p) (x0 := some (.int n)) (n - 1) 1 ((List.range' 1 (n - 1)).map fun g => Deed.share g 0) y (by rw [List.length_map, List.length_range']; omega) (fun y => by
    show frzAt 1 [some (.int n), some (.ref p), y] (sset S p (.lst ((sharesOf n).map deedD))) _
    generalize (sharesOf n).map deedD = T at q
    refine frzAt_set (by simp) hp ?_
    simp
    exact q)
  rw [List.map_map] at z
  exact z
theorem putsOf_get {n : Int} : ∀ {xs : List Str} {c : Int} {b : Tag} {k : Nat} {x : Str}, xs[k]? = some x → (putsOf c n b xs)[k]? = some (.put (c + k, n) (if k = 0 then b else (c + k - 1, n)) x)
  | [], _, _, _, _, h => by simp at h
  | y :: ys, c, b, 0, x, h => by
    have e : y = x := by simpa using h
    subst e
    show some (Slip.put (c, n) b y) = _
    simp
  | y :: ys, c, b, k + 1, x, h => by
    have z := putsOf_get (n := n) (xs := ys) (c := c + 1) (b := (c, n)) (k := k) (by simpa using h)
    show (putsOf (c + 1) n (c, n) ys)[k]? = _
    rw [z]
    have e1 : c + 1 + (k : Int) = c + ((k + 1 : Nat) : Int) := by omega
    rw [e1, if_neg (Nat.succ_ne_zero k)]
    by_cases hk : k = 0
    · subst hk
      rw [if_pos rfl]
      have e2 : c + ((0 + 1 : Nat) : Int) - 1 = c := by omega
      rw [e2]
    · rw [if_neg hk]
theorem cutgo_turns {D : Dn} {S : Sto} {x0 x1 x3 : Option Dv} (fin : ∀ y, D.nx [x0, x1, y, x3] S) : ∀ (ts : List Tag) (x2 : Option Dv), forL 2 wb_law_go_0 D ((cutsOf ts).map slipD) [x0, x1, x2, x3] S
  | [], x2 => fin x2
  | t :: ts, x2 => by
    have step := cutgo_turns fin ts (some (slipD (.cut t)))
    show wb_law_go_0 { D with nx := forL 2 wb_law_go_0 D ((cutsOf ts).map slipD), ct := forL 2 wb_law_go_0 D ((cutsOf ts).map slipD), bk := D.nx } [x0, x1, some (slipD (.cut t)), x3] S
    generalize forL 2 wb_law_go_0 D ((cutsOf ts).map slipD) = N at step ⊢
    have e : ∀ S : Sto, oNe S (.str "cut") (.str "cut") = some false := fun S => by rw [oNe_str ok_cut ok_cut]; simp
    simp [wb_law_go_0_e, slipD, e] at step ⊢
    exact step
theorem putgo_turns {D : Dn} {S : Sto} {h p : Nat} {z : Str} {c : Int} {b : Tag} {x2 : Option Dv} (hz : z.length ≤ 1000) (okz : PyData.strOk z = true) (fin : ∀ y, D.nx [some (.lst ((putsOf c ((h : Int) + 1) b (chs z)).map slipD)), some (deedD (.write h p z)), x2, y] S) :
    ∀ (m k : Nat) (x3 : Option Dv), m + k = z.length → forR 3 wb_law_go_1 D m (k : Int) [some (.lst ((putsOf c ((h : Int) + 1) b (chs z)).map slipD)), some (deedD (.write h p z)), x2, x3] S
  | 0, k, x3, _ => fin x3
  | m + 1, k, x3, hm => by
    have step : forR 3 wb_law_go_1 D m ((k : Int) + 1) [some (.lst ((putsOf c ((h : Int) + 1) b (chs z)).map slipD)), some (deedD (.write h p z)), x2, some (.int k)] S := putgo_turns hz okz fin m (k + 1) (some (.int k)) (by omega)
    have hk : k < (chs z).length := by rw [chs_len]; omega
    have g1 : (chs z)[k]? = some (chs z)[k] := List.getElem?_eq_getElem hk
    have okx := chs_ok okz _ (List.getElem_mem hk)
    generalize (chs z)[k] = x at g1 okx
    have g2 := putsOf_get (n := (h : Int) + 1) (c := c) (b := b) g1
    show wb_law_go_1 { D with nx := forR 3 wb_law_go_1 D m ((k : Int) + 1), ct := forR 3 wb_law_go_1 D m ((k : Int) + 1), bk := D.nx } [some (.lst ((putsOf c ((h : Int) + 1) b (chs z)).map slipD)), some (deedD (.write h p z)), x2, some (.int k)] S
    generalize forR 3 wb_law_go_1 D m ((k : Int) + 1) = N at step ⊢
    have ix1 : ∀ S : Sto, oIx S (.lst ((putsOf c ((h : Int) + 1) b (chs z)).map slipD)) (.int (k : Int)) = some (slipD (.put (c + k, (h : Int) + 1) (if k = 0 then b else (c + k - 1, (h : Int) + 1)) x)) := fun S => ix_lst (by omega) (by rw [Int.toNat_natCast, List.getElem?_map, g2]; rfl)
    have ix2 : ∀ S : Sto, oIx S (.str z) (.int (k : Int)) = some (.str x) := fun S => ix_chs (by unfold lim; omega) g1
    have en : ∀ S : Sto, oNe S (.str "put") (.str "put") = some false := fun S => by rw [oNe_str ok_put ok_put]; simp
    have ex : ∀ S : Sto, oNe S (.str x) (.str x) = some false := fun S => by rw [oNe_str okx okx]; simp
    by_cases hk0 : k = 0
    · subst hk0
      rw [if_pos rfl] at ix1
      have ix1 : ∀ S : Sto, oIx S (.lst ((putsOf c ((h : Int) + 1) b (chs z)).map slipD)) (.int 0) = some (slipD (.put (c + ((0 : Nat) : Int), (h : Int) + 1) b x)) := ix1
      have ix2 : ∀ S : Sto, oIx S (.str z) (.int 0) = some (.str x) := ix2
      generalize putsOf c ((h : Int) + 1) b (chs z) = L at *
      simp only [slipD] at ix1
      simp [wb_law_go_1_e, deedD, ix1, ix2, en, ex] at step ⊢
      simpa using step
    · rw [if_neg hk0] at ix1
      have hk1 : k - 1 < (chs z).length := by omega
      have g3 := putsOf_get (n := (h : Int) + 1) (c := c) (b := b) (List.getElem?_eq_getElem hk1)
      have ix3 : ∀ S : Sto, oIx S (.lst ((putsOf c ((h : Int) + 1) b (chs z)).map slipD)) (.int ((k : Int) - 1)) = some (slipD (.put (c + k - 1, (h : Int) + 1) (if k - 1 = 0 then b else (c + ((k - 1 : Nat) : Int) - 1, (h : Int) + 1)) (chs z)[k - 1])) := fun S => ix_lst (by omega) (by
        rw [show ((k : Int) - 1).toNat = k - 1 by omega, List.getElem?_map, g3]
        rw [show c + ((k - 1 : Nat) : Int) = c + k - 1 by omega]; rfl)
      have hpos : (0 : Int) < (k : Int) := by omega
      generalize (if k - 1 = 0 then b else (c + ((k - 1 : Nat) : Int) - 1, (h : Int) + 1)) = b2 at ix3
      generalize (chs z)[k - 1] = x2' at ix3
      generalize putsOf c ((h : Int) + 1) b (chs z) = L at *
      simp only [slipD] at ix1 ix3
      simp [wb_law_go_1_e, deedD, ix1, ix2, ix3, en, ex, hpos] at step ⊢
      first | exact step | simpa [hk0] using step
theorem ok_law_go : ∀ ds S Q, sp_law_go ds S Q → w_law_go { nx := fun _ S' => Q .non S', rt := Q } (ent 4 ds) S := by
  rintro _ S Q (⟨h, p, z, c, b, rfl, hz, okz, q⟩ | ⟨h, p, m, ts, rfl, hl, q⟩)
  · have hl : (putsOf c ((h : Int) + 1) b (chs z)).length = z.length := by rw [putsOf_len, chs_len]
    have el : ∀ S : Sto, fLen S [.str z] = some (.int z.length) := fun S => if_pos (by unfold lim; omega)
    have t := putgo_turns (D := { nx := wRet (wC (.bl true)) { nx := fun _ S' => Q .non S', rt := Q }, rt := Q }) (S := S) (h := h) (p := p) (z := z) (c := c) (b := b) (x2 := none) hz okz (fun y => q) z.length 0 none (by omega)
    simp only [w_law_go_e, ent]
    simp
    refine ⟨_, rfl, ?_⟩
    simp [deedD, hl, el] at t ⊢
    exact ⟨by omega, t⟩
  · simp only [w_law_go_e, ent]
    simp
    refine ⟨_, rfl, ?_⟩
    simp [deedD]
    refine cutgo_turns (fun y => ?_) ts none
    have : (cutsOf ts).length = ts.length := by unfold cutsOf; rw [List.length_map]
    have h2 : ((cutsOf ts).length : Int) ≤ (m : Int) := by omega
    simp [h2]
    exact q
theorem oNotIn_tagsAt {S : Sto} {p : Addr} {ts : List Tag} {a b : Int} (hp : S p = some (.lst (ts.map tagD))) : oNotIn S (.tup [.int a, .int b]) (.ref p) = some (!decide ((a, b) ∈ ts)) := by
  have e : drf S (.ref p) = .lst (ts.map tagD) := by simp only [drf, hp]
  unfold oNotIn
  rw [e]
  exact oNotIn_tags (S := S)
theorem tag_ne {r : Rw} {t : Tag} (h : r.tag ≠ t) : ¬ (r.tc = t.1 ∧ r.th = t.2) := fun ⟨a, b⟩ => h (by unfold Rw.tag; rw [a, b])
theorem mid_turns {D : Dn} {p : Addr} {x0 : Option Dv} {r1 r2 : Rw} {B : List Rw} (q : ∀ S, D.rt (.bl true) S) : ∀ (M : List Rw) (hung : List Tag) (S : Sto) (x4 : Option Dv), Hang hung M → hung ≠ [] → hung.length + M.length ≤ 2000 → S p = some (.lst (hung.map tagD)) → (∀ r ∈ M, r.tag ≠ r1.tag ∧ r.tag ≠ r2.tag) →
    forL 4 wb_law_between_0 D ((M ++ r2 :: B).map rowD) [x0, some (tagD r1.tag), some (tagD r2.tag), some (.ref p), x4] S
  | [], hung, S, x4, _, hne, hl, hp, _ => by
    have hpos : 0 < hung.length := by cases hung with | nil => exact absurd rfl hne | cons => simp
    show wb_law_between_0 { D with nx := forL 4 wb_law_between_0 D (B.map rowD), ct := forL 4 wb_law_between_0 D (B.map rowD), bk := D.nx } [x0, some (tagD r1.tag), some (tagD r2.tag), some (.ref p), some (rowD r2)] S
    generalize forL 4 wb_law_between_0 D (B.map rowD) = N
    have q' := q S
    simp [wb_law_between_0_e, rowD_e, tagD_e, Rw.tag, fLen_at hp, hpos, hne]
    exact q'
  | r :: M, hung, S, x4, hh, hne, hl, hp, hr => by
    obtain ⟨n1, n2⟩ := hr r List.mem_cons_self
    rw [List.length_cons] at hl
    have step := fun S' (hp' : S' p = some (.lst ((hung ++ [r.tag]).map tagD))) => mid_turns (D := D) (p := p) (x0 := x0) (r1 := r1) (r2 := r2) (B := B) q M (hung ++ [r.tag]) S' (some (rowD r)) hh.2 (by simp) (by rw [List.length_append, List.length_singleton]; omega) hp' fun y hy => hr y (List.mem_cons_of_mem _ hy)
    have hpos : 0 < hung.length := by cases hung with | nil => exact absurd rfl hne | cons => simp
    have hpos' : (0 : Int) < (hung.length : Int) := by omega
    have hlim : hung.length < lim := by unfold lim; omega
    show wb_law_between_0 { D with nx := forL 4 wb_law_between_0 D ((M ++ r2 :: B).map rowD), ct := forL 4 wb_law_between_0 D ((M ++ r2 :: B).map rowD), bk := D.nx } [x0, some (tagD r1.tag), some (tagD r2.tag), some (.ref p), some (rowD r)] S
    generalize forL 4 wb_law_between_0 D ((M ++ r2 :: B).map rowD) = N at step ⊢
    have hin : (r.bc, r.bh) ∈ hung := hh.1
    have f1 := tag_ne n1
    have f2 := tag_ne n2
    simp [wb_law_between_0_e, rowD_e, tagD_e, fLen_at hp, hpos, hpos', f1, f2, oNotIn_tagsAt hp, hin, onLst_at hp, hlim]
    first
      | exact step _ (by rw [sset_same, List.map_append]; rfl)
      | (refine ⟨hne, ?_⟩; exact step _ (by rw [sset_same, List.map_append]; rfl))
      | (rw [if_neg hne]; exact step _ (by rw [sset_same, List.map_append]; rfl))
theorem first_turns {D : Dn} {p : Addr} {x0 : Option Dv} {r1 r2 : Rw} {M B : List Rw} (q : ∀ S, D.rt (.bl true) S) (hang : Hang [r1.tag] M) (hM : ∀ r ∈ M, r.tag ≠ r1.tag ∧ r.tag ≠ r2.tag) (n12 : r1.tag ≠ r2.tag) (hl : M.length ≤ 1000) : ∀ (A : List Rw) (S : Sto) (x4 : Option Dv), S p = some (.lst []) → (∀ r ∈ A, r.tag ≠ r1.tag ∧ r.tag ≠ r2.tag) →
    forL 4 wb_law_between_0 D ((A ++ r1 :: (M ++ r2 :: B)).map rowD) [x0, some (tagD r1.tag), some (tagD r2.tag), some (.ref p), x4] S
  | [], S, x4, hp, _ => by
    have step := fun p' S' (hp' : S' p' = some (.lst ([r1.tag].map tagD))) => mid_turns (D := D) (p := p') (x0 := x0) (r1 := r1) (r2 := r2) (B := B) q M [r1.tag] S' (some (rowD r1)) hang (by simp) (by simp; omega) hp' hM
    show wb_law_between_0 { D with nx := forL 4 wb_law_between_0 D ((M ++ r2 :: B).map rowD), ct := forL 4 wb_law_between_0 D ((M ++ r2 :: B).map rowD), bk := D.nx } [x0, some (tagD r1.tag), some (tagD r2.tag), some (.ref p), some (rowD r1)] S
    generalize forL 4 wb_law_between_0 D ((M ++ r2 :: B).map rowD) = N at step ⊢
    have f2 := tag_ne n12
    simp [wb_law_between_0_e, rowD_e, tagD_e, f2]
    simp only [Rw.tag] at f2 step ⊢
    simp [f2]
    intro p' hp'
    exact step p' _ (by rw [sset_same]; rfl)
  | r :: A, S, x4, hp, hr => by
    obtain ⟨n1, n2⟩ := hr r List.mem_cons_self
    have step := first_turns (D := D) (p := p) (x0 := x0) (r1 := r1) (r2 := r2) (B := B) q hang hM n12 hl A S (some (rowD r)) hp fun y hy => hr y (List.mem_cons_of_mem _ hy)
    show wb_law_between_0 { D with nx := forL 4 wb_law_between_0 D ((A ++ r1 :: (M ++ r2 :: B)).map rowD), ct := forL 4 wb_law_between_0 D ((A ++ r1 :: (M ++ r2 :: B)).map rowD), bk := D.nx } [x0, some (tagD r1.tag), some (tagD r2.tag), some (.ref p), some (rowD r)] S
    generalize forL 4 wb_law_between_0 D ((A ++ r1 :: (M ++ r2 :: B)).map rowD) = N at step ⊢
    have f1 := tag_ne n1
    have f2 := tag_ne n2
    simp [wb_law_between_0_e, rowD_e, tagD_e, fLen_at hp, f1, f2] at step ⊢
    exact step
theorem ok_law_between : ∀ ds S Q, sp_law_between ds S Q → w_law_between { nx := fun _ S' => Q .non S', rt := Q } (ent 5 ds) S := by
  rintro _ S Q ⟨R, r1, r2, rfl, g, hl, h1, h2, hb, q⟩
  obtain ⟨A, M, B, e, hang, hA, hM, n12⟩ := g.between h1 h2 hb
  subst e
  have lM : M.length ≤ 1000 := by simp at hl; omega
  have z := fun p S' hp => first_turns (D := { nx := wRet (wC (.bl false)) { nx := fun _ S' => Q .non S', rt := Q }, rt := Q }) (p := p) (x0 := some (.lst ((A ++ r1 :: (M ++ r2 :: B)).map rowD))) (B := B) (r1 := r1) (r2 := r2) q hang hM n12 lM A S' none hp hA
  generalize (A ++ r1 :: (M ++ r2 :: B)).map rowD = T at z ⊢
  simp [w_law_between_e, ent]
  intro p hp
  exact z p _ sset_same
theorem holds_turns {D : Dn} {S : Sto} {rows : List Rw} {cuts : List Tag} {x1 : Option Dv} (ok : okS rows) (nd : rows.Nodup) (fin : ∀ y, D.nx [some (.lst (rows.map rowD)), x1, some (.lst (cuts.map tagD)), y] S) : ∀ (puts : List Slip) (x4 : Option Dv),
    (∀ s ∈ puts, ∃ t b x, s = .put t b x ∧ PyData.strOk x = true ∧ (⟨t.1, t.2, b.1, b.2, x, decide (t ∈ cuts)⟩ : Rw) ∈ rows) → forL 3 wb_law_holds_0 D (puts.map slipD) [some (.lst (rows.map rowD)), x1, some (.lst (cuts.map tagD)), x4] S
  | [], x4, _ => fin x4
  | s :: ss, x4, h => by
    have step := holds_turns (x1 := x1) ok nd fin ss (some (slipD s)) (fun q hq => h q (List.mem_cons_of_mem _ hq))
    obtain ⟨t, b, x, rfl, okx, mem⟩ := h s List.mem_cons_self
    show wb_law_holds_0 { D with nx := forL 3 wb_law_holds_0 D (ss.map slipD), ct := forL 3 wb_law_holds_0 D (ss.map slipD), bk := D.nx } [some (.lst (rows.map rowD)), x1, some (.lst (cuts.map tagD)), some (slipD (.put t b x))] S
    generalize forL 3 wb_law_holds_0 D (ss.map slipD) = N at step ⊢
    have c1 := cnt_rows nd mem
    have p1 := pur_rows ok
    have p2 := pur_row (r := ⟨t.1, t.2, b.1, b.2, x, decide (t ∈ cuts)⟩) okx
    rw [rowD_e] at c1 p2
    have ein : ∀ S : Sto, oIn S (.tup [.int t.1, .int t.2]) (.lst (cuts.map tagD)) = some (decide (t ∈ cuts)) := fun S => oIn_tags
    simp only [slipD] at step ⊢
    simp [wb_law_holds_0_e, ein, p1, p2, c1]
    exact step
theorem ok_law_holds : ∀ ds S Q, sp_law_holds ds S Q → w_law_holds { nx := fun _ S' => Q .non S', rt := Q } (ent 4 ds) S := by
  rintro _ S Q ⟨R, Pm, Cm, rfl, h1, ok, nd, hlen, onlyp, oks, hall, q⟩
  have hl : (R.length : Int) = (Pm.length : Int) := by rw [hlen]
  simp [w_law_holds_e, ent, hl]
  refine holds_turns ok nd (fun y => by simp; exact q) _ _ fun s hs => ?_
  have m2 := onlyp s hs
  cases s with
  | cut t => cases m2
  | put t b x => exact ⟨t, b, x, rfl, oks _ hs, hall t b x hs⟩
theorem one_turns {D : Dn} {S : Sto} {R : List Rw} {n : Nat} (ok : okS R) (okt : PyData.strOk (txt R) = true) (fin : ∀ y, D.nx [some (.lst (List.replicate n (.lst (R.map rowD)))), some (.lst (List.replicate n (.str (txt R)))), some (.int n), y] S) : ∀ (m k : Nat) (x3 : Option Dv), m + k = n →
    forR 3 wb_law_all_one_0 D m (k : Int) [some (.lst (List.replicate n (.lst (R.map rowD)))), some (.lst (List.replicate n (.str (txt R)))), some (.int n), x3] S
  | 0, k, x3, _ => fin x3
  | m + 1, k, x3, hm => by
    have step : forR 3 wb_law_all_one_0 D m ((k : Int) + 1) [some (.lst (List.replicate n (.lst (R.map rowD)))), some (.lst (List.replicate n (.str (txt R)))), some (.int n), some (.int k)] S := one_turns ok okt fin m (k + 1) (some (.int k)) (by omega)
    show wb_law_all_one_0 { D with nx := forR 3 wb_law_all_one_0 D m ((k : Int) + 1), ct := forR 3 wb_law_all_one_0 D m ((k : Int) + 1), bk := D.nx } [some (.lst (List.replicate n (.lst (R.map rowD)))), some (.lst (List.replicate n (.str (txt R)))), some (.int n), some (.int k)] S
    generalize forR 3 wb_law_all_one_0 D m ((k : Int) + 1) = N at step ⊢
    have ix1 : ∀ (S : Sto) (d : Dv), oIx S (.lst (List.replicate n d)) (.int (k : Int)) = some d := fun S d => ix_lst (by omega) (by rw [Int.toNat_natCast, List.getElem?_replicate, if_pos (by omega)])
    have ix0 : ∀ (S : Sto) (d : Dv), oIx S (.lst (List.replicate n d)) (.int 0) = some d := fun S d => ix_lst (by decide) (by rw [show (0 : Int).toNat = 0 from rfl, List.getElem?_replicate, if_pos (by omega)])
    have en := oNe_self (S := S) (d := .lst (R.map rowD)) rfl (pur_rows ok)
    simp [wb_law_all_one_0_e, ix1, ix0, en]
    refine ⟨.str (txt R), rfl, .inl (.inl (.inl (.inr ⟨_, rfl, okt⟩))), ?_⟩
    simp
    exact step
theorem ok_law_all_one : ∀ ds S Q, sp_law_all_one ds S Q → w_law_all_one { nx := fun _ S' => Q .non S', rt := Q } (ent 4 ds) S := by
  rintro _ S Q ⟨n, R, rfl, hn, hl, hR, ok, h1, q⟩
  have okt : PyData.strOk (txt R) = true := ok_tx ok_empty fun x hx => by
    obtain ⟨r, hr, e⟩ := List.mem_map.mp hx
    rw [← e]; exact ok r (there_sub hr)
  have ix0 : ∀ (S : Sto) (d : Dv), oIx S (.lst (List.replicate n d)) (.int 0) = some d := fun S d => ix_lst (by decide) (by rw [show (0 : Int).toNat = 0 from rfl, List.getElem?_replicate, if_pos (by omega)])
  simp only [w_law_all_one_e, ent]
  simp
  refine ⟨by omega, one_turns ok okt (fun y => ?_) n 0 none (by omega)⟩
  simp [ix0]
  refine words_cmp R [] ?_
  have hs := sum_ones (rows := there R) (fun r hr => h1 r (there_sub hr))
  have hle := there_len R
  simp
  refine ⟨(there R).map Rw.sg, by rw [List.map_map]; rfl, ?_, ?_⟩
  · rw [hs, empty_len]; omega
  · rw [glue_tx]
    exact ⟨.str (txt R), rfl, .inl (.inl (.inl (.inr ⟨_, rfl, okt⟩))), q⟩
noncomputable def AOk : Deed → Ans → Prop
  | .write h p z, a => ∃ (c : Int) (b : Tag), a = .made (putsOf c ((h : Int) + 1) b (chs z))
  | .rub _ _ m, a => ∃ ts : List Tag, a = .made (cutsOf ts) ∧ ts.length ≤ m ∧ ts.length ≤ 5000
  | _, _ => True
theorem Stp.aok {hs hs' : List HS} {d : Deed} {a : Ans} (h : Stp hs d hs' a) : AOk d a := by
  cases h with
  | write => exact ⟨_, _, rfl⟩
  | @rub h p m s _ _ _ es ha =>
    refine ⟨_, rfl, by unfold rubT; rw [List.length_take]; exact Nat.min_le_left _ _, ?_⟩
    have l1 : (rubT s.rows p m).length ≤ s.rows.length := by
      unfold rubT
      rw [List.length_take, List.length_drop, List.length_map]
      have := there_len s.rows
      omega
    unfold rubs at ha
    cases e : rubT s.rows p m with
    | nil => simp
    | cons t ts =>
      rw [e] at ha l1
      have ha' : HA s.rows s.ss (.cut t :: cutsOf ts) _ _ _ := ha
      have : s.rows.length ≤ 5000 := by
        cases ha' with
        | old oh => exact oh.len
        | new oh => exact oh.len
      omega
  | _ => exact trivial
theorem Run.get {hs hs' : List HS} {ds : List Deed} {as : List Ans} (h : Run hs ds hs' as) : ∀ (k : Nat) d, ds[k]? = some d → ∃ a, as[k]? = some a ∧ AOk d a := by
  induction h with
  | nil => intro k d hd; simp at hd
  | cons st _ ih =>
    intro k d hd
    cases k with
    | zero => simp at hd; subst hd; exact ⟨_, rfl, Stp.aok st⟩
    | succ k => simpa using ih k d (by simpa using hd)
theorem cuttag_cmp {S : Sto} {Q : List Dv → Sto → Prop} : ∀ (ts : List Tag) (acc : List Dv), Q (acc ++ ts.map tagD) S → cmpL wYes (wOp oIx (wVar 0) (wC (.int 1))) ((cutsOf ts).map slipD) S acc Q
  | [], acc, q => by simpa [cmpL, cutsOf] using q
  | t :: ts, acc, q => by
    have z := cuttag_cmp (S := S) (Q := Q) ts (acc ++ [tagD t]) (by simpa using q)
    show cmpL wYes (wOp oIx (wVar 0) (wC (.int 1))) (slipD (.cut t) :: (cutsOf ts).map slipD) S acc Q
    simp [cmpL, slipD]
    exact z
section
variable {D : Dn} {R : List Rw} {x0 x1 X2 X4 x5 x6 : Option Dv} {told : List Dv} {sheets : List Dv}
theorem near_turns {L : List Slip} {k : Nat} (g : Gd R) (hR : R.length ≤ 1000) (ixt : ∀ S : Sto, oIx S (.lst told) (.int (k : Int)) = some (.lst (L.map slipD))) (ixs : ∀ S : Sto, oIx S (.lst sheets) (.int 0) = some (.lst (R.map rowD)))
    (near : ∀ j : Nat, 1 ≤ j → j < L.length → ∃ (r1 r2 : Rw) (b1 : Tag) (y1 y2 : Str), L[j - 1]? = some (.put r1.tag b1 y1) ∧ L[j]? = some (.put r2.tag r1.tag y2) ∧ r1 ∈ R ∧ r2 ∈ R ∧ r2.bhd = r1.tag)
    (fin : ∀ S y, D.nx [x0, x1, X2, some (.lst told), some (.lst sheets), x5, x6, some (.int k), y] S) : ∀ (m j : Nat) (S : Sto) (x8 : Option Dv), 1 ≤ j → m + j = L.length ∨ m = 0 → forR 8 wb_law_0 D m (j : Int) [x0, x1, X2, some (.lst told), some (.lst sheets), x5, x6, some (.int k), x8] S
  | 0, j, S, x8, _, _ => fin S x8
  | m + 1, j, S, x8, h1, hm => by
    have hm' : m + 1 + j = L.length := hm.resolve_right (Nat.succ_ne_zero m)
    have step := fun S' => near_turns (L := L) (k := k) g hR ixt ixs near fin m (j + 1) S' (some (.int j)) (by omega) (.inl (by omega))
    rw [show ((j + 1 : Nat) : Int) = (j : Int) + 1 by omega] at step
    obtain ⟨r1, r2, b1, y1, y2, g1, g2, m1, m2, hb⟩ := near j h1 (by omega)
    show wb_law_0 { D with nx := forR 8 wb_law_0 D m ((j : Int) + 1), ct := forR 8 wb_law_0 D m ((j : Int) + 1), bk := D.nx } [x0, x1, X2, some (.lst told), some (.lst sheets), x5, x6, some (.int k), some (.int j)] S
    generalize forR 8 wb_law_0 D m ((j : Int) + 1) = N at step ⊢
    have i1 : ∀ S : Sto, oIx S (.lst (L.map slipD)) (.int ((j : Int) - 1)) = some (slipD (.put r1.tag b1 y1)) := fun S => ix_lst (by omega) (by rw [show ((j : Int) - 1).toNat = j - 1 by omega, List.getElem?_map, g1]; rfl)
    have i2 : ∀ S : Sto, oIx S (.lst (L.map slipD)) (.int (j : Int)) = some (slipD (.put r2.tag r1.tag y2)) := fun S => ix_lst (by omega) (by rw [Int.toNat_natCast, List.getElem?_map, g2]; rfl)
    simp only [slipD] at i1 i2
    generalize L.map slipD = T at *
    simp [wb_law_0_e, ixt, ixs, i1, i2]
    refine ⟨R, r1, r2, rfl, g, hR, m1, m2, hb, fun S' => ?_⟩
    simp
    exact step S'
end
theorem row_near {R : List Rw} {P : List Slip} {Cm : List Tag} {n c : Int} {b : Tag} {xs : List Str} (hrow : ∀ t b x, Slip.put t b x ∈ P → (⟨t.1, t.2, b.1, b.2, x, decide (t ∈ Cm)⟩ : Rw) ∈ R) (hsub : ∀ s ∈ putsOf c n b xs, s ∈ P) :
    ∀ j : Nat, 1 ≤ j → j < (putsOf c n b xs).length → ∃ (r1 r2 : Rw) (b1 : Tag) (y1 y2 : Str), (putsOf c n b xs)[j - 1]? = some (.put r1.tag b1 y1) ∧ (putsOf c n b xs)[j]? = some (.put r2.tag r1.tag y2) ∧ r1 ∈ R ∧ r2 ∈ R ∧ r2.bhd = r1.tag := by
  intro j h1 hj
  rw [putsOf_len] at hj
  have q1 := putsOf_get (n := n) (c := c) (b := b) (List.getElem?_eq_getElem (show j - 1 < xs.length by omega))
  have q2 := putsOf_get (n := n) (c := c) (b := b) (List.getElem?_eq_getElem hj)
  rw [if_neg (show ¬ j = 0 by omega)] at q2
  rw [show c + ((j - 1 : Nat) : Int) = c + (j : Int) - 1 by omega] at q1
  have m1 := hrow _ _ _ (hsub _ (List.mem_of_getElem? q1))
  have m2 := hrow _ _ _ (hsub _ (List.mem_of_getElem? q2))
  exact ⟨_, _, _, _, _, (by exact q1), (by exact q2), m1, m2, rfl⟩
theorem law_turns {D : Dn} {R : List Rw} {x0 x1 : Option Dv} {deeds : List Deed} {as : List Ans} {sheets : List Dv} {Cm : List Tag} {n : Nat} (g : Gd R) (hR : R.length ≤ 1000) (ixs : ∀ S : Sto, oIx S (.lst sheets) (.int 0) = some (.lst (R.map rowD)))
    (dok : ∀ d ∈ deeds, DOk n d) (get : ∀ (k : Nat) d, deeds[k]? = some d → ∃ a, as[k]? = some a ∧ AOk d a)
    (fin : ∀ S y7 y8 (P : List Slip) (C : List Tag), P = cP deeds as → C = cC deeds as → D.nx [x0, x1, some (.lst (deeds.map deedD)), some (.lst (as.map ansD)), some (.lst sheets), some (.lst (P.map slipD)), some (.lst (C.map tagD)), y7, y8] S) :
    ∀ (ds2 : List Deed) (as2 : List Ans) (k : Nat) (P : List Slip) (C : List Tag) (S : Sto) (x7 x8 : Option Dv), deeds.drop k = ds2 → as.drop k = as2 → as2.length = ds2.length → P ++ cP ds2 as2 = cP deeds as → C ++ cC ds2 as2 = cC deeds as → (P ++ cP ds2 as2).length ≤ 1000 → C.length + 5000 * ds2.length ≤ 500000 →
      (∀ t b x, Slip.put t b x ∈ cP deeds as → (⟨t.1, t.2, b.1, b.2, x, decide (t ∈ Cm)⟩ : Rw) ∈ R) →
      forR 7 wb_law_1 D ds2.length (k : Int) [x0, x1, some (.lst (deeds.map deedD)), some (.lst (as.map ansD)), some (.lst sheets), some (.lst (P.map slipD)), some (.lst (C.map tagD)), x7, x8] S
  | [], as2, k, P, C, S, x7, x8, hd, ha, hl, eP, eC, _, _, _ => by
    have e : as2 = [] := by cases as2 with | nil => rfl | cons => simp at hl
    subst e
    rw [show cP [] [] = [] from rfl, List.append_nil] at eP
    rw [show cC [] [] = [] from rfl, List.append_nil] at eC
    exact fin S x7 x8 P C eP eC
  | d :: ds2, [], k, P, C, S, x7, x8, hd, ha, hl, _, _, _, _, _ => by simp at hl
  | d :: ds2, a :: as2, k, P, C, S, x7, x8, hd, ha, hl, eP, eC, lP, lC, hrow => by
    have gd : deeds[k]? = some d := by
      have e : (deeds.drop k)[0]? = some d := by rw [hd]; rfl
      rwa [List.getElem?_drop, Nat.add_zero] at e
    have ga : as[k]? = some a := by
      have e : (as.drop k)[0]? = some a := by rw [ha]; rfl
      rwa [List.getElem?_drop, Nat.add_zero] at e
    have d1 : deeds.drop (k + 1) = ds2 := by rw [← List.drop_drop, hd]; rfl
    have d2 : as.drop (k + 1) = as2 := by rw [← List.drop_drop, ha]; rfl
    rw [List.length_cons] at lC
    have aok : AOk d a := by
      obtain ⟨a', h1, h2⟩ := get k d gd
      rw [ga] at h1
      cases h1
      exact h2
    have dk := dok d (List.mem_of_getElem? gd)
    have eP' : (P ++ mP d a) ++ cP ds2 as2 = cP deeds as := by rw [List.append_assoc]; exact eP
    have eC' : (C ++ mC d a) ++ cC ds2 as2 = cC deeds as := by rw [List.append_assoc]; exact eC
    have lC' : (mC d a).length ≤ 5000 := by
      cases d with
      | rub h p m =>
        obtain ⟨ts, rfl, _, h5⟩ := aok
        show (cutTags (cutsOf ts)).length ≤ 5000
        rw [cutTags_cuts]
        exact h5
      | _ => exact Nat.zero_le _
    have step : ∀ S y8, forR 7 wb_law_1 D ds2.length ((k : Int) + 1) [x0, x1, some (.lst (deeds.map deedD)), some (.lst (as.map ansD)), some (.lst sheets), some (.lst ((P ++ mP d a).map slipD)), some (.lst ((C ++ mC d a).map tagD)), some (.int k), y8] S := fun S y8 =>
      law_turns g hR ixs dok get fin ds2 as2 (k + 1) (P ++ mP d a) (C ++ mC d a) S (some (.int k)) y8 d1 d2 (by simpa using hl) eP' eC' (by rw [eP', ← eP]; exact lP) (by rw [List.length_append]; omega) hrow
    have subP : ∀ s ∈ mP d a, s ∈ cP deeds as := fun s hs => by rw [← eP']; exact List.mem_append_left _ (List.mem_append_right _ hs)
    have lP' : P.length + (mP d a).length ≤ 1000 := by
      have e : P ++ cP (d :: ds2) (a :: as2) = (P ++ mP d a) ++ cP ds2 as2 := by rw [List.append_assoc]; rfl
      rw [e, List.length_append, List.length_append] at lP
      omega
    rw [List.length_cons]
    show wb_law_1 { D with nx := forR 7 wb_law_1 D ds2.length ((k : Int) + 1), ct := forR 7 wb_law_1 D ds2.length ((k : Int) + 1), bk := D.nx } [x0, x1, some (.lst (deeds.map deedD)), some (.lst (as.map ansD)), some (.lst sheets), some (.lst (P.map slipD)), some (.lst (C.map tagD)), some (.int k), x8] S
    generalize forR 7 wb_law_1 D ds2.length ((k : Int) + 1) = N at step ⊢
    have ixd : ∀ S : Sto, oIx S (.lst (deeds.map deedD)) (.int (k : Int)) = some (deedD d) := fun S => ix_lst (by omega) (by rw [Int.toNat_natCast, List.getElem?_map, gd]; rfl)
    have ixa : ∀ S : Sto, oIx S (.lst (as.map ansD)) (.int (k : Int)) = some (ansD a) := fun S => ix_lst (by omega) (by rw [Int.toNat_natCast, List.getElem?_map, ga]; rfl)
    generalize deeds.map deedD = DD at ixd step ⊢
    generalize as.map ansD = AA at ixa step ⊢
    cases d with
    | write h p z =>
      obtain ⟨c, b, rfl⟩ := aok
      obtain ⟨hh, hz, okz⟩ := dk
      have sub : ∀ s ∈ putsOf c ((h : Int) + 1) b (chs z), s ∈ cP deeds as := subP
      have lL : P.length + (putsOf c ((h : Int) + 1) b (chs z)).length ≤ 1000 := lP'
      have near := row_near (Cm := Cm) hrow sub
      have st2 : ∀ S y8, N [x0, x1, some (.lst DD), some (.lst AA), some (.lst sheets), some (.lst (P.map slipD ++ (putsOf c ((h : Int) + 1) b (chs z)).map slipD)), some (.lst (C.map tagD)), some (.int k), y8] S := fun S y8 => by
        have zz := step S y8
        rw [show mC (.write h p z) (.made (putsOf c ((h : Int) + 1) b (chs z))) = [] from rfl, List.append_nil, List.map_append] at zz
        exact zz
      have ead : ∀ S : Sto, oAdd S (.lst (P.map slipD)) (.lst ((putsOf c ((h : Int) + 1) b (chs z)).map slipD)) = some (.lst (P.map slipD ++ (putsOf c ((h : Int) + 1) b (chs z)).map slipD)) := fun S => oAdd_lst (by simp [lim]; omega)
      simp only [ansD, deedD] at ixa ixd
      have nt := fun S x8 => near_turns (D := { D with nx := fun ρ S => wIf (wCmp oEq (wOp oIx (wOp oIx (wVar 2) (wVar 7)) (wC (.int 0))) (wC (.str "rub"))) (wSet 6 (wOp oAdd (wVar 6) (wComp (wOp oIx (wVar 3) (wVar 7)) (wOp oIx (wVar 0) (wC (.int 1)))))) wNext { D with nx := N, ct := N, bk := D.nx } ρ S, ct := N, bk := D.nx }) (x0 := x0) (x1 := x1) (X2 := some (.lst DD)) (x5 := some (.lst (P.map slipD ++ (putsOf c ((h : Int) + 1) b (chs z)).map slipD))) (x6 := some (.lst (C.map tagD))) g hR ixa ixs near (fun S y => by
        simp [ixd]
        exact st2 S y) ((putsOf c ((h : Int) + 1) b (chs z)).length - 1) 1 S x8 (Nat.le_refl 1) (by omega)
      have el : (((putsOf c ((h : Int) + 1) b (chs z)).length : Int) - 1).toNat = (putsOf c ((h : Int) + 1) b (chs z)).length - 1 := by omega
      simp [wb_law_1_e, ixd, ixa]
      refine .inl ⟨h, p, z, c, b, rfl, by omega, okz, ?_⟩
      simp [ixd, ixa, ead]
      refine ⟨by omega, ?_⟩
      try rw [el]
      exact nt S x8
    | rub h p m =>
      obtain ⟨ts, rfl, hm, h5⟩ := aok
      have st2 : ∀ S y8, N [x0, x1, some (.lst DD), some (.lst AA), some (.lst sheets), some (.lst (P.map slipD)), some (.lst (C.map tagD ++ ts.map tagD)), some (.int k), y8] S := fun S y8 => by
        have z := step S y8
        rw [show mP (.rub h p m) (.made (cutsOf ts)) = [] from rfl, show mC (.rub h p m) (.made (cutsOf ts)) = cutTags (cutsOf ts) from rfl, cutTags_cuts, List.append_nil, List.map_append] at z
        exact z
      have lt := h5
      have ead : ∀ S : Sto, oAdd S (.lst (C.map tagD)) (.lst (ts.map tagD)) = some (.lst (C.map tagD ++ ts.map tagD)) := fun S => oAdd_lst (by simp [lim]; omega)
      simp only [ansD, deedD] at ixa ixd
      simp [wb_law_1_e, ixd, ixa]
      refine .inr ⟨h, p, m, ts, rfl, hm, ?_⟩
      simp [ixd, ixa]
      refine cuttag_cmp ts [] ?_
      simp [ead]
      exact st2 S x8
    | tell g' t' w' =>
      have z := step S x8
      rw [show mP (.tell g' t' w') a = [] by cases a <;> rfl, show mC (.tell g' t' w') a = [] by cases a <;> rfl, List.append_nil, List.append_nil] at z
      simp only [deedD] at ixd
      simp [wb_law_1_e, ixd]
      exact z
    | share g' t' =>
      have z := step S x8
      rw [show mP (.share g' t') a = [] by cases a <;> rfl, show mC (.share g' t') a = [] by cases a <;> rfl, List.append_nil, List.append_nil] at z
      simp only [deedD] at ixd
      simp [wb_law_1_e, ixd]
      exact z
theorem many_ix (x : Int) : ∃ n : Nat, 0 < n ∧ n ≤ 9 ∧ ∀ S : Sto, oIx S (.lst [.int 2, .int 3, .int 4, .int 2, .int 3, .int 4, .int 2, .int 9]) (.int (x % 8)) = some (.int (n : Int)) := by
  have h : x % 8 = 0 ∨ x % 8 = 1 ∨ x % 8 = 2 ∨ x % 8 = 3 ∨ x % 8 = 4 ∨ x % 8 = 5 ∨ x % 8 = 6 ∨ x % 8 = 7 := by omega
  rcases h with h | h | h | h | h | h | h | h <;> rw [h]
  · exact ⟨2, by decide, by decide, fun S => ix_lst (by decide) rfl⟩
  · exact ⟨3, by decide, by decide, fun S => ix_lst (by decide) rfl⟩
  · exact ⟨4, by decide, by decide, fun S => ix_lst (by decide) rfl⟩
  · exact ⟨2, by decide, by decide, fun S => ix_lst (by decide) rfl⟩
  · exact ⟨3, by decide, by decide, fun S => ix_lst (by decide) rfl⟩
  · exact ⟨4, by decide, by decide, fun S => ix_lst (by decide) rfl⟩
  · exact ⟨2, by decide, by decide, fun S => ix_lst (by decide) rfl⟩
  · exact ⟨9, by decide, by decide, fun S => ix_lst (by decide) rfl⟩
theorem cP_app : ∀ {ds es : List Deed} {as bs : List Ans}, as.length = ds.length → cP (ds ++ es) (as ++ bs) = cP ds as ++ cP es bs
  | [], es, [], bs, _ => rfl
  | [], es, _ :: _, bs, h => by simp at h
  | _ :: _, es, [], bs, h => by simp at h
  | d :: ds, es, a :: as, bs, h => by
    show mP d a ++ cP (ds ++ es) (as ++ bs) = (mP d a ++ cP ds as) ++ cP es bs
    rw [cP_app (by simpa using h), List.append_assoc]
theorem cC_app : ∀ {ds es : List Deed} {as bs : List Ans}, as.length = ds.length → cC (ds ++ es) (as ++ bs) = cC ds as ++ cC es bs
  | [], es, [], bs, _ => rfl
  | [], es, _ :: _, bs, h => by simp at h
  | _ :: _, es, [], bs, h => by simp at h
  | d :: ds, es, a :: as, bs, h => by
    show mC d a ++ cC (ds ++ es) (as ++ bs) = (mC d a ++ cC ds as) ++ cC es bs
    rw [cC_app (by simpa using h), List.append_assoc]
theorem no_shares : ∀ {es : List Deed} {bs : List Ans}, (∀ e ∈ es, ∃ g t, e = .share g t) → cP es bs = [] ∧ cC es bs = []
  | [], bs, _ => ⟨by cases bs <;> rfl, by cases bs <;> rfl⟩
  | e :: es, [], _ => ⟨rfl, rfl⟩
  | e :: es, b :: bs, h => by
    obtain ⟨g, t, rfl⟩ := h e List.mem_cons_self
    obtain ⟨h1, h2⟩ := no_shares (es := es) (bs := bs) fun x hx => h x (List.mem_cons_of_mem _ hx)
    refine ⟨?_, ?_⟩
    · show mP (.share g t) b ++ cP es bs = []
      rw [h1]; cases b <;> rfl
    · show mC (.share g t) b ++ cC es bs = []
      rw [h2]; cases b <;> rfl
theorem ok_law : ∀ ds S Q, spLawX ds S Q → w_law { nx := fun _ S' => Q .non S', rt := Q } (ent 9 ds) S := by
  rintro _ S Q ⟨ns, rfl, hl, q⟩
  obtain ⟨n, hn, hn9, ixm⟩ := many_ix (cell ns 0 * 48271 % 1049)
  obtain ⟨ms, ec, lm⟩ := cutD_map ns (some 1) (some (1 + 30))
  simp [w_law_e, ent, ixm]
  simp [wt_law_1_e]
  refine ⟨ns, 30, 50, rfl, hl, ?_⟩
  simp only [asI_int, rdL_scr, goL_some]
  refine ⟨ms, n, by rw [ec], hn, by omega, by omega, fun drawn ld dok => ?_⟩
  refine ⟨n, rfl, hn, by omega, ?_⟩
  obtain ⟨h1, as1, r1, w1, l1⟩ := (WI.start n).run dok (by show 0 + 12 * drawn.length ≤ 1000; omega)
  rw [List.nil_append] at w1 l1
  rw [List.nil_append] at w1
  have lP : (cP drawn as1).length ≤ 1000 := by
    have : (cP drawn as1).length ≤ 0 + 12 * drawn.length := l1
    omega
  obtain ⟨h2, as2, r2, w2, all⟩ := w1.shares hn lP
  have rn := r1.app r2
  have lsh : (sharesOf n).length ≤ 18 := by
    unfold sharesOf
    rw [List.length_append, List.length_map, List.length_map, List.length_range']; omega
  have sh : ∀ e ∈ sharesOf n, ∃ g t, e = .share g t ∧ g < n ∧ t < n := fun e he => by
    unfold sharesOf at he
    rcases List.mem_append.mp he with m | m
    · obtain ⟨g, hg, rfl⟩ := List.mem_map.mp m
      have := List.mem_range'_1.mp hg
      exact ⟨g, 0, rfl, by omega, by omega⟩
    · obtain ⟨g, hg, rfl⟩ := List.mem_map.mp m
      have := List.mem_range'_1.mp hg
      exact ⟨0, g, rfl, by omega, by omega⟩
  obtain ⟨nP, nC⟩ := no_shares (bs := as2) fun e he => let ⟨g, t, e1, _⟩ := sh e he; ⟨g, t, e1⟩
  have eP : cP (drawn ++ sharesOf n) (as1 ++ as2) = cP drawn as1 := by rw [cP_app r1.len, nP, List.append_nil]
  have eC : cC (drawn ++ sharesOf n) (as1 ++ as2) = cC drawn as1 := by rw [cC_app r1.len, nC, List.append_nil]
  have dok' : ∀ d ∈ drawn ++ sharesOf n, DOk n d := fun d hd => by
    rcases List.mem_append.mp hd with m | m
    · exact dok d m
    · obtain ⟨g, t, rfl, h1, h2⟩ := sh d m
      exact ⟨h1, h2⟩
  rw [← eP, ← eC] at w2
  have lD : (drawn ++ sharesOf n).length ≤ 100 := by rw [List.length_append]; omega
  have ead : ∀ S : Sto, oAdd S (.lst (drawn.map deedD)) (.lst ((sharesOf n).map deedD)) = some (.lst ((drawn ++ sharesOf n).map deedD)) := fun S => by
    rw [oAdd_lst (by simp [lim]; rw [List.length_append] at lD; omega), List.map_append]
  rw [← eP] at lP
  generalize drawn ++ sharesOf n = deeds at *
  generalize as1 ++ as2 = as at *
  have e0 : h2[0]? = some (h2[0]'(by rw [w2.len]; exact hn)) := List.getElem?_eq_getElem _
  have m0 : h2[0]'(by rw [w2.len]; exact hn) ∈ h2 := List.getElem_mem _
  have W := w2.whole all m0
  have hrl := w2.rowsLen m0
  have same : ∀ h ∈ h2, h.rows = (h2[0]'(by rw [w2.len]; exact hn)).rows := fun h hh => w2.oneSheet all hh m0
  generalize (h2[0]'(by rw [w2.len]; exact hn)).rows = R at W hrl same
  have sheets : h2.map (fun h => Dv.lst (h.rows.map rowD)) = List.replicate n (.lst (R.map rowD)) := by
    rw [List.eq_replicate_iff]
    refine ⟨by rw [List.length_map]; exact w2.len, fun b hb => ?_⟩
    obtain ⟨h, hh, rfl⟩ := List.mem_map.mp hb
    rw [same h hh]
  have lines : h2.map (fun h => Dv.str (txt h.rows)) = List.replicate n (.str (txt R)) := by
    rw [List.eq_replicate_iff]
    refine ⟨by rw [List.length_map]; exact w2.len, fun b hb => ?_⟩
    obtain ⟨h, hh, rfl⟩ := List.mem_map.mp hb
    rw [same h hh]
  have lR : R.length ≤ 1000 := by omega
  have ix0 : ∀ (S : Sto) (d : Dv), oIx S (.lst (List.replicate n d)) (.int 0) = some d := fun S d => ix_lst (by decide) (by rw [show (0 : Int).toNat = 0 from rfl, List.getElem?_replicate, if_pos (by omega)])
  have la := rn.len
  have lt := fun S3 => law_turns (D := { nx := wt_law_9 { nx := fun _ S' => Q .non S', rt := Q }, rt := Q }) (x0 := some (.scr ns)) (x1 := some (.int n)) (sheets := List.replicate n (.lst (R.map rowD))) W.gd lR (fun S => ix0 S _) dok' (Run.get rn) (Cm := cC deeds as) (fun S y7 y8 P C e1 e2 => by
    subst e1 e2
    simp [wt_law_9_e, ix0]
    exact ⟨R, _, _, rfl, lR, W.ok, W.gd.ndr, W.len, w2.onlyp, fun s hs => by
      have z := w2.onlyp s hs
      cases s with
      | cut t => cases z
      | put t b x => exact w2.fit.okSl ((w2.puts _ _ _).mpr hs), W.row, q _⟩) deeds as 0 [] [] S3 none none rfl rfl la (by rw [List.nil_append]) (by rw [List.nil_append]) (by rw [List.nil_append]; exact lP) (by show 0 + _ ≤ _; omega) W.row
  simp only [List.map_nil] at lt
  generalize eD : deeds.map deedD = DD at ead lt ⊢
  have lDD : DD.length = deeds.length := by rw [← eD, List.length_map]
  simp [ead, wt_law_2_e]
  refine ⟨n, deeds, h2, as, by rw [eD], by omega, by omega, rn, fun S1 => ?_⟩
  generalize eA : as.map ansD = AA at lt ⊢
  have lAA : AA.length = deeds.length := by rw [← eA, List.length_map, la]
  simp [wt_law_3_e]
  refine ⟨n, deeds, h2, as, by rw [eD], by omega, rn, fun S2 => ?_⟩
  rw [sheets]
  simp [wt_law_4_e, lDD, lAA]
  simp [wt_law_5_e]
  refine ⟨n, deeds, h2, as, by rw [eD], by omega, rn, fun h hh => ⟨by rw [same h hh]; exact lR, w2.one1 hh⟩, fun S3 => ?_⟩
  rw [lines]
  refine ⟨n, R, rfl, hn, by omega, lR, W.ok, W.one, ?_⟩
  simp [wt_law_6_e, wt_law_7_e, wt_law_8_e, lDD]
  exact ⟨by omega, lt S3⟩
noncomputable def top (i : Nat) : Stmt := PySem.Challenge.pw_manyquills_k14_whole_one_text.main.body.getD i (.Pass ⟨0, 0, 0, 0⟩)
noncomputable abbrev s_Hand_init : Stmt := inClass (top 23) 0
noncomputable abbrev s_begun : Stmt := top 25
noncomputable abbrev s_place_or_none : Stmt := top 10
noncomputable abbrev s_place_of : Stmt := top 11
noncomputable abbrev s_with_cut : Stmt := top 15
noncomputable abbrev s_place_behind : Stmt := top 12
noncomputable abbrev s_later : Stmt := top 7
noncomputable abbrev s_past_later : Stmt := top 13
noncomputable abbrev s_with_put : Stmt := top 14
noncomputable abbrev s_heard : Stmt := top 16
noncomputable abbrev s_Hand_hear : Stmt := inClass (top 23) 1
noncomputable abbrev s_Hand_hear_all : Stmt := inClass (top 23) 2
noncomputable abbrev s_standing : Stmt := top 19
noncomputable abbrev s_just_ahead : Stmt := top 20
noncomputable abbrev s_fresh : Stmt := top 8
noncomputable abbrev s_written : Stmt := top 21
noncomputable abbrev s_Hand_write : Stmt := inClass (top 23) 3
noncomputable abbrev s_rubbed : Stmt := top 22
noncomputable abbrev s_Hand_rub : Stmt := inClass (top 23) 4
noncomputable abbrev s_told : Stmt := top 26
noncomputable abbrev s_done : Stmt := top 27
noncomputable abbrev s_story : Stmt := top 28
noncomputable abbrev s_hands_after : Stmt := top 29
noncomputable abbrev s_ends : Stmt := top 30
noncomputable abbrev s_law_holds : Stmt := top 45
noncomputable abbrev s_law_marks : Stmt := top 40
noncomputable abbrev s_law_drawn_deeds : Stmt := top 41
noncomputable abbrev s_law_shares : Stmt := top 42
noncomputable abbrev s_law_so : Stmt := top 33
noncomputable abbrev s_law_whole : Stmt := top 34
noncomputable abbrev s_law_is_tag : Stmt := top 36
noncomputable abbrev s_law_is_sheet : Stmt := top 37
noncomputable abbrev s_law_all_one : Stmt := top 46
noncomputable abbrev s_words : Stmt := top 17
noncomputable abbrev s_texts : Stmt := top 31
noncomputable abbrev s_law_is_slip : Stmt := top 38
noncomputable abbrev s_law_are_slips : Stmt := top 39
noncomputable abbrev s_law_go : Stmt := top 43
noncomputable abbrev s_law_at : Stmt := top 35
noncomputable abbrev s_law_between : Stmt := top 44
noncomputable abbrev s_law_room : Stmt := top 47
noncomputable abbrev s_law : Stmt := top 48
structure Txt (K : PySem.W.Frag) (mg : Str → Option Value) : Prop where
  b_bool : mg "bool" = none
  b_dict : mg "dict" = none
  b_enumerate : mg "enumerate" = none
  b_int : mg "int" = none
  b_isinstance : mg "isinstance" = none
  b_len : mg "len" = none
  b_list : mg "list" = none
  b_max : mg "max" = none
  b_range : mg "range" = none
  b_str : mg "str" = none
  b_tuple : mg "tuple" = none
  e_BEGINNING : ∃ a, mg "BEGINNING" = some (.ref a) ∧ ∀ H, den K H c_BEGINNING (.ref a)
structure Exc (K : PySem.W.Frag) (mg : Str → Option Value) : Prop where
  o_NotYet : ∃ C, OwnX K mg "NotYet" C
  o_Clash : ∃ C, OwnX K mg "Clash" C
  o_Backwards : ∃ C, OwnX K mg "Backwards" C
  c_QuillError : Catch K mg "QuillError" ct_QuillError
section
variable {P : Program} {w : World} {K : PySem.W.Frag} {mg : Str → Option Value} {base : Heap} {C0 : Addr}
theorem sc_Hand_init : FnScope ["self", "number"] ["self", "number"] (defScope s_Hand_init) := ⟨rfl, rfl, rfl, by decide +kernel, rfl, by decide +kernel, by decide +kernel⟩
theorem lk_Hand_init {f : Addr} {cdv : Value} {A : Around} {outer : List Env} {s : Shared} {H : Hp} {E : XK} (T : Txt K mg) (HC : HandCls K C0)  (hr : Room 0 (cxD P w K mg base ["self", "number"] "Hand.__init__" s_Hand_init f cdv A outer s H E).A) :
    DSs (cxD P w K mg base ["self", "number"] "Hand.__init__" s_Hand_init f cdv A outer s H E) (defBody s_Hand_init) w_Hand_init := by
  have nd := sc_Hand_init.nd
  exact (dss_cons (ds_fld HC (de_var 0) (de_var 1))
  (dss_cons (ds_fld HC (de_var 0) (de_lst da_nil))
  (dss_one (ds_fld HC (de_var 0) (de_lst da_nil)))))
theorem sc_begun : FnScope ["many"] ["many"] (defScope s_begun) := ⟨rfl, rfl, rfl, by decide +kernel, rfl, by decide +kernel, by decide +kernel⟩
theorem lk_begun {f : Addr} {cdv : Value} {A : Around} {outer : List Env} {s : Shared} {H : Hp} {E : XK} (T : Txt K mg) (HC : HandCls K C0) (G_Hand_init : HasI P w K mg base 1 C0 "Hand" ["self", "number"] sp_Hand_init) (hr : Room 2 (cxD P w K mg base ["many"] "begun" s_begun f cdv A outer s H E).A) :
    DSs (cxD P w K mg base ["many"] "begun" s_begun f cdv A outer s H E) (defBody s_begun) w_begun := by
  have nd := sc_begun.nd
  exact (dss_one (ds_ret (de_compR (dr_2 T.b_range (da_cons de_int (da_cons (de_op v_add (de_var 0) de_int) da_nil))) (fun _ _ _ _ _ => (de_make HC G_Hand_init (hr.mono (by decide)) (da_cons (de_var 0) da_nil))))))
theorem sc_place_or_none : FnScope ["rows", "tag", "place", "row"] ["rows", "tag"] (defScope s_place_or_none) := ⟨rfl, rfl, rfl, by decide +kernel, rfl, by decide +kernel, by decide +kernel⟩
theorem lk_place_or_none {f : Addr} {cdv : Value} {A : Around} {outer : List Env} {s : Shared} {H : Hp} {E : XK} (T : Txt K mg)  (hr : Room 0 (cxD P w K mg base ["rows", "tag", "place", "row"] "place_or_none" s_place_or_none f cdv A outer s H E).A) :
    DSs (cxD P w K mg base ["rows", "tag", "place", "row"] "place_or_none" s_place_or_none f cdv A outer s H E) (defBody s_place_or_none) w_place_or_none := by
  have nd := sc_place_or_none.nd
  exact (dss_cons (ds_forE (i := 2) (j := 3) PassesOwn.never nd T.b_enumerate (da_cons (de_var 0) da_nil)
  (dss_one (ds_if (dt_cmp (v_eq hr.units) (de_ix v_ix (de_var 3) de_int) (de_var 1))
  (dss_one (ds_ret (de_var 2)))
  dss_nil)))
  (dss_one (ds_ret de_non)))
theorem sc_place_of : FnScope ["rows", "tag", "place"] ["rows", "tag"] (defScope s_place_of) := ⟨rfl, rfl, rfl, by decide +kernel, rfl, by decide +kernel, by decide +kernel⟩
theorem lk_place_of {f : Addr} {cdv : Value} {A : Around} {outer : List Env} {s : Shared} {H : Hp} {E : XK} (T : Txt K mg) (G_place_or_none : Has P w K mg base 1 "place_or_none" ["rows", "tag"] sp_place_or_none) (hr : Room 1 (cxD P w K mg base ["rows", "tag", "place"] "place_of" s_place_of f cdv A outer s H E).A) :
    DSs (cxD P w K mg base ["rows", "tag", "place"] "place_of" s_place_of f cdv A outer s H E) (defBody s_place_of) w_place_of := by
  have nd := sc_place_of.nd
  exact (dss_cons (ds_set (i := 2) nd (de_call G_place_or_none (hr.mono (by decide)) (da_cons (de_var 0) (da_cons (de_var 1) da_nil))))
  (dss_cons (ds_if (dt_cmp v_is (de_var 2) de_non)
  (dss_one ds_no)
  dss_nil)
  (dss_one (ds_ret (de_var 2)))))
theorem lx_place_of {f : Addr} {cdv : Value} {A : Around} {outer : List Env} {s : Shared} {H : Hp} {E : XK} (T : Txt K mg) (XC : Exc K mg) (G_place_or_none : Has P w K mg base 1 "place_or_none" ["rows", "tag"] sp_place_or_none) (hr : Room 1 (cxV P w K mg base ["rows", "tag", "place"] "place_of" s_place_of f cdv A outer s H E).A) :
    DXs true (cxV P w K mg base ["rows", "tag", "place"] "place_of" s_place_of f cdv A outer s H E) (defBody s_place_of) wx_place_of := by
  have nd := sc_place_of.nd
  obtain ⟨C_NotYet, o_NotYet⟩ := XC.o_NotYet
  exact (dxs_then (ds_set (i := 2) nd (de_call G_place_or_none (hr.mono (by decide)) (da_cons (de_var 0) (da_cons (de_var 1) da_nil))))
  (dxs_here (dx_if (dt_cmp v_is (de_var 2) de_non)
  (dxs_here (dx_raise o_NotYet rfl (da_cons de_str da_nil)))
  dxs_no)))
theorem sc_with_cut : FnScope ["rows", "tag", "place", "row"] ["rows", "tag"] (defScope s_with_cut) := ⟨rfl, rfl, rfl, by decide +kernel, rfl, by decide +kernel, by decide +kernel⟩
theorem lk_with_cut {f : Addr} {cdv : Value} {A : Around} {outer : List Env} {s : Shared} {H : Hp} {E : XK} (T : Txt K mg) (G_place_of : Has P w K mg base 2 "place_of" ["rows", "tag"] sp_place_of) (hr : Room 2 (cxD P w K mg base ["rows", "tag", "place", "row"] "with_cut" s_with_cut f cdv A outer s H E).A) :
    DSs (cxD P w K mg base ["rows", "tag", "place", "row"] "with_cut" s_with_cut f cdv A outer s H E) (defBody s_with_cut) w_with_cut := by
  have nd := sc_with_cut.nd
  exact (dss_cons (ds_set (i := 2) nd (de_call G_place_of (hr.mono (by decide)) (da_cons (de_var 0) (da_cons (de_var 1) da_nil))))
  (dss_cons (ds_set (i := 3) nd (de_ix v_ix (de_var 0) (de_var 2)))
  (dss_one (ds_ret (de_op v_add (de_op v_add (de_slice (de_var 0) do_none (do_some (de_var 2))) (de_lst (da_cons (de_tup (da_cons (de_ix v_ix (de_var 3) de_int) (da_cons (de_ix v_ix (de_var 3) de_int) (da_cons (de_ix v_ix (de_var 3) de_int) (da_cons de_bl da_nil))))) da_nil))) (de_slice (de_var 0) (do_some (de_op v_add (de_var 2) de_int)) do_none))))))
theorem lx_with_cut {f : Addr} {cdv : Value} {A : Around} {outer : List Env} {s : Shared} {H : Hp} {E : XK} (T : Txt K mg) (GX_place_of : HasX P w K mg base 2 "place_of" ["rows", "tag"] spx_place_of) (hr : Room 2 (cxV P w K mg base ["rows", "tag", "place", "row"] "with_cut" s_with_cut f cdv A outer s H E).A) :
    DXs true (cxV P w K mg base ["rows", "tag", "place", "row"] "with_cut" s_with_cut f cdv A outer s H E) (defBody s_with_cut) wx_with_cut := by
  have nd := sc_with_cut.nd
  exact (dxs_here (dx_set (i := 2) nd (dxe_call GX_place_of (hr.mono (by decide)) (da_cons (de_var 0) (da_cons (de_var 1) da_nil)))))
theorem sc_place_behind : FnScope ["rows", "behind"] ["rows", "behind"] (defScope s_place_behind) := ⟨rfl, rfl, rfl, by decide +kernel, rfl, by decide +kernel, by decide +kernel⟩
theorem lk_place_behind {f : Addr} {cdv : Value} {A : Around} {outer : List Env} {s : Shared} {H : Hp} {E : XK} (T : Txt K mg) (G_place_of : Has P w K mg base 2 "place_of" ["rows", "tag"] sp_place_of) (hr : Room 2 (cxD P w K mg base ["rows", "behind"] "place_behind" s_place_behind f cdv A outer s H E).A) :
    DSs (cxD P w K mg base ["rows", "behind"] "place_behind" s_place_behind f cdv A outer s H E) (defBody s_place_behind) w_place_behind := by
  have nd := sc_place_behind.nd
  obtain ⟨a_BEGINNING, g_BEGINNING, d_BEGINNING⟩ := T.e_BEGINNING
  exact (dss_cons (ds_if (dt_cmp (v_eq hr.units) (de_var 1) (de_glob g_BEGINNING d_BEGINNING))
  (dss_one (ds_ret de_int))
  dss_nil)
  (dss_one (ds_ret (de_op v_add (de_call G_place_of (hr.mono (by decide)) (da_cons (de_var 0) (da_cons (de_var 1) da_nil))) de_int))))
theorem lx_place_behind {f : Addr} {cdv : Value} {A : Around} {outer : List Env} {s : Shared} {H : Hp} {E : XK} (T : Txt K mg) (GX_place_of : HasX P w K mg base 2 "place_of" ["rows", "tag"] spx_place_of) (hr : Room 2 (cxV P w K mg base ["rows", "behind"] "place_behind" s_place_behind f cdv A outer s H E).A) :
    DXs true (cxV P w K mg base ["rows", "behind"] "place_behind" s_place_behind f cdv A outer s H E) (defBody s_place_behind) wx_place_behind := by
  have nd := sc_place_behind.nd
  obtain ⟨a_BEGINNING, g_BEGINNING, d_BEGINNING⟩ := T.e_BEGINNING
  exact (dxs_then (ds_if (dt_cmp (v_eq hr.units) (de_var 1) (de_glob g_BEGINNING d_BEGINNING))
  (dss_one (ds_ret de_int))
  dss_nil)
  (dxs_here (dx_ret (dxe_add (dxe_call GX_place_of (hr.mono (by decide)) (da_cons (de_var 0) (da_cons (de_var 1) da_nil))) de_int))))
theorem sc_later : FnScope ["one", "other"] ["one", "other"] (defScope s_later) := ⟨rfl, rfl, rfl, by decide +kernel, rfl, by decide +kernel, by decide +kernel⟩
theorem lk_later {f : Addr} {cdv : Value} {A : Around} {outer : List Env} {s : Shared} {H : Hp} {E : XK} (T : Txt K mg)  (hr : Room 0 (cxD P w K mg base ["one", "other"] "later" s_later f cdv A outer s H E).A) :
    DSs (cxD P w K mg base ["one", "other"] "later" s_later f cdv A outer s H E) (defBody s_later) w_later := by
  have nd := sc_later.nd
  exact (dss_cons (ds_if (dt_cmp (v_eq hr.units) (de_ix v_ix (de_var 0) de_int) (de_ix v_ix (de_var 1) de_int))
  (dss_one (ds_ret (de_cmp v_gt (de_ix v_ix (de_var 0) de_int) (de_ix v_ix (de_var 1) de_int))))
  dss_nil)
  (dss_one (ds_ret (de_cmp v_gt (de_ix v_ix (de_var 0) de_int) (de_ix v_ix (de_var 1) de_int)))))
theorem sc_past_later : FnScope ["rows", "place", "tag"] ["rows", "place", "tag"] (defScope s_past_later) := ⟨rfl, rfl, rfl, by decide +kernel, rfl, by decide +kernel, by decide +kernel⟩
theorem lk_past_later {f : Addr} {cdv : Value} {A : Around} {outer : List Env} {s : Shared} {H : Hp} {E : XK} (T : Txt K mg) (G_later : Has P w K mg base 1 "later" ["one", "other"] sp_later) (hr : Room 1 (cxD P w K mg base ["rows", "place", "tag"] "past_later" s_past_later f cdv A outer s H E).A) :
    DSs (cxD P w K mg base ["rows", "place", "tag"] "past_later" s_past_later f cdv A outer s H E) (defBody s_past_later) w_past_later := by
  have nd := sc_past_later.nd
  exact (dss_cons (ds_while PassesOwn.never (dt_w (dw_and (dt_cmp v_lt (de_var 1) (de_callB c_len T.b_len PySem.boot_len (da_cons (de_var 0) da_nil))) (dw_and1 (dt_val (de_call G_later (hr.mono (by decide)) (da_cons (de_ix v_ix (de_ix v_ix (de_var 0) (de_var 1)) de_int) (da_cons (de_var 2) da_nil)))))))
  (dss_one (ds_set (i := 1) nd (de_op v_add (de_var 1) de_int))))
  (dss_one (ds_ret (de_var 1))))
theorem sc_with_put : FnScope ["rows", "tag", "behind", "sign", "known", "start", "place"] ["rows", "tag", "behind", "sign"] (defScope s_with_put) := ⟨rfl, rfl, rfl, by decide +kernel, rfl, by decide +kernel, by decide +kernel⟩
theorem lk_with_put {f : Addr} {cdv : Value} {A : Around} {outer : List Env} {s : Shared} {H : Hp} {E : XK} (T : Txt K mg) (G_place_or_none : Has P w K mg base 1 "place_or_none" ["rows", "tag"] sp_place_or_none) (G_place_behind : Has P w K mg base 3 "place_behind" ["rows", "behind"] sp_place_behind) (G_later : Has P w K mg base 1 "later" ["one", "other"] sp_later) (G_past_later : Has P w K mg base 2 "past_later" ["rows", "place", "tag"] sp_past_later) (hr : Room 3 (cxD P w K mg base ["rows", "tag", "behind", "sign", "known", "start", "place"] "with_put" s_with_put f cdv A outer s H E).A) :
    DSs (cxD P w K mg base ["rows", "tag", "behind", "sign", "known", "start", "place"] "with_put" s_with_put f cdv A outer s H E) (defBody s_with_put) w_with_put := by
  have nd := sc_with_put.nd
  exact (dss_cons (ds_set (i := 4) nd (de_call G_place_or_none (hr.mono (by decide)) (da_cons (de_var 0) (da_cons (de_var 1) da_nil))))
  (dss_cons (ds_if (dt_cmp v_isNot (de_var 4) de_non)
  (dss_cons (ds_if (dt_w (dw_or (dt_cmp (v_ne hr.units) (de_ix v_ix (de_ix v_ix (de_var 0) (de_var 4)) de_int) (de_var 2)) (dw_or1 (dt_cmp (v_ne hr.units) (de_ix v_ix (de_ix v_ix (de_var 0) (de_var 4)) de_int) (de_var 3)))))
  (dss_one ds_no)
  dss_nil)
  (dss_one (ds_ret (de_callTy c_list T.b_list boot_list_ (da_cons (de_var 0) da_nil)))))
  dss_nil)
  (dss_cons (ds_set (i := 5) nd (de_call G_place_behind (hr.mono (by decide)) (da_cons (de_var 0) (da_cons (de_var 2) da_nil))))
  (dss_cons (ds_if (dt_not (dt_val (de_call G_later (hr.mono (by decide)) (da_cons (de_var 1) (da_cons (de_var 2) da_nil)))))
  (dss_one ds_no)
  dss_nil)
  (dss_cons (ds_set (i := 6) nd (de_call G_past_later (hr.mono (by decide)) (da_cons (de_var 0) (da_cons (de_var 5) (da_cons (de_var 1) da_nil)))))
  (dss_one (ds_ret (de_op v_add (de_op v_add (de_slice (de_var 0) do_none (do_some (de_var 6))) (de_lst (da_cons (de_tup (da_cons (de_var 1) (da_cons (de_var 2) (da_cons (de_var 3) (da_cons de_bl da_nil))))) da_nil))) (de_slice (de_var 0) (do_some (de_var 6)) do_none)))))))))
theorem lx_with_put {f : Addr} {cdv : Value} {A : Around} {outer : List Env} {s : Shared} {H : Hp} {E : XK} (T : Txt K mg) (XC : Exc K mg) (G_place_or_none : Has P w K mg base 1 "place_or_none" ["rows", "tag"] sp_place_or_none) (G_place_behind : Has P w K mg base 3 "place_behind" ["rows", "behind"] sp_place_behind) (G_later : Has P w K mg base 1 "later" ["one", "other"] sp_later) (GX_place_behind : HasX P w K mg base 3 "place_behind" ["rows", "behind"] spx_place_behind) (hr : Room 3 (cxV P w K mg base ["rows", "tag", "behind", "sign", "known", "start", "place"] "with_put" s_with_put f cdv A outer s H E).A) :
    DXs true (cxV P w K mg base ["rows", "tag", "behind", "sign", "known", "start", "place"] "with_put" s_with_put f cdv A outer s H E) (defBody s_with_put) wx_with_put := by
  have nd := sc_with_put.nd
  obtain ⟨C_Clash, o_Clash⟩ := XC.o_Clash
  obtain ⟨C_Backwards, o_Backwards⟩ := XC.o_Backwards
  exact (dxs_then (ds_set (i := 4) nd (de_call G_place_or_none (hr.mono (by decide)) (da_cons (de_var 0) (da_cons (de_var 1) da_nil))))
  (dxs_or (dxs_here (dx_if (dt_cmp v_isNot (de_var 4) de_non)
  (dxs_here (dx_if (dt_w (dw_or (dt_cmp (v_ne hr.units) (de_ix v_ix (de_ix v_ix (de_var 0) (de_var 4)) de_int) (de_var 2)) (dw_or1 (dt_cmp (v_ne hr.units) (de_ix v_ix (de_ix v_ix (de_var 0) (de_var 4)) de_int) (de_var 3)))))
  (dxs_here (dx_raise o_Clash rfl (da_cons de_str da_nil)))
  dxs_no))
  dxs_no))
  (dxs_then (ds_if (dt_cmp v_isNot (de_var 4) de_non)
  (dss_cons (ds_if (dt_w (dw_or (dt_cmp (v_ne hr.units) (de_ix v_ix (de_ix v_ix (de_var 0) (de_var 4)) de_int) (de_var 2)) (dw_or1 (dt_cmp (v_ne hr.units) (de_ix v_ix (de_ix v_ix (de_var 0) (de_var 4)) de_int) (de_var 3)))))
  (dss_one ds_no)
  dss_nil)
  (dss_one (ds_ret (de_callTy c_list T.b_list boot_list_ (da_cons (de_var 0) da_nil)))))
  dss_nil)
  (dxs_or (dxs_here (dx_set (i := 5) nd (dxe_call GX_place_behind (hr.mono (by decide)) (da_cons (de_var 0) (da_cons (de_var 2) da_nil)))))
  (dxs_then (ds_set (i := 5) nd (de_call G_place_behind (hr.mono (by decide)) (da_cons (de_var 0) (da_cons (de_var 2) da_nil))))
  (dxs_here (dx_if (dt_not (dt_val (de_call G_later (hr.mono (by decide)) (da_cons (de_var 1) (da_cons (de_var 2) da_nil)))))
  (dxs_here (dx_raise o_Backwards rfl (da_cons de_str da_nil)))
  dxs_no)))))))
theorem sc_heard : FnScope ["rows", "slip"] ["rows", "slip"] (defScope s_heard) := ⟨rfl, rfl, rfl, by decide +kernel, rfl, by decide +kernel, by decide +kernel⟩
theorem lk_heard {f : Addr} {cdv : Value} {A : Around} {outer : List Env} {s : Shared} {H : Hp} {E : XK} (T : Txt K mg) (G_with_put : Has P w K mg base 4 "with_put" ["rows", "tag", "behind", "sign"] sp_with_put) (G_with_cut : Has P w K mg base 3 "with_cut" ["rows", "tag"] sp_with_cut) (hr : Room 4 (cxD P w K mg base ["rows", "slip"] "heard" s_heard f cdv A outer s H E).A) :
    DSs (cxD P w K mg base ["rows", "slip"] "heard" s_heard f cdv A outer s H E) (defBody s_heard) w_heard := by
  have nd := sc_heard.nd
  exact (dss_cons (ds_if (dt_cmp (v_eq hr.units) (de_ix v_ix (de_var 1) de_int) de_str)
  (dss_one (ds_ret (de_call G_with_put (hr.mono (by decide)) (da_cons (de_var 0) (da_cons (de_ix v_ix (de_var 1) de_int) (da_cons (de_ix v_ix (de_var 1) de_int) (da_cons (de_ix v_ix (de_var 1) de_int) da_nil)))))))
  dss_nil)
  (dss_one (ds_ret (de_call G_with_cut (hr.mono (by decide)) (da_cons (de_var 0) (da_cons (de_ix v_ix (de_var 1) de_int) da_nil))))))
theorem lx_heard {f : Addr} {cdv : Value} {A : Around} {outer : List Env} {s : Shared} {H : Hp} {E : XK} (T : Txt K mg) (G_with_put : Has P w K mg base 4 "with_put" ["rows", "tag", "behind", "sign"] sp_with_put) (GX_with_put : HasX P w K mg base 4 "with_put" ["rows", "tag", "behind", "sign"] spx_with_put) (GX_with_cut : HasX P w K mg base 3 "with_cut" ["rows", "tag"] spx_with_cut) (hr : Room 4 (cxV P w K mg base ["rows", "slip"] "heard" s_heard f cdv A outer s H E).A) :
    DXs true (cxV P w K mg base ["rows", "slip"] "heard" s_heard f cdv A outer s H E) (defBody s_heard) wx_heard := by
  have nd := sc_heard.nd
  exact (dxs_or (dxs_here (dx_if (dt_cmp (v_eq hr.units) (de_ix v_ix (de_var 1) de_int) de_str)
  (dxs_here (dx_ret (dxe_call GX_with_put (hr.mono (by decide)) (da_cons (de_var 0) (da_cons (de_ix v_ix (de_var 1) de_int) (da_cons (de_ix v_ix (de_var 1) de_int) (da_cons (de_ix v_ix (de_var 1) de_int) da_nil)))))))
  dxs_no))
  (dxs_then (ds_if (dt_cmp (v_eq hr.units) (de_ix v_ix (de_var 1) de_int) de_str)
  (dss_one (ds_ret (de_call G_with_put (hr.mono (by decide)) (da_cons (de_var 0) (da_cons (de_ix v_ix (de_var 1) de_int) (da_cons (de_ix v_ix (de_var 1) de_int) (da_cons (de_ix v_ix (de_var 1) de_int) da_nil)))))))
  dss_nil)
  (dxs_here (dx_ret (dxe_call GX_with_cut (hr.mono (by decide)) (da_cons (de_var 0) (da_cons (de_ix v_ix (de_var 1) de_int) da_nil)))))))
theorem sc_Hand_hear : FnScope ["self", "slip"] ["self", "slip"] (defScope s_Hand_hear) := ⟨rfl, rfl, rfl, by decide +kernel, rfl, by decide +kernel, by decide +kernel⟩
theorem lk_Hand_hear {f : Addr} {cdv : Value} {A : Around} {outer : List Env} {s : Shared} {H : Hp} {E : XK} (T : Txt K mg) (HC : HandCls K C0) (G_heard : Has P w K mg base 5 "heard" ["rows", "slip"] sp_heard) (hr : Room 5 (cxD P w K mg base ["self", "slip"] "Hand.hear" s_Hand_hear f cdv A outer s H E).A) :
    DSs (cxD P w K mg base ["self", "slip"] "Hand.hear" s_Hand_hear f cdv A outer s H E) (defBody s_Hand_hear) w_Hand_hear := by
  have nd := sc_Hand_hear.nd
  exact (dss_cons (ds_if (dt_cmp (v_in (u128 hr)) (de_var 1) (de_fld HC (de_var 0)))
  (dss_one (ds_ret de_bl))
  dss_nil)
  (dss_cons (ds_fld HC (de_var 0) (de_call G_heard (hr.mono (by decide)) (da_cons (de_fld HC (de_var 0)) (da_cons (de_var 1) da_nil))))
  (dss_cons (ds_fld HC (de_var 0) (de_op v_add (de_fld HC (de_var 0)) (de_lst (da_cons (de_var 1) da_nil))))
  (dss_one (ds_ret de_bl)))))
theorem lx_Hand_hear {f : Addr} {cdv : Value} {A : Around} {outer : List Env} {s : Shared} {H : Hp} {E : XK} (T : Txt K mg) (HC : HandCls K C0) (GX_heard : HasX P w K mg base 5 "heard" ["rows", "slip"] spx_heard) (hr : Room 5 (cxV P w K mg base ["self", "slip"] "Hand.hear" s_Hand_hear f cdv A outer s H E).A) :
    DXs true (cxV P w K mg base ["self", "slip"] "Hand.hear" s_Hand_hear f cdv A outer s H E) (defBody s_Hand_hear) wx_Hand_hear := by
  have nd := sc_Hand_hear.nd
  exact (dxs_then (ds_if (dt_cmp (v_in (u128 hr)) (de_var 1) (de_fld HC (de_var 0)))
  (dss_one (ds_ret de_bl))
  dss_nil)
  (dxs_here (dx_fld (de_var 0) (dxe_call GX_heard (hr.mono (by decide)) (da_cons (de_fld HC (de_var 0)) (da_cons (de_var 1) da_nil))))))
theorem sc_Hand_hear_all : FnScope ["self", "slips", "new", "slip"] ["self", "slips"] (defScope s_Hand_hear_all) := ⟨rfl, rfl, rfl, by decide +kernel, rfl, by decide +kernel, by decide +kernel⟩
theorem lk_Hand_hear_all {f : Addr} {cdv : Value} {A : Around} {outer : List Env} {s : Shared} {H : Hp} {E : XK} (T : Txt K mg) (HC : HandCls K C0) (G_Hand_hear : HasM P w K mg base 6 C0 "hear" ["self", "slip"] sp_Hand_hear) (hr : Room 6 (cxD P w K mg base ["self", "slips", "new", "slip"] "Hand.hear_all" s_Hand_hear_all f cdv A outer s H E).A) :
    DSs (cxD P w K mg base ["self", "slips", "new", "slip"] "Hand.hear_all" s_Hand_hear_all f cdv A outer s H E) (defBody s_Hand_hear_all) w_Hand_hear_all := by
  have nd := sc_Hand_hear_all.nd
  exact (dss_cons (ds_set (i := 2) nd de_int)
  (dss_cons (ds_forG (i := 3) PassesOwn.never nd (de_var 1)
  (dss_one (ds_if (dt_val (de_meth HC G_Hand_hear (hr.mono (by decide)) (de_var 0) (da_cons (de_var 3) da_nil)))
  (dss_one (ds_set (i := 2) nd (de_op v_add (de_var 2) de_int)))
  dss_nil)))
  (dss_one (ds_ret (de_var 2)))))
theorem sc_standing : FnScope ["rows"] ["rows"] (defScope s_standing) := ⟨rfl, rfl, rfl, by decide +kernel, rfl, by decide +kernel, by decide +kernel⟩
theorem lk_standing {f : Addr} {cdv : Value} {A : Around} {outer : List Env} {s : Shared} {H : Hp} {E : XK} (T : Txt K mg)  (hr : Room 0 (cxD P w K mg base ["rows"] "standing" s_standing f cdv A outer s H E).A) :
    DSs (cxD P w K mg base ["rows"] "standing" s_standing f cdv A outer s H E) (defBody s_standing) w_standing := by
  have nd := sc_standing.nd
  exact (dss_one (ds_ret (de_compIf (de_var 0) (fun _ _ _ _ => (dt_not (dt_val (de_ix v_ix (de_var 0) de_int)))) (fun _ _ _ _ => (de_ix v_ix (de_var 0) de_int)))))
theorem sc_just_ahead : FnScope ["rows", "place"] ["rows", "place"] (defScope s_just_ahead) := ⟨rfl, rfl, rfl, by decide +kernel, rfl, by decide +kernel, by decide +kernel⟩
theorem lk_just_ahead {f : Addr} {cdv : Value} {A : Around} {outer : List Env} {s : Shared} {H : Hp} {E : XK} (T : Txt K mg) (G_standing : Has P w K mg base 1 "standing" ["rows"] sp_standing) (hr : Room 1 (cxD P w K mg base ["rows", "place"] "just_ahead" s_just_ahead f cdv A outer s H E).A) :
    DSs (cxD P w K mg base ["rows", "place"] "just_ahead" s_just_ahead f cdv A outer s H E) (defBody s_just_ahead) w_just_ahead := by
  have nd := sc_just_ahead.nd
  obtain ⟨a_BEGINNING, g_BEGINNING, d_BEGINNING⟩ := T.e_BEGINNING
  exact (dss_one (ds_ret (de_ix v_ix (de_op v_add (de_lst (da_cons (de_glob g_BEGINNING d_BEGINNING) da_nil)) (de_slice (de_call G_standing (hr.mono (by decide)) (da_cons (de_var 0) da_nil)) do_none (do_some (de_var 1)))) de_neg)))
theorem sc_fresh : FnScope ["rows", "number", "greatest"] ["rows", "number"] (defScope s_fresh) := ⟨rfl, rfl, rfl, by decide +kernel, rfl, by decide +kernel, by decide +kernel⟩
theorem lk_fresh {f : Addr} {cdv : Value} {A : Around} {outer : List Env} {s : Shared} {H : Hp} {E : XK} (T : Txt K mg)  (hr : Room 0 (cxD P w K mg base ["rows", "number", "greatest"] "fresh" s_fresh f cdv A outer s H E).A) :
    DSs (cxD P w K mg base ["rows", "number", "greatest"] "fresh" s_fresh f cdv A outer s H E) (defBody s_fresh) w_fresh := by
  have nd := sc_fresh.nd
  exact (dss_cons (ds_set (i := 2) nd (de_maxD T.b_max (da_cons (de_comp (de_var 0) (fun _ _ _ _ => (de_ix v_ix (de_ix v_ix (de_var 0) de_int) de_int))) da_nil) de_int))
  (dss_one (ds_ret (de_tup (da_cons (de_op v_add (de_var 2) de_int) (da_cons (de_var 1) da_nil))))))
theorem sc_written : FnScope ["rows", "number", "place", "signs", "made", "behind", "tag", "sign"] ["rows", "number", "place", "signs"] (defScope s_written) := ⟨rfl, rfl, rfl, by decide +kernel, rfl, by decide +kernel, by decide +kernel⟩
theorem lk_written {f : Addr} {cdv : Value} {A : Around} {outer : List Env} {s : Shared} {H : Hp} {E : XK} (T : Txt K mg) (G_just_ahead : Has P w K mg base 2 "just_ahead" ["rows", "place"] sp_just_ahead) (G_fresh : Has P w K mg base 1 "fresh" ["rows", "number"] sp_fresh) (hr : Room 2 (cxD P w K mg base ["rows", "number", "place", "signs", "made", "behind", "tag", "sign"] "written" s_written f cdv A outer s H E).A) :
    DSs (cxD P w K mg base ["rows", "number", "place", "signs", "made", "behind", "tag", "sign"] "written" s_written f cdv A outer s H E) (defBody s_written) w_written := by
  have nd := sc_written.nd
  exact (dss_cons (ds_set (i := 4) nd (de_lstM da_nil))
  (dss_cons (ds_set (i := 5) nd (de_call G_just_ahead (hr.mono (by decide)) (da_cons (de_var 0) (da_cons (de_var 2) da_nil))))
  (dss_cons (ds_set (i := 6) nd (de_call G_fresh (hr.mono (by decide)) (da_cons (de_var 0) (da_cons (de_var 1) da_nil))))
  (dss_cons (ds_then 4 (ds_forS (i := 7) PassesOwn.never nd (de_var 3)
  (dss_cons (ds_drop (de_append (de_var 4) (da_cons (de_tup (da_cons de_str (da_cons (de_var 6) (da_cons (de_var 5) (da_cons (de_var 7) da_nil))))) da_nil)))
  (dss_cons (ds_set (i := 5) nd (de_var 6))
  (dss_one (ds_set (i := 6) nd (de_tup (da_cons (de_op v_add (de_ix v_ix (de_var 6) de_int) de_int) (da_cons (de_var 1) da_nil)))))))))
  (dss_one (ds_ret (de_var 4)))))))
theorem sc_Hand_write : FnScope ["self", "place", "signs", "made"] ["self", "place", "signs"] (defScope s_Hand_write) := ⟨rfl, rfl, rfl, by decide +kernel, rfl, by decide +kernel, by decide +kernel⟩
theorem lk_Hand_write {f : Addr} {cdv : Value} {A : Around} {outer : List Env} {s : Shared} {H : Hp} {E : XK} (T : Txt K mg) (HC : HandCls K C0) (G_written : Has P w K mg base 3 "written" ["rows", "number", "place", "signs"] sp_written) (G_Hand_hear_all : HasM P w K mg base 7 C0 "hear_all" ["self", "slips"] sp_Hand_hear_all) (hr : Room 7 (cxD P w K mg base ["self", "place", "signs", "made"] "Hand.write" s_Hand_write f cdv A outer s H E).A) :
    DSs (cxD P w K mg base ["self", "place", "signs", "made"] "Hand.write" s_Hand_write f cdv A outer s H E) (defBody s_Hand_write) w_Hand_write := by
  have nd := sc_Hand_write.nd
  exact (dss_cons (ds_set (i := 3) nd (de_call G_written (hr.mono (by decide)) (da_cons (de_fld HC (de_var 0)) (da_cons (de_fld HC (de_var 0)) (da_cons (de_var 1) (da_cons (de_var 2) da_nil))))))
  (dss_cons (ds_drop (de_meth HC G_Hand_hear_all (hr.mono (by decide)) (de_var 0) (da_cons (de_var 3) da_nil)))
  (dss_one (ds_ret (de_var 3)))))
theorem sc_rubbed : FnScope ["rows", "place", "many"] ["rows", "place", "many"] (defScope s_rubbed) := ⟨rfl, rfl, rfl, by decide +kernel, rfl, by decide +kernel, by decide +kernel⟩
theorem lk_rubbed {f : Addr} {cdv : Value} {A : Around} {outer : List Env} {s : Shared} {H : Hp} {E : XK} (T : Txt K mg) (G_standing : Has P w K mg base 1 "standing" ["rows"] sp_standing) (hr : Room 1 (cxD P w K mg base ["rows", "place", "many"] "rubbed" s_rubbed f cdv A outer s H E).A) :
    DSs (cxD P w K mg base ["rows", "place", "many"] "rubbed" s_rubbed f cdv A outer s H E) (defBody s_rubbed) w_rubbed := by
  have nd := sc_rubbed.nd
  exact (dss_one (ds_ret (de_comp (de_slice (de_call G_standing (hr.mono (by decide)) (da_cons (de_var 0) da_nil)) (do_some (de_var 1)) (do_some (de_op v_add (de_var 1) (de_var 2)))) (fun _ _ _ _ => (de_tup (da_cons de_str (da_cons (de_var 0) da_nil)))))))
theorem sc_Hand_rub : FnScope ["self", "place", "many", "made"] ["self", "place", "many"] (defScope s_Hand_rub) := ⟨rfl, rfl, rfl, by decide +kernel, rfl, by decide +kernel, by decide +kernel⟩
theorem lk_Hand_rub {f : Addr} {cdv : Value} {A : Around} {outer : List Env} {s : Shared} {H : Hp} {E : XK} (T : Txt K mg) (HC : HandCls K C0) (G_rubbed : Has P w K mg base 2 "rubbed" ["rows", "place", "many"] sp_rubbed) (G_Hand_hear_all : HasM P w K mg base 7 C0 "hear_all" ["self", "slips"] sp_Hand_hear_all) (hr : Room 7 (cxD P w K mg base ["self", "place", "many", "made"] "Hand.rub" s_Hand_rub f cdv A outer s H E).A) :
    DSs (cxD P w K mg base ["self", "place", "many", "made"] "Hand.rub" s_Hand_rub f cdv A outer s H E) (defBody s_Hand_rub) w_Hand_rub := by
  have nd := sc_Hand_rub.nd
  exact (dss_cons (ds_set (i := 3) nd (de_call G_rubbed (hr.mono (by decide)) (da_cons (de_fld HC (de_var 0)) (da_cons (de_var 1) (da_cons (de_var 2) da_nil)))))
  (dss_cons (ds_drop (de_meth HC G_Hand_hear_all (hr.mono (by decide)) (de_var 0) (da_cons (de_var 3) da_nil)))
  (dss_one (ds_ret (de_var 3)))))
theorem sc_told : FnScope ["giver", "taker", "which", "slip"] ["giver", "taker", "which"] (defScope s_told) := ⟨rfl, rfl, rfl, by decide +kernel, rfl, by decide +kernel, by decide +kernel⟩
theorem lk_told {f : Addr} {cdv : Value} {A : Around} {outer : List Env} {s : Shared} {H : Hp} {E : XK} (T : Txt K mg) (HC : HandCls K C0) (XC : Exc K mg) (G_Hand_hear : HasM P w K mg base 6 C0 "hear" ["self", "slip"] sp_Hand_hear) (GX_Hand_hear : HasXM P w K mg base 6 C0 "hear" ["self", "slip"] spx_Hand_hear) (hr : Room 6 (cxD P w K mg base ["giver", "taker", "which", "slip"] "told" s_told f cdv A outer s H E).A) :
    DSs (cxD P w K mg base ["giver", "taker", "which", "slip"] "told" s_told f cdv A outer s H E) (defBody s_told) w_told := by
  have nd := sc_told.nd
  exact (dss_cons (ds_if (dt_cmp v_ge (de_var 2) (de_callB c_len T.b_len PySem.boot_len (da_cons (de_fld HC (de_var 0)) da_nil)))
  (dss_one (ds_ret de_non))
  dss_nil)
  (dss_cons (ds_set (i := 3) nd (de_ix v_ix (de_fld HC (de_var 0)) (de_var 2)))
  (dss_one (ds_try (dss_one (ds_ret (de_meth HC G_Hand_hear (hr.mono (by decide)) (de_var 1) (da_cons (de_var 3) da_nil)))) (fun _ _ => (dxs_here (dx_ret (dxe_meth HC GX_Hand_hear (hr.mono (by decide)) (de_var 1) (da_cons (de_var 3) da_nil))))) (HsOk.cons XC.c_QuillError rfl (by decide) (fun _ => (dss_one (ds_ret de_non))) HsOk.nil)))))
theorem sc_done : FnScope ["hands", "deed", "hand", "taker"] ["hands", "deed"] (defScope s_done) := ⟨rfl, rfl, rfl, by decide +kernel, rfl, by decide +kernel, by decide +kernel⟩
theorem lk_done {f : Addr} {cdv : Value} {A : Around} {outer : List Env} {s : Shared} {H : Hp} {E : XK} (T : Txt K mg) (HC : HandCls K C0) (G_Hand_write : HasM P w K mg base 8 C0 "write" ["self", "place", "signs"] sp_Hand_write) (G_Hand_rub : HasM P w K mg base 8 C0 "rub" ["self", "place", "many"] sp_Hand_rub) (G_told : Has P w K mg base 7 "told" ["giver", "taker", "which"] sp_told) (G_Hand_hear_all : HasM P w K mg base 7 C0 "hear_all" ["self", "slips"] sp_Hand_hear_all) (hr : Room 8 (cxD P w K mg base ["hands", "deed", "hand", "taker"] "done" s_done f cdv A outer s H E).A) :
    DSs (cxD P w K mg base ["hands", "deed", "hand", "taker"] "done" s_done f cdv A outer s H E) (defBody s_done) w_done := by
  have nd := sc_done.nd
  exact (dss_cons (ds_set (i := 2) nd (de_ix v_ix (de_var 0) (de_op v_sub (de_ix v_ix (de_var 1) de_int) de_int)))
  (dss_cons (ds_if (dt_cmp (v_eq hr.units) (de_ix v_ix (de_var 1) de_int) de_str)
  (dss_one (ds_ret (de_meth HC G_Hand_write (hr.mono (by decide)) (de_var 2) (da_cons (de_ix v_ix (de_var 1) de_int) (da_cons (de_ix v_ix (de_var 1) de_int) da_nil)))))
  dss_nil)
  (dss_cons (ds_if (dt_cmp (v_eq hr.units) (de_ix v_ix (de_var 1) de_int) de_str)
  (dss_one (ds_ret (de_meth HC G_Hand_rub (hr.mono (by decide)) (de_var 2) (da_cons (de_ix v_ix (de_var 1) de_int) (da_cons (de_ix v_ix (de_var 1) de_int) da_nil)))))
  dss_nil)
  (dss_cons (ds_set (i := 3) nd (de_ix v_ix (de_var 0) (de_op v_sub (de_ix v_ix (de_var 1) de_int) de_int)))
  (dss_cons (ds_if (dt_cmp (v_eq hr.units) (de_ix v_ix (de_var 1) de_int) de_str)
  (dss_one (ds_ret (de_call G_told (hr.mono (by decide)) (da_cons (de_var 2) (da_cons (de_var 3) (da_cons (de_ix v_ix (de_var 1) de_int) da_nil))))))
  dss_nil)
  (dss_one (ds_ret (de_meth HC G_Hand_hear_all (hr.mono (by decide)) (de_var 3) (da_cons (de_fld HC (de_var 2)) da_nil)))))))))
theorem sc_story : FnScope ["many", "deeds", "hands", "answers", "deed"] ["many", "deeds"] (defScope s_story) := ⟨rfl, rfl, rfl, by decide +kernel, rfl, by decide +kernel, by decide +kernel⟩
theorem lk_story {f : Addr} {cdv : Value} {A : Around} {outer : List Env} {s : Shared} {H : Hp} {E : XK} (T : Txt K mg) (G_begun : Has P w K mg base 3 "begun" ["many"] sp_begun) (G_done : Has P w K mg base 9 "done" ["hands", "deed"] sp_done) (hr : Room 9 (cxD P w K mg base ["many", "deeds", "hands", "answers", "deed"] "story" s_story f cdv A outer s H E).A) :
    DSs (cxD P w K mg base ["many", "deeds", "hands", "answers", "deed"] "story" s_story f cdv A outer s H E) (defBody s_story) w_story := by
  have nd := sc_story.nd
  exact (dss_cons (ds_set (i := 2) nd (de_call G_begun (hr.mono (by decide)) (da_cons (de_var 0) da_nil)))
  (dss_cons (ds_set (i := 3) nd (de_lstM da_nil))
  (dss_cons (ds_then 3 (ds_for (i := 4) PassesOwn.never nd (de_var 1)
  (dss_one (ds_drop (de_append (de_var 3) (da_cons (de_call G_done (hr.mono (by decide)) (da_cons (de_var 2) (da_cons (de_var 4) da_nil))) da_nil))))))
  (dss_one (ds_ret (de_var 3))))))
theorem sc_hands_after : FnScope ["many", "deeds", "hands", "deed"] ["many", "deeds"] (defScope s_hands_after) := ⟨rfl, rfl, rfl, by decide +kernel, rfl, by decide +kernel, by decide +kernel⟩
theorem lk_hands_after {f : Addr} {cdv : Value} {A : Around} {outer : List Env} {s : Shared} {H : Hp} {E : XK} (T : Txt K mg) (G_begun : Has P w K mg base 3 "begun" ["many"] sp_begun) (G_done : Has P w K mg base 9 "done" ["hands", "deed"] sp_done) (hr : Room 9 (cxD P w K mg base ["many", "deeds", "hands", "deed"] "hands_after" s_hands_after f cdv A outer s H E).A) :
    DSs (cxD P w K mg base ["many", "deeds", "hands", "deed"] "hands_after" s_hands_after f cdv A outer s H E) (defBody s_hands_after) w_hands_after := by
  have nd := sc_hands_after.nd
  exact (dss_cons (ds_set (i := 2) nd (de_call G_begun (hr.mono (by decide)) (da_cons (de_var 0) da_nil)))
  (dss_cons (ds_for (i := 3) PassesOwn.never nd (de_var 1)
  (dss_one (ds_drop (de_call G_done (hr.mono (by decide)) (da_cons (de_var 2) (da_cons (de_var 3) da_nil))))))
  (dss_one (ds_ret (de_var 2)))))
theorem sc_ends : FnScope ["many", "deeds"] ["many", "deeds"] (defScope s_ends) := ⟨rfl, rfl, rfl, by decide +kernel, rfl, by decide +kernel, by decide +kernel⟩
theorem lk_ends {f : Addr} {cdv : Value} {A : Around} {outer : List Env} {s : Shared} {H : Hp} {E : XK} (T : Txt K mg) (HC : HandCls K C0) (G_hands_after : Has P w K mg base 10 "hands_after" ["many", "deeds"] sp_hands_after) (hr : Room 10 (cxD P w K mg base ["many", "deeds"] "ends" s_ends f cdv A outer s H E).A) :
    DSs (cxD P w K mg base ["many", "deeds"] "ends" s_ends f cdv A outer s H E) (defBody s_ends) w_ends := by
  have nd := sc_ends.nd
  exact (dss_one (ds_ret (de_comp (de_call G_hands_after (hr.mono (by decide)) (da_cons (de_var 0) (da_cons (de_var 1) da_nil))) (fun _ _ _ _ => (de_fld HC (de_var 0))))))
theorem sc_law_holds : FnScope ["_law_rows", "_law_puts", "_law_cuts", "_law_slip"] ["_law_rows", "_law_puts", "_law_cuts"] (defScope s_law_holds) := ⟨rfl, rfl, rfl, by decide +kernel, rfl, by decide +kernel, by decide +kernel⟩
theorem lk_law_holds {f : Addr} {cdv : Value} {A : Around} {outer : List Env} {s : Shared} {H : Hp} {E : XK} (T : Txt K mg)  (hr : Room 0 (cxD P w K mg base ["_law_rows", "_law_puts", "_law_cuts", "_law_slip"] "_law_holds" s_law_holds f cdv A outer s H E).A) :
    DSs (cxD P w K mg base ["_law_rows", "_law_puts", "_law_cuts", "_law_slip"] "_law_holds" s_law_holds f cdv A outer s H E) (defBody s_law_holds) w_law_holds := by
  have nd := sc_law_holds.nd
  exact (dss_cons (ds_if (dt_cmp (v_ne hr.units) (de_callB c_len T.b_len PySem.boot_len (da_cons (de_var 0) da_nil)) (de_callB c_len T.b_len PySem.boot_len (da_cons (de_var 1) da_nil)))
  (dss_one (ds_ret de_bl))
  dss_nil)
  (dss_cons (ds_for (i := 3) PassesOwn.never nd (de_var 1)
  (dss_one (ds_if (dt_cmp (v_ne hr.units) (de_count (u128 hr) (de_var 0) (da_cons (de_tup (da_cons (de_ix v_ix (de_var 3) de_int) (da_cons (de_ix v_ix (de_var 3) de_int) (da_cons (de_ix v_ix (de_var 3) de_int) (da_cons (de_cmp (v_in (u128 hr)) (de_ix v_ix (de_var 3) de_int) (de_var 2)) da_nil))))) da_nil)) de_int)
  (dss_one (ds_ret de_bl))
  dss_nil)))
  (dss_one (ds_ret de_bl))))
theorem sc_law_marks : FnScope ["_law_some"] [] (defScope s_law_marks) := ⟨rfl, rfl, rfl, by decide +kernel, rfl, by decide +kernel, by decide +kernel⟩
theorem lk_law_marks {f : Addr} {cdv : Value} {A : Around} {outer : List Env} {s : Shared} {H : Hp} {E : XK} (T : Txt K mg)  (hr : Room 0 (cxD P w K mg base ["_law_some"] "_law_marks" s_law_marks f cdv A outer s H E).A) :
    DSs (cxD P w K mg base ["_law_some"] "_law_marks" s_law_marks f cdv A outer s H E) (defBody s_law_marks) w_law_marks := by
  have nd := sc_law_marks.nd
  exact (dss_cons (ds_set (i := 0) nd de_str)
  (dss_one (ds_ret (de_op v_add (de_var 0) de_str))))
theorem sc_law_drawn_deeds : FnScope ["_law_cells", "_law_many", "_law_deeds", "_law_k", "_law_cell", "_law_mine", "_law_taker", "_law_place", "_law_gone", "_law_size", "_law_signs"] ["_law_cells", "_law_many"] (defScope s_law_drawn_deeds) := ⟨rfl, rfl, rfl, by decide +kernel, rfl, by decide +kernel, by decide +kernel⟩
theorem lk_law_drawn_deeds {f : Addr} {cdv : Value} {A : Around} {outer : List Env} {s : Shared} {H : Hp} {E : XK} (T : Txt K mg) (G_law_marks : Has P w K mg base 1 "_law_marks" [] sp_law_marks) (hr : Room 1 (cxD P w K mg base ["_law_cells", "_law_many", "_law_deeds", "_law_k", "_law_cell", "_law_mine", "_law_taker", "_law_place", "_law_gone", "_law_size", "_law_signs"] "_law_drawn_deeds" s_law_drawn_deeds f cdv A outer s H E).A) :
    DSs (cxD P w K mg base ["_law_cells", "_law_many", "_law_deeds", "_law_k", "_law_cell", "_law_mine", "_law_taker", "_law_place", "_law_gone", "_law_size", "_law_signs"] "_law_drawn_deeds" s_law_drawn_deeds f cdv A outer s H E) (defBody s_law_drawn_deeds) w_law_drawn_deeds := by
  have nd := sc_law_drawn_deeds.nd
  exact (dss_cons (ds_set (i := 2) nd (de_lstM da_nil))
  (dss_cons (ds_then 2 (ds_forR1 (i := 3) PassesOwn.never nd T.b_range (da_cons (de_callB c_len T.b_len PySem.boot_len (da_cons (de_var 0) da_nil)) da_nil)
  (dss_cons (ds_set (i := 4) nd (de_ix v_ix (de_var 0) (de_var 3)))
  (dss_cons (ds_set (i := 5) nd (de_op v_add (de_op v_mod (de_op v_mod (de_op v_mul (de_op v_add (de_var 4) (de_var 3)) de_int) de_int) (de_var 1)) de_int))
  (dss_cons (ds_set (i := 6) nd (de_op v_add (de_op v_mod (de_op v_mod (de_op v_mul (de_op v_add (de_op v_add (de_op v_add (de_var 4) (de_var 3)) de_int) (de_op v_div (de_var 3) de_int)) de_int) de_int) (de_var 1)) de_int))
  (dss_cons (ds_set (i := 7) nd (de_op v_mod (de_op v_mod (de_op v_mul (de_op v_add (de_var 4) (de_var 3)) de_int) de_int) de_int))
  (dss_cons (ds_set (i := 8) nd (de_op v_mod (de_op v_mod (de_op v_mul (de_op v_add (de_var 4) de_int) de_int) de_int) de_int))
  (dss_cons (ds_if (dt_cmp (v_eq hr.units) (de_op v_mod (de_op v_mod (de_op v_mul (de_var 4) de_int) de_int) de_int) de_int)
  (dss_cons (ds_set (i := 7) nd (de_op v_mod (de_op v_mod (de_op v_mul (de_var 4) de_int) de_int) de_int))
  (dss_one (ds_set (i := 8) nd (de_op v_mod (de_op v_mod (de_op v_mul (de_var 4) de_int) de_int) de_int))))
  dss_nil)
  (dss_one (ds_if (dt_cmp v_lt (de_op v_mod (de_op v_mod (de_op v_mul (de_var 4) de_int) de_int) de_int) de_int)
  (dss_cons (ds_set (i := 9) nd (de_op v_mod (de_op v_mod (de_op v_mul (de_op v_add (de_op v_add (de_var 4) (de_op v_div (de_var 3) de_int)) de_int) de_int) de_int) de_int))
  (dss_cons (ds_set (i := 10) nd (de_sliceS de_str (do_some (de_op v_mod (de_var 3) de_int)) (do_some (de_op v_add (de_op v_mod (de_var 3) de_int) (de_var 9)))))
  (dss_cons (ds_if (dt_cmp (v_eq hr.units) (de_op v_mod (de_var 3) de_int) de_int)
  (dss_one (ds_set (i := 10) nd (de_join de_str (da_cons (de_compR1 (y := "_law_cell") 4 (dr_1 T.b_range (da_cons (de_op v_mul de_int (de_var 9)) da_nil)) (fun _ _ _ _ _ => (de_ix v_ix (de_call0 G_law_marks (hr.mono (by decide))) (de_op v_mod (de_op v_add (de_var 1) (de_op v_mul de_int (de_var 0))) de_int)))) da_nil))))
  dss_nil)
  (dss_one (ds_drop (de_append (de_var 2) (da_cons (de_tup (da_cons de_str (da_cons (de_var 5) (da_cons (de_var 7) (da_cons (de_var 10) da_nil))))) da_nil)))))))
  (dss_one (ds_if (dt_cmp (v_eq hr.units) (de_op v_mod (de_op v_mod (de_op v_mul (de_var 4) de_int) de_int) de_int) de_int)
  (dss_one (ds_drop (de_append (de_var 2) (da_cons (de_tup (da_cons de_str (da_cons (de_var 5) (da_cons (de_var 7) (da_cons (de_var 8) da_nil))))) da_nil))))
  (dss_one (ds_if (dt_cmp v_lt (de_op v_mod (de_op v_mod (de_op v_mul (de_var 4) de_int) de_int) de_int) de_int)
  (dss_one (ds_drop (de_append (de_var 2) (da_cons (de_tup (da_cons de_str (da_cons (de_var 5) (da_cons (de_var 6) (da_cons (de_op v_mod (de_op v_mod (de_op v_mul (de_op v_add (de_var 4) (de_op v_mul de_int (de_var 3))) de_int) de_int) (de_op v_add (de_var 3) de_int)) da_nil))))) da_nil))))
  (dss_one (ds_drop (de_append (de_var 2) (da_cons (de_tup (da_cons de_str (da_cons (de_var 5) (da_cons (de_var 6) da_nil)))) da_nil))))))))))))))))))
  (dss_one (ds_ret (de_var 2)))))
theorem sc_law_shares : FnScope ["_law_many", "_law_made", "_law_k"] ["_law_many"] (defScope s_law_shares) := ⟨rfl, rfl, rfl, by decide +kernel, rfl, by decide +kernel, by decide +kernel⟩
theorem lk_law_shares {f : Addr} {cdv : Value} {A : Around} {outer : List Env} {s : Shared} {H : Hp} {E : XK} (T : Txt K mg)  (hr : Room 0 (cxD P w K mg base ["_law_many", "_law_made", "_law_k"] "_law_shares" s_law_shares f cdv A outer s H E).A) :
    DSs (cxD P w K mg base ["_law_many", "_law_made", "_law_k"] "_law_shares" s_law_shares f cdv A outer s H E) (defBody s_law_shares) w_law_shares := by
  have nd := sc_law_shares.nd
  exact (dss_cons (ds_set (i := 1) nd (de_lstM da_nil))
  (dss_cons (ds_forR2 (i := 2) PassesOwn.never nd T.b_range (da_cons de_int (da_cons (de_var 0) da_nil))
  (dss_one (ds_drop (de_append (de_var 1) (da_cons (de_tup (da_cons de_str (da_cons (de_op v_add (de_var 2) de_int) (da_cons de_int da_nil)))) da_nil)))))
  (dss_cons (ds_then 1 (ds_forR2 (i := 2) PassesOwn.never nd T.b_range (da_cons de_int (da_cons (de_var 0) da_nil))
  (dss_one (ds_drop (de_append (de_var 1) (da_cons (de_tup (da_cons de_str (da_cons de_int (da_cons (de_op v_add (de_var 2) de_int) da_nil)))) da_nil))))))
  (dss_one (ds_ret (de_var 1))))))
theorem sc_law_so : FnScope ["_law_found", "_law_meant", "_law_k"] ["_law_found", "_law_meant"] (defScope s_law_so) := ⟨rfl, rfl, rfl, by decide +kernel, rfl, by decide +kernel, by decide +kernel⟩
theorem lk_law_so {n j : Nat} {f : Addr} {cdv : Value} {A : Around} {outer : List Env} {s : Shared} {H : Hp} {E : XK} (T : Txt K mg) (G_law_so : Has P w K mg base j "_law_so" ["_law_found", "_law_meant"] (sp_law_so n)) (hr : Room j (cxD P w K mg base ["_law_found", "_law_meant", "_law_k"] "_law_so" s_law_so f cdv A outer s H E).A) :
    DSs (cxD P w K mg base ["_law_found", "_law_meant", "_law_k"] "_law_so" s_law_so f cdv A outer s H E) (defBody s_law_so) (w_law_so n) := by
  have nd := sc_law_so.nd
  exact (dss_cons (ds_if (dt_cmp v_is (de_var 1) de_non)
  (dss_one (ds_ret (de_cmp v_is (de_var 0) de_non)))
  dss_nil)
  (dss_cons (ds_if (dt_val (de_isi T.b_isinstance T.b_bool boot_bool_ (de_var 1)))
  (dss_one (ds_ret (de_and (de_isi T.b_isinstance T.b_bool boot_bool_ (de_var 0)) (de_one (de_cmp (v_eq hr.units) (de_var 0) (de_var 1))))))
  dss_nil)
  (dss_cons (ds_if (dt_val (de_isi T.b_isinstance T.b_int boot_int_ (de_var 1)))
  (dss_one (ds_ret (de_and (de_isi T.b_isinstance T.b_int boot_int_ (de_var 0)) (de_and (de_not (de_isi T.b_isinstance T.b_bool boot_bool_ (de_var 0))) (de_one (de_cmp (v_eq hr.units) (de_var 0) (de_var 1)))))))
  dss_nil)
  (dss_cons (ds_if (dt_val (de_isi T.b_isinstance T.b_str boot_str_ (de_var 1)))
  (dss_one (ds_ret (de_and (de_isi T.b_isinstance T.b_str boot_str_ (de_var 0)) (de_one (de_cmp (v_eq hr.units) (de_var 0) (de_var 1))))))
  dss_nil)
  (dss_cons (ds_if (dt_val (de_isi T.b_isinstance T.b_dict boot_dict_ (de_var 1)))
  (dss_one ds_no)
  dss_nil)
  (dss_cons (ds_if (dt_cmp (v_ne hr.units) (de_isi T.b_isinstance T.b_tuple boot_tuple_ (de_var 1)) (de_isi T.b_isinstance T.b_tuple boot_tuple_ (de_var 0)))
  (dss_one (ds_ret de_bl))
  dss_nil)
  (dss_cons (ds_if (dt_w (dw_or (dt_cmp (v_ne hr.units) (de_isi T.b_isinstance T.b_list boot_list_ (de_var 1)) (de_isi T.b_isinstance T.b_list boot_list_ (de_var 0))) (dw_or1 (dt_not (dt_val (de_isp T.b_isinstance T.b_list T.b_tuple (de_var 1)))))))
  (dss_one (ds_ret de_bl))
  dss_nil)
  (dss_cons (ds_if (dt_cmp (v_ne hr.units) (de_callB c_len T.b_len PySem.boot_len (da_cons (de_var 0) da_nil)) (de_callB c_len T.b_len PySem.boot_len (da_cons (de_var 1) da_nil)))
  (dss_one (ds_ret de_bl))
  dss_nil)
  (dss_cons (ds_forR1 (i := 2) PassesOwn.never nd T.b_range (da_cons (de_callB c_len T.b_len PySem.boot_len (da_cons (de_var 1) da_nil)) da_nil)
  (dss_one (ds_if (dt_not (dt_val (de_call G_law_so hr (da_cons (de_ix v_ix (de_var 0) (de_var 2)) (da_cons (de_ix v_ix (de_var 1) (de_var 2)) da_nil)))))
  (dss_one (ds_ret de_bl))
  dss_nil)))
  (dss_one (ds_ret de_bl)))))))))))
theorem sc_law_whole : FnScope ["_law_found"] ["_law_found"] (defScope s_law_whole) := ⟨rfl, rfl, rfl, by decide +kernel, rfl, by decide +kernel, by decide +kernel⟩
theorem lk_law_whole {f : Addr} {cdv : Value} {A : Around} {outer : List Env} {s : Shared} {H : Hp} {E : XK} (T : Txt K mg)  (hr : Room 0 (cxD P w K mg base ["_law_found"] "_law_whole" s_law_whole f cdv A outer s H E).A) :
    DSs (cxD P w K mg base ["_law_found"] "_law_whole" s_law_whole f cdv A outer s H E) (defBody s_law_whole) w_law_whole := by
  have nd := sc_law_whole.nd
  exact (dss_one (ds_ret (de_and (de_isi T.b_isinstance T.b_int boot_int_ (de_var 0)) (de_one (de_not (de_isi T.b_isinstance T.b_bool boot_bool_ (de_var 0)))))))
theorem sc_law_is_tag : FnScope ["_law_found"] ["_law_found"] (defScope s_law_is_tag) := ⟨rfl, rfl, rfl, by decide +kernel, rfl, by decide +kernel, by decide +kernel⟩
theorem lk_law_is_tag {f : Addr} {cdv : Value} {A : Around} {outer : List Env} {s : Shared} {H : Hp} {E : XK} (T : Txt K mg) (G_law_whole : Has P w K mg base 1 "_law_whole" ["_law_found"] sp_law_whole) (hr : Room 1 (cxD P w K mg base ["_law_found"] "_law_is_tag" s_law_is_tag f cdv A outer s H E).A) :
    DSs (cxD P w K mg base ["_law_found"] "_law_is_tag" s_law_is_tag f cdv A outer s H E) (defBody s_law_is_tag) w_law_is_tag := by
  have nd := sc_law_is_tag.nd
  exact (dss_cons (ds_if (dt_w (dw_or (dt_not (dt_val (de_isi T.b_isinstance T.b_tuple boot_tuple_ (de_var 0)))) (dw_or1 (dt_cmp (v_ne hr.units) (de_callB c_len T.b_len PySem.boot_len (da_cons (de_var 0) da_nil)) de_int))))
  (dss_one (ds_ret de_bl))
  dss_nil)
  (dss_one (ds_ret (de_and (de_call G_law_whole (hr.mono (by decide)) (da_cons (de_ix v_ix (de_var 0) de_int) da_nil)) (de_one (de_call G_law_whole (hr.mono (by decide)) (da_cons (de_ix v_ix (de_var 0) de_int) da_nil)))))))
theorem sc_law_is_sheet : FnScope ["_law_found", "_law_row"] ["_law_found"] (defScope s_law_is_sheet) := ⟨rfl, rfl, rfl, by decide +kernel, rfl, by decide +kernel, by decide +kernel⟩
theorem lk_law_is_sheet {f : Addr} {cdv : Value} {A : Around} {outer : List Env} {s : Shared} {H : Hp} {E : XK} (T : Txt K mg) (G_law_is_tag : Has P w K mg base 2 "_law_is_tag" ["_law_found"] sp_law_is_tag) (hr : Room 2 (cxD P w K mg base ["_law_found", "_law_row"] "_law_is_sheet" s_law_is_sheet f cdv A outer s H E).A) :
    DSs (cxD P w K mg base ["_law_found", "_law_row"] "_law_is_sheet" s_law_is_sheet f cdv A outer s H E) (defBody s_law_is_sheet) w_law_is_sheet := by
  have nd := sc_law_is_sheet.nd
  exact (dss_cons (ds_if (dt_not (dt_val (de_isi T.b_isinstance T.b_list boot_list_ (de_var 0))))
  (dss_one (ds_ret de_bl))
  dss_nil)
  (dss_cons (ds_for (i := 1) PassesOwn.never nd (de_var 0)
  (dss_cons (ds_if (dt_w (dw_or (dt_not (dt_val (de_isi T.b_isinstance T.b_tuple boot_tuple_ (de_var 1)))) (dw_or1 (dt_cmp (v_ne hr.units) (de_callB c_len T.b_len PySem.boot_len (da_cons (de_var 1) da_nil)) de_int))))
  (dss_one (ds_ret de_bl))
  dss_nil)
  (dss_cons (ds_if (dt_w (dw_or (dt_not (dt_val (de_call G_law_is_tag (hr.mono (by decide)) (da_cons (de_ix v_ix (de_var 1) de_int) da_nil)))) (dw_or1 (dt_not (dt_val (de_call G_law_is_tag (hr.mono (by decide)) (da_cons (de_ix v_ix (de_var 1) de_int) da_nil)))))))
  (dss_one (ds_ret de_bl))
  dss_nil)
  (dss_one (ds_if (dt_w (dw_or (dt_not (dt_val (de_isi T.b_isinstance T.b_str boot_str_ (de_ix v_ix (de_var 1) de_int)))) (dw_or1 (dt_not (dt_val (de_isi T.b_isinstance T.b_bool boot_bool_ (de_ix v_ix (de_var 1) de_int)))))))
  (dss_one (ds_ret de_bl))
  dss_nil)))))
  (dss_one (ds_ret de_bl))))
theorem sc_law_all_one : FnScope ["_law_sheets", "_law_lines", "_law_many", "_law_k"] ["_law_sheets", "_law_lines", "_law_many"] (defScope s_law_all_one) := ⟨rfl, rfl, rfl, by decide +kernel, rfl, by decide +kernel, by decide +kernel⟩
theorem lk_law_all_one {f : Addr} {cdv : Value} {A : Around} {outer : List Env} {s : Shared} {H : Hp} {E : XK} (T : Txt K mg) (G_law_is_sheet : Has P w K mg base 3 "_law_is_sheet" ["_law_found"] sp_law_is_sheet) (G_law_so : Has P w K mg base 4 "_law_so" ["_law_found", "_law_meant"] (sp_law_so 4)) (hr : Room 4 (cxD P w K mg base ["_law_sheets", "_law_lines", "_law_many", "_law_k"] "_law_all_one" s_law_all_one f cdv A outer s H E).A) :
    DSs (cxD P w K mg base ["_law_sheets", "_law_lines", "_law_many", "_law_k"] "_law_all_one" s_law_all_one f cdv A outer s H E) (defBody s_law_all_one) w_law_all_one := by
  have nd := sc_law_all_one.nd
  exact (dss_cons (ds_if (dt_w (dw_or (dt_not (dt_val (de_isi T.b_isinstance T.b_list boot_list_ (de_var 0)))) (dw_or1 (dt_cmp (v_ne hr.units) (de_callB c_len T.b_len PySem.boot_len (da_cons (de_var 0) da_nil)) (de_var 2)))))
  (dss_one (ds_ret de_bl))
  dss_nil)
  (dss_cons (ds_if (dt_w (dw_or (dt_not (dt_val (de_isi T.b_isinstance T.b_list boot_list_ (de_var 1)))) (dw_or1 (dt_cmp (v_ne hr.units) (de_callB c_len T.b_len PySem.boot_len (da_cons (de_var 1) da_nil)) (de_var 2)))))
  (dss_one (ds_ret de_bl))
  dss_nil)
  (dss_cons (ds_forR1 (i := 3) PassesOwn.never nd T.b_range (da_cons (de_var 2) da_nil)
  (dss_cons (ds_if (dt_w (dw_or (dt_not (dt_val (de_call G_law_is_sheet (hr.mono (by decide)) (da_cons (de_ix v_ix (de_var 0) (de_var 3)) da_nil)))) (dw_or1 (dt_not (dt_val (de_isi T.b_isinstance T.b_str boot_str_ (de_ix v_ix (de_var 1) (de_var 3))))))))
  (dss_one (ds_ret de_bl))
  dss_nil)
  (dss_one (ds_if (dt_w (dw_or (dt_cmp (v_ne hr.units) (de_ix v_ix (de_var 0) (de_var 3)) (de_ix v_ix (de_var 0) de_int)) (dw_or1 (dt_not (dt_val (de_call G_law_so (hr.mono (by decide)) (da_cons (de_ix v_ix (de_var 1) (de_var 3)) (da_cons (de_ix v_ix (de_var 1) de_int) da_nil))))))))
  (dss_one (ds_ret de_bl))
  dss_nil))))
  (dss_one (ds_ret (de_call G_law_so (hr.mono (by decide)) (da_cons (de_ix v_ix (de_var 1) de_int) (da_cons (de_join de_str (da_cons (de_compIf (de_ix v_ix (de_var 0) de_int) (fun _ _ _ _ => (dt_not (dt_val (de_ix v_ix (de_var 0) de_int)))) (fun _ _ _ _ => (de_ix v_ix (de_var 0) de_int))) da_nil)) da_nil))))))))
theorem sc_words : FnScope ["rows"] ["rows"] (defScope s_words) := ⟨rfl, rfl, rfl, by decide +kernel, rfl, by decide +kernel, by decide +kernel⟩
theorem lk_words {f : Addr} {cdv : Value} {A : Around} {outer : List Env} {s : Shared} {H : Hp} {E : XK} (T : Txt K mg)  (hr : Room 0 (cxD P w K mg base ["rows"] "words" s_words f cdv A outer s H E).A) :
    DSs (cxD P w K mg base ["rows"] "words" s_words f cdv A outer s H E) (defBody s_words) w_words := by
  have nd := sc_words.nd
  exact (dss_one (ds_ret (de_join de_str (da_cons (de_compIf (de_var 0) (fun _ _ _ _ => (dt_not (dt_val (de_ix v_ix (de_var 0) de_int)))) (fun _ _ _ _ => (de_ix v_ix (de_var 0) de_int))) da_nil))))
theorem sc_texts : FnScope ["many", "deeds"] ["many", "deeds"] (defScope s_texts) := ⟨rfl, rfl, rfl, by decide +kernel, rfl, by decide +kernel, by decide +kernel⟩
theorem lk_texts {f : Addr} {cdv : Value} {A : Around} {outer : List Env} {s : Shared} {H : Hp} {E : XK} (T : Txt K mg) (HC : HandCls K C0) (G_hands_after : Has P w K mg base 10 "hands_after" ["many", "deeds"] sp_hands_after) (G_words : Has P w K mg base 1 "words" ["rows"] sp_words) (hr : Room 10 (cxD P w K mg base ["many", "deeds"] "texts" s_texts f cdv A outer s H E).A) :
    DSs (cxD P w K mg base ["many", "deeds"] "texts" s_texts f cdv A outer s H E) (defBody s_texts) w_texts := by
  have nd := sc_texts.nd
  exact (dss_one (ds_ret (de_comp (de_call G_hands_after (hr.mono (by decide)) (da_cons (de_var 0) (da_cons (de_var 1) da_nil))) (fun _ _ _ _ => (de_call G_words (hr.mono (by decide)) (da_cons (de_fld HC (de_var 0)) da_nil))))))
theorem sc_law_is_slip : FnScope ["_law_slip"] ["_law_slip"] (defScope s_law_is_slip) := ⟨rfl, rfl, rfl, by decide +kernel, rfl, by decide +kernel, by decide +kernel⟩
theorem lk_law_is_slip {f : Addr} {cdv : Value} {A : Around} {outer : List Env} {s : Shared} {H : Hp} {E : XK} (T : Txt K mg) (G_law_is_tag : Has P w K mg base 2 "_law_is_tag" ["_law_found"] sp_law_is_tag) (hr : Room 2 (cxD P w K mg base ["_law_slip"] "_law_is_slip" s_law_is_slip f cdv A outer s H E).A) :
    DSs (cxD P w K mg base ["_law_slip"] "_law_is_slip" s_law_is_slip f cdv A outer s H E) (defBody s_law_is_slip) w_law_is_slip := by
  have nd := sc_law_is_slip.nd
  exact (dss_cons (ds_if (dt_w (dw_or (dt_not (dt_val (de_isi T.b_isinstance T.b_tuple boot_tuple_ (de_var 0)))) (dw_or1 (dt_cmp v_lt (de_callB c_len T.b_len PySem.boot_len (da_cons (de_var 0) da_nil)) de_int))))
  (dss_one (ds_ret de_bl))
  dss_nil)
  (dss_cons (ds_if (dt_w (dw_or (dt_not (dt_val (de_isi T.b_isinstance T.b_str boot_str_ (de_ix v_ix (de_var 0) de_int)))) (dw_or1 (dt_not (dt_val (de_call G_law_is_tag (hr.mono (by decide)) (da_cons (de_ix v_ix (de_var 0) de_int) da_nil)))))))
  (dss_one (ds_ret de_bl))
  dss_nil)
  (dss_cons (ds_if (dt_w (dw_and (dt_cmp (v_eq hr.units) (de_ix v_ix (de_var 0) de_int) de_str) (dw_and1 (dt_cmp (v_eq hr.units) (de_callB c_len T.b_len PySem.boot_len (da_cons (de_var 0) da_nil)) de_int))))
  (dss_one (ds_ret (de_and (de_call G_law_is_tag (hr.mono (by decide)) (da_cons (de_ix v_ix (de_var 0) de_int) da_nil)) (de_one (de_isi T.b_isinstance T.b_str boot_str_ (de_ix v_ix (de_var 0) de_int))))))
  dss_nil)
  (dss_one (ds_ret (de_and (de_cmp (v_eq hr.units) (de_ix v_ix (de_var 0) de_int) de_str) (de_one (de_cmp (v_eq hr.units) (de_callB c_len T.b_len PySem.boot_len (da_cons (de_var 0) da_nil)) de_int))))))))
theorem sc_law_are_slips : FnScope ["_law_found", "_law_slip"] ["_law_found"] (defScope s_law_are_slips) := ⟨rfl, rfl, rfl, by decide +kernel, rfl, by decide +kernel, by decide +kernel⟩
theorem lk_law_are_slips {f : Addr} {cdv : Value} {A : Around} {outer : List Env} {s : Shared} {H : Hp} {E : XK} (T : Txt K mg) (G_law_is_slip : Has P w K mg base 3 "_law_is_slip" ["_law_slip"] sp_law_is_slip) (hr : Room 3 (cxD P w K mg base ["_law_found", "_law_slip"] "_law_are_slips" s_law_are_slips f cdv A outer s H E).A) :
    DSs (cxD P w K mg base ["_law_found", "_law_slip"] "_law_are_slips" s_law_are_slips f cdv A outer s H E) (defBody s_law_are_slips) w_law_are_slips := by
  have nd := sc_law_are_slips.nd
  exact (dss_cons (ds_if (dt_not (dt_val (de_isi T.b_isinstance T.b_list boot_list_ (de_var 0))))
  (dss_one (ds_ret de_bl))
  dss_nil)
  (dss_cons (ds_for (i := 1) PassesOwn.never nd (de_var 0)
  (dss_one (ds_if (dt_not (dt_val (de_call G_law_is_slip (hr.mono (by decide)) (da_cons (de_var 1) da_nil))))
  (dss_one (ds_ret de_bl))
  dss_nil)))
  (dss_one (ds_ret de_bl))))
theorem sc_law_go : FnScope ["_law_told", "_law_deed", "_law_slip", "_law_k"] ["_law_told", "_law_deed"] (defScope s_law_go) := ⟨rfl, rfl, rfl, by decide +kernel, rfl, by decide +kernel, by decide +kernel⟩
theorem lk_law_go {f : Addr} {cdv : Value} {A : Around} {outer : List Env} {s : Shared} {H : Hp} {E : XK} (T : Txt K mg) (G_law_are_slips : Has P w K mg base 4 "_law_are_slips" ["_law_found"] sp_law_are_slips) (hr : Room 4 (cxD P w K mg base ["_law_told", "_law_deed", "_law_slip", "_law_k"] "_law_go" s_law_go f cdv A outer s H E).A) :
    DSs (cxD P w K mg base ["_law_told", "_law_deed", "_law_slip", "_law_k"] "_law_go" s_law_go f cdv A outer s H E) (defBody s_law_go) w_law_go := by
  have nd := sc_law_go.nd
  exact (dss_cons (ds_if (dt_not (dt_val (de_call G_law_are_slips (hr.mono (by decide)) (da_cons (de_var 0) da_nil))))
  (dss_one (ds_ret de_bl))
  dss_nil)
  (dss_cons (ds_if (dt_cmp (v_eq hr.units) (de_ix v_ix (de_var 1) de_int) de_str)
  (dss_cons (ds_for (i := 2) PassesOwn.never nd (de_var 0)
  (dss_one (ds_if (dt_cmp (v_ne hr.units) (de_ix v_ix (de_var 2) de_int) de_str)
  (dss_one (ds_ret de_bl))
  dss_nil)))
  (dss_one (ds_ret (de_cmp v_le (de_callB c_len T.b_len PySem.boot_len (da_cons (de_var 0) da_nil)) (de_ix v_ix (de_var 1) de_int)))))
  dss_nil)
  (dss_cons (ds_if (dt_cmp (v_ne hr.units) (de_callB c_len T.b_len PySem.boot_len (da_cons (de_var 0) da_nil)) (de_callB c_len T.b_len PySem.boot_len (da_cons (de_ix v_ix (de_var 1) de_int) da_nil)))
  (dss_one (ds_ret de_bl))
  dss_nil)
  (dss_cons (ds_forR1 (i := 3) PassesOwn.never nd T.b_range (da_cons (de_callB c_len T.b_len PySem.boot_len (da_cons (de_var 0) da_nil)) da_nil)
  (dss_cons (ds_if (dt_w (dw_or (dt_cmp (v_ne hr.units) (de_ix v_ix (de_ix v_ix (de_var 0) (de_var 3)) de_int) de_str) (dw_or1 (dt_cmp (v_ne hr.units) (de_ix v_ix (de_ix v_ix (de_ix v_ix (de_var 0) (de_var 3)) de_int) de_int) (de_ix v_ix (de_var 1) de_int)))))
  (dss_one (ds_ret de_bl))
  dss_nil)
  (dss_cons (ds_if (dt_cmp (v_ne hr.units) (de_ix v_ix (de_ix v_ix (de_var 0) (de_var 3)) de_int) (de_ix v_ix (de_ix v_ix (de_var 1) de_int) (de_var 3)))
  (dss_one (ds_ret de_bl))
  dss_nil)
  (dss_one (ds_if (dt_w (dw_and (dt_cmp v_gt (de_var 3) de_int) (dw_and1 (dt_cmp (v_ne hr.units) (de_ix v_ix (de_ix v_ix (de_var 0) (de_var 3)) de_int) (de_ix v_ix (de_ix v_ix (de_var 0) (de_op v_sub (de_var 3) de_int)) de_int)))))
  (dss_one (ds_ret de_bl))
  dss_nil)))))
  (dss_one (ds_ret de_bl))))))
theorem sc_law_at : FnScope ["_law_script", "_law_k"] ["_law_script", "_law_k"] (defScope s_law_at) := ⟨rfl, rfl, rfl, by decide +kernel, rfl, by decide +kernel, by decide +kernel⟩
theorem lk_law_at {f : Addr} {cdv : Value} {A : Around} {outer : List Env} {s : Shared} {H : Hp} {E : XK} (T : Txt K mg)  (hr : Room 0 (cxD P w K mg base ["_law_script", "_law_k"] "_law_at" s_law_at f cdv A outer s H E).A) :
    DSs (cxD P w K mg base ["_law_script", "_law_k"] "_law_at" s_law_at f cdv A outer s H E) (defBody s_law_at) w_law_at := by
  have nd := sc_law_at.nd
  exact (dss_cons (ds_if (dt_cmp v_lt (de_var 1) (de_callB c_len T.b_len PySem.boot_len (da_cons (de_var 0) da_nil)))
  (dss_one (ds_ret (de_ix v_ix (de_var 0) (de_var 1))))
  dss_nil)
  (dss_one (ds_ret de_int)))
theorem sc_law_between : FnScope ["_law_rows", "_law_one", "_law_two", "_law_hung", "_law_row"] ["_law_rows", "_law_one", "_law_two"] (defScope s_law_between) := ⟨rfl, rfl, rfl, by decide +kernel, rfl, by decide +kernel, by decide +kernel⟩
theorem lk_law_between {f : Addr} {cdv : Value} {A : Around} {outer : List Env} {s : Shared} {H : Hp} {E : XK} (T : Txt K mg)  (hr : Room 0 (cxD P w K mg base ["_law_rows", "_law_one", "_law_two", "_law_hung", "_law_row"] "_law_between" s_law_between f cdv A outer s H E).A) :
    DSs (cxD P w K mg base ["_law_rows", "_law_one", "_law_two", "_law_hung", "_law_row"] "_law_between" s_law_between f cdv A outer s H E) (defBody s_law_between) w_law_between := by
  have nd := sc_law_between.nd
  exact (dss_cons (ds_set (i := 3) nd (de_lstM da_nil))
  (dss_cons (ds_for (i := 4) PassesOwn.never nd (de_var 0)
  (dss_cons (ds_if (dt_cmp (v_eq hr.units) (de_ix v_ix (de_var 4) de_int) (de_var 2))
  (dss_one (ds_ret (de_cmp v_gt (de_callB c_len T.b_len PySem.boot_len (da_cons (de_var 3) da_nil)) de_int)))
  dss_nil)
  (dss_one (ds_if (dt_cmp (v_eq hr.units) (de_ix v_ix (de_var 4) de_int) (de_var 1))
  (dss_one (ds_set (i := 3) nd (de_lstM (da_cons (de_var 1) da_nil))))
  (dss_one (ds_if (dt_cmp v_gt (de_callB c_len T.b_len PySem.boot_len (da_cons (de_var 3) da_nil)) de_int)
  (dss_cons (ds_if (dt_cmp (v_notIn (u128 hr)) (de_ix v_ix (de_var 4) de_int) (de_var 3))
  (dss_one (ds_ret de_bl))
  dss_nil)
  (dss_one (ds_drop (de_append (de_var 3) (da_cons (de_ix v_ix (de_var 4) de_int) da_nil)))))
  dss_nil))))))
  (dss_one (ds_ret de_bl))))
theorem sc_law_room : FnScope ["_law_script", "_law_most", "_law_bound"] ["_law_script", "_law_most", "_law_bound"] (defScope s_law_room) := ⟨rfl, rfl, rfl, by decide +kernel, rfl, by decide +kernel, by decide +kernel⟩
theorem lk_law_room {f : Addr} {cdv : Value} {A : Around} {outer : List Env} {s : Shared} {H : Hp} {E : XK} (T : Txt K mg)  (hr : Room 0 (cxD P w K mg base ["_law_script", "_law_most", "_law_bound"] "_law_room" s_law_room f cdv A outer s H E).A) :
    DSs (cxD P w K mg base ["_law_script", "_law_most", "_law_bound"] "_law_room" s_law_room f cdv A outer s H E) (defBody s_law_room) w_law_room := by
  have nd := sc_law_room.nd
  exact (dss_cons (ds_if (dt_cmp v_gt (de_callB c_len T.b_len PySem.boot_len (da_cons (de_var 0) da_nil)) de_int)
  (dss_one (ds_ret (de_var 2)))
  dss_nil)
  (dss_one (ds_ret (de_var 1))))
theorem sc_law : FnScope ["_law_script", "_law_many", "_law_deeds", "_law_told", "_law_sheets", "_law_puts", "_law_cuts", "_law_k", "_law_j"] ["_law_script"] (defScope s_law) := ⟨rfl, rfl, rfl, by decide +kernel, rfl, by decide +kernel, by decide +kernel⟩
theorem lk_law {f : Addr} {cdv : Value} {A : Around} {outer : List Env} {s : Shared} {H : Hp} {E : XK} (T : Txt K mg) (G_law_at : Has P w K mg base 1 "_law_at" ["_law_script", "_law_k"] sp_law_at) (G_law_drawn_deeds : Has P w K mg base 2 "_law_drawn_deeds" ["_law_cells", "_law_many"] sp_law_drawn_deeds) (G_law_room : Has P w K mg base 1 "_law_room" ["_law_script", "_law_most", "_law_bound"] sp_law_room) (G_law_shares : Has P w K mg base 1 "_law_shares" ["_law_many"] sp_law_shares) (G_story : Has P w K mg base 10 "story" ["many", "deeds"] sp_story) (G_ends : Has P w K mg base 11 "ends" ["many", "deeds"] sp_ends) (G_law_all_one : Has P w K mg base 5 "_law_all_one" ["_law_sheets", "_law_lines", "_law_many"] sp_law_all_one) (G_texts : Has P w K mg base 11 "texts" ["many", "deeds"] sp_texts) (G_law_go : Has P w K mg base 5 "_law_go" ["_law_told", "_law_deed"] sp_law_go) (G_law_between : Has P w K mg base 1 "_law_between" ["_law_rows", "_law_one", "_law_two"] sp_law_between) (G_law_holds : Has P w K mg base 1 "_law_holds" ["_law_rows", "_law_puts", "_law_cuts"] sp_law_holds) (hr : Room 11 (cxD P w K mg base ["_law_script", "_law_many", "_law_deeds", "_law_told", "_law_sheets", "_law_puts", "_law_cuts", "_law_k", "_law_j"] "law" s_law f cdv A outer s H E).A) :
    DSs (cxD P w K mg base ["_law_script", "_law_many", "_law_deeds", "_law_told", "_law_sheets", "_law_puts", "_law_cuts", "_law_k", "_law_j"] "law" s_law f cdv A outer s H E) (defBody s_law) w_law := by
  have nd := sc_law.nd
  exact (dss_cons (ds_set (i := 1) nd (de_ix v_ix (de_lst (da_cons de_int (da_cons de_int (da_cons de_int (da_cons de_int (da_cons de_int (da_cons de_int (da_cons de_int (da_cons de_int da_nil))))))))) (de_op v_mod (de_op v_mod (de_op v_mul (de_call G_law_at (hr.mono (by decide)) (da_cons (de_var 0) (da_cons de_int da_nil))) de_int) de_int) de_int)))
  (dss_cons (ds_set (i := 2) nd (de_op v_add (de_call G_law_drawn_deeds (hr.mono (by decide)) (da_cons (de_slice (de_var 0) (do_some de_int) (do_some (de_op v_add de_int (de_call G_law_room (hr.mono (by decide)) (da_cons (de_var 0) (da_cons de_int (da_cons de_int da_nil))))))) (da_cons (de_var 1) da_nil))) (de_call G_law_shares (hr.mono (by decide)) (da_cons (de_var 1) da_nil))))
  (dss_cons (ds_set (i := 3) nd (de_call G_story (hr.mono (by decide)) (da_cons (de_var 1) (da_cons (de_callTy c_list T.b_list boot_list_ (da_cons (de_var 2) da_nil)) da_nil))))
  (dss_cons (ds_set (i := 4) nd (de_call G_ends (hr.mono (by decide)) (da_cons (de_var 1) (da_cons (de_callTy c_list T.b_list boot_list_ (da_cons (de_var 2) da_nil)) da_nil))))
  (dss_cons (ds_if (dt_w (dw_or (dt_not (dt_val (de_isi T.b_isinstance T.b_list boot_list_ (de_var 3)))) (dw_or1 (dt_cmp (v_ne hr.units) (de_callB c_len T.b_len PySem.boot_len (da_cons (de_var 3) da_nil)) (de_callB c_len T.b_len PySem.boot_len (da_cons (de_var 2) da_nil))))))
  (dss_one (ds_ret de_bl))
  dss_nil)
  (dss_cons (ds_if (dt_not (dt_val (de_call G_law_all_one (hr.mono (by decide)) (da_cons (de_var 4) (da_cons (de_call G_texts (hr.mono (by decide)) (da_cons (de_var 1) (da_cons (de_callTy c_list T.b_list boot_list_ (da_cons (de_var 2) da_nil)) da_nil))) (da_cons (de_var 1) da_nil))))))
  (dss_one (ds_ret de_bl))
  dss_nil)
  (dss_cons (ds_set (i := 5) nd (de_lst da_nil))
  (dss_cons (ds_set (i := 6) nd (de_lst da_nil))
  (dss_cons (ds_forR1 (i := 7) PassesOwn.never nd T.b_range (da_cons (de_callB c_len T.b_len PySem.boot_len (da_cons (de_var 2) da_nil)) da_nil)
  (dss_cons (ds_if (dt_w (dw_or (dt_cmp (v_eq hr.units) (de_ix v_ix (de_ix v_ix (de_var 2) (de_var 7)) de_int) de_str) (dw_or1 (dt_cmp (v_eq hr.units) (de_ix v_ix (de_ix v_ix (de_var 2) (de_var 7)) de_int) de_str))))
  (dss_one (ds_if (dt_not (dt_val (de_call G_law_go (hr.mono (by decide)) (da_cons (de_ix v_ix (de_var 3) (de_var 7)) (da_cons (de_ix v_ix (de_var 2) (de_var 7)) da_nil)))))
  (dss_one (ds_ret de_bl))
  dss_nil))
  dss_nil)
  (dss_cons (ds_if (dt_cmp (v_eq hr.units) (de_ix v_ix (de_ix v_ix (de_var 2) (de_var 7)) de_int) de_str)
  (dss_cons (ds_set (i := 5) nd (de_op v_add (de_var 5) (de_ix v_ix (de_var 3) (de_var 7))))
  (dss_one (ds_forR2 (i := 8) PassesOwn.never nd T.b_range (da_cons de_int (da_cons (de_callB c_len T.b_len PySem.boot_len (da_cons (de_ix v_ix (de_var 3) (de_var 7)) da_nil)) da_nil))
  (dss_one (ds_if (dt_not (dt_val (de_call G_law_between (hr.mono (by decide)) (da_cons (de_ix v_ix (de_var 4) de_int) (da_cons (de_ix v_ix (de_ix v_ix (de_ix v_ix (de_var 3) (de_var 7)) (de_op v_sub (de_var 8) de_int)) de_int) (da_cons (de_ix v_ix (de_ix v_ix (de_ix v_ix (de_var 3) (de_var 7)) (de_var 8)) de_int) da_nil))))))
  (dss_one (ds_ret de_bl))
  dss_nil)))))
  dss_nil)
  (dss_one (ds_if (dt_cmp (v_eq hr.units) (de_ix v_ix (de_ix v_ix (de_var 2) (de_var 7)) de_int) de_str)
  (dss_one (ds_set (i := 6) nd (de_op v_add (de_var 6) (de_comp (de_ix v_ix (de_var 3) (de_var 7)) (fun _ _ _ _ => (de_ix v_ix (de_var 0) de_int))))))
  dss_nil)))))
  (dss_one (ds_ret (de_call G_law_holds (hr.mono (by decide)) (da_cons (de_ix v_ix (de_var 4) de_int) (da_cons (de_var 5) (da_cons (de_var 6) da_nil)))))))))))))))
end
theorem all_mk {l : PySem.W.OpenLaw} {w : World} {K : PySem.W.Frag} {h : Heap} {mg : Str → Option Value} {fa f0 f1 f2 f3 f4 f5 f6 f7 f8 f9 f10 f11 f12 f13 f14 f15 f16 f17 f18 f19 f20 f21 f22 f23 f24 f25 f26 f27 f28 f29 f30 f31 f32 f33 f34 f35 f36 f37 f38 f39 f40 f41 : Addr} (X : K.In h) (G : h.Ns mainGlobals mg) (hfa : mg "law" = some (.ref fa))
    {od0 an0 od1 an1 od2 an2 od3 an3 od4 an4 od5 an5 od6 an6 od7 an7 od8 an8 od9 an9 od10 an10 od11 an11 od12 an12 od13 an13 od14 an14 od15 an15 od16 an16 od17 an17 od18 an18 od19 an19 od20 an20 od21 an21 od22 an22 od23 an23 od24 an24 od25 an25 od26 an26 od27 an27 od28 an28 od29 an29 od30 an30 od31 an31 od32 an32 od33 an33 od34 an34 od35 an35 od36 an36 od37 an37 od38 an38 od39 an39 od40 an40 od41 an41 : Option Addr} {sl0 sl1 sl2 sl3 sl4 sl5 sl6 sl7 sl8 sl9 sl10 sl11 sl12 sl13 sl14 sl15 sl16 sl17 sl18 sl19 sl20 sl21 sl22 sl23 sl24 sl25 sl26 sl27 sl28 sl29 sl30 sl31 sl32 sl33 sl34 sl35 sl36 sl37 sl38 sl39 sl40 sl41 : Array (Option Value)} {oc0 kV0 dc0 pm0 cd0 ct0 oc1 kV1 dc1 pm1 cd1 ct1 oc2 kV2 dc2 pm2 cd2 ct2 oc3 kV3 dc3 pm3 cd3 ct3 oc4 kV4 dc4 pm4 cd4 ct4 oc5 kV5 dc5 pm5 cd5 ct5 oc6 kV6 dc6 pm6 cd6 ct6 oc7 kV7 dc7 pm7 cd7 ct7 oc8 kV8 dc8 pm8 cd8 ct8 oc9 kV9 dc9 pm9 cd9 ct9 oc10 kV10 dc10 pm10 cd10 ct10 oc11 kV11 dc11 pm11 cd11 ct11 oc12 kV12 dc12 pm12 cd12 ct12 oc13 kV13 dc13 pm13 cd13 ct13 oc14 kV14 dc14 pm14 cd14 ct14 oc15 kV15 dc15 pm15 cd15 ct15 oc16 kV16 dc16 pm16 cd16 ct16 oc17 kV17 dc17 pm17 cd17 ct17 oc18 kV18 dc18 pm18 cd18 ct18 oc19 kV19 dc19 pm19 cd19 ct19 oc20 kV20 dc20 pm20 cd20 ct20 oc21 kV21 dc21 pm21 cd21 ct21 oc22 kV22 dc22 pm22 cd22 ct22 oc23 kV23 dc23 pm23 cd23 ct23 oc24 kV24 dc24 pm24 cd24 ct24 oc25 kV25 dc25 pm25 cd25 ct25 oc26 kV26 dc26 pm26 cd26 ct26 oc27 kV27 dc27 pm27 cd27 ct27 oc28 kV28 dc28 pm28 cd28 ct28 oc29 kV29 dc29 pm29 cd29 ct29 oc30 kV30 dc30 pm30 cd30 ct30 oc31 kV31 dc31 pm31 cd31 ct31 oc32 kV32 dc32 pm32 cd32 ct32 oc33 kV33 dc33 pm33 cd33 ct33 oc34 kV34 dc34 pm34 cd34 ct34 oc35 kV35 dc35 pm35 cd35 ct35 oc36 kV36 dc36 pm36 cd36 ct36 oc37 kV37 dc37 pm37 cd37 ct37 oc38 kV38 dc38 pm38 cd38 ct38 oc39 kV39 dc39 pm39 cd39 ct39 oc40 kV40 dc40 pm40 cd40 ct40 oc41 kV41 dc41 pm41 cd41 ct41 : Value}
    {C0 : Addr} (aC : PySem.W.nsIn K mainGlobals "Hand" = some (some (.ref C0)))
    (a0 : PySem.W.findIn K (.ref C0) "__init__" = some (some (.ref f0))) (i0 : PySem.W.isFn K (.ref f0) = true) (l0 : K.lookup f0 = some ⟨oc0, od0, .func (PySem.W.fnOf "__init__" "Hand.__init__" (defArgs s_Hand_init) (defBody s_Hand_init) (defScope s_Hand_init) .none kV0 dc0 pm0 an0 cd0 ct0), sl0⟩) (c0 : PySem.W.codeIn K cd0 "Hand.__init__" = true) (k0 : PySem.W.keepIn K (.ref f0) = true)
    (a1 : PySem.W.nsIn K mainGlobals "begun" = some (some (.ref f1))) (l1 : K.lookup f1 = some ⟨oc1, od1, .func (PySem.W.fnOf "begun" "begun" (defArgs s_begun) (defBody s_begun) (defScope s_begun) .none kV1 dc1 pm1 an1 cd1 ct1), sl1⟩) (c1 : PySem.W.codeIn K cd1 "begun" = true) (k1 : PySem.W.keepIn K (.ref f1) = true)
    (a2 : PySem.W.nsIn K mainGlobals "place_or_none" = some (some (.ref f2))) (l2 : K.lookup f2 = some ⟨oc2, od2, .func (PySem.W.fnOf "place_or_none" "place_or_none" (defArgs s_place_or_none) (defBody s_place_or_none) (defScope s_place_or_none) .none kV2 dc2 pm2 an2 cd2 ct2), sl2⟩) (c2 : PySem.W.codeIn K cd2 "place_or_none" = true) (k2 : PySem.W.keepIn K (.ref f2) = true)
    (a3 : PySem.W.nsIn K mainGlobals "place_of" = some (some (.ref f3))) (l3 : K.lookup f3 = some ⟨oc3, od3, .func (PySem.W.fnOf "place_of" "place_of" (defArgs s_place_of) (defBody s_place_of) (defScope s_place_of) .none kV3 dc3 pm3 an3 cd3 ct3), sl3⟩) (c3 : PySem.W.codeIn K cd3 "place_of" = true) (k3 : PySem.W.keepIn K (.ref f3) = true)
    (a4 : PySem.W.nsIn K mainGlobals "with_cut" = some (some (.ref f4))) (l4 : K.lookup f4 = some ⟨oc4, od4, .func (PySem.W.fnOf "with_cut" "with_cut" (defArgs s_with_cut) (defBody s_with_cut) (defScope s_with_cut) .none kV4 dc4 pm4 an4 cd4 ct4), sl4⟩) (c4 : PySem.W.codeIn K cd4 "with_cut" = true) (k4 : PySem.W.keepIn K (.ref f4) = true)
    (a5 : PySem.W.nsIn K mainGlobals "place_behind" = some (some (.ref f5))) (l5 : K.lookup f5 = some ⟨oc5, od5, .func (PySem.W.fnOf "place_behind" "place_behind" (defArgs s_place_behind) (defBody s_place_behind) (defScope s_place_behind) .none kV5 dc5 pm5 an5 cd5 ct5), sl5⟩) (c5 : PySem.W.codeIn K cd5 "place_behind" = true) (k5 : PySem.W.keepIn K (.ref f5) = true)
    (a6 : PySem.W.nsIn K mainGlobals "later" = some (some (.ref f6))) (l6 : K.lookup f6 = some ⟨oc6, od6, .func (PySem.W.fnOf "later" "later" (defArgs s_later) (defBody s_later) (defScope s_later) .none kV6 dc6 pm6 an6 cd6 ct6), sl6⟩) (c6 : PySem.W.codeIn K cd6 "later" = true) (k6 : PySem.W.keepIn K (.ref f6) = true)
    (a7 : PySem.W.nsIn K mainGlobals "past_later" = some (some (.ref f7))) (l7 : K.lookup f7 = some ⟨oc7, od7, .func (PySem.W.fnOf "past_later" "past_later" (defArgs s_past_later) (defBody s_past_later) (defScope s_past_later) .none kV7 dc7 pm7 an7 cd7 ct7), sl7⟩) (c7 : PySem.W.codeIn K cd7 "past_later" = true) (k7 : PySem.W.keepIn K (.ref f7) = true)
    (a8 : PySem.W.nsIn K mainGlobals "with_put" = some (some (.ref f8))) (l8 : K.lookup f8 = some ⟨oc8, od8, .func (PySem.W.fnOf "with_put" "with_put" (defArgs s_with_put) (defBody s_with_put) (defScope s_with_put) .none kV8 dc8 pm8 an8 cd8 ct8), sl8⟩) (c8 : PySem.W.codeIn K cd8 "with_put" = true) (k8 : PySem.W.keepIn K (.ref f8) = true)
    (a9 : PySem.W.nsIn K mainGlobals "heard" = some (some (.ref f9))) (l9 : K.lookup f9 = some ⟨oc9, od9, .func (PySem.W.fnOf "heard" "heard" (defArgs s_heard) (defBody s_heard) (defScope s_heard) .none kV9 dc9 pm9 an9 cd9 ct9), sl9⟩) (c9 : PySem.W.codeIn K cd9 "heard" = true) (k9 : PySem.W.keepIn K (.ref f9) = true)
    (a10 : PySem.W.findIn K (.ref C0) "hear" = some (some (.ref f10))) (i10 : PySem.W.isFn K (.ref f10) = true) (l10 : K.lookup f10 = some ⟨oc10, od10, .func (PySem.W.fnOf "hear" "Hand.hear" (defArgs s_Hand_hear) (defBody s_Hand_hear) (defScope s_Hand_hear) .none kV10 dc10 pm10 an10 cd10 ct10), sl10⟩) (c10 : PySem.W.codeIn K cd10 "Hand.hear" = true) (k10 : PySem.W.keepIn K (.ref f10) = true)
    (a11 : PySem.W.findIn K (.ref C0) "hear_all" = some (some (.ref f11))) (i11 : PySem.W.isFn K (.ref f11) = true) (l11 : K.lookup f11 = some ⟨oc11, od11, .func (PySem.W.fnOf "hear_all" "Hand.hear_all" (defArgs s_Hand_hear_all) (defBody s_Hand_hear_all) (defScope s_Hand_hear_all) .none kV11 dc11 pm11 an11 cd11 ct11), sl11⟩) (c11 : PySem.W.codeIn K cd11 "Hand.hear_all" = true) (k11 : PySem.W.keepIn K (.ref f11) = true)
    (a12 : PySem.W.nsIn K mainGlobals "standing" = some (some (.ref f12))) (l12 : K.lookup f12 = some ⟨oc12, od12, .func (PySem.W.fnOf "standing" "standing" (defArgs s_standing) (defBody s_standing) (defScope s_standing) .none kV12 dc12 pm12 an12 cd12 ct12), sl12⟩) (c12 : PySem.W.codeIn K cd12 "standing" = true) (k12 : PySem.W.keepIn K (.ref f12) = true)
    (a13 : PySem.W.nsIn K mainGlobals "just_ahead" = some (some (.ref f13))) (l13 : K.lookup f13 = some ⟨oc13, od13, .func (PySem.W.fnOf "just_ahead" "just_ahead" (defArgs s_just_ahead) (defBody s_just_ahead) (defScope s_just_ahead) .none kV13 dc13 pm13 an13 cd13 ct13), sl13⟩) (c13 : PySem.W.codeIn K cd13 "just_ahead" = true) (k13 : PySem.W.keepIn K (.ref f13) = true)
    (a14 : PySem.W.nsIn K mainGlobals "fresh" = some (some (.ref f14))) (l14 : K.lookup f14 = some ⟨oc14, od14, .func (PySem.W.fnOf "fresh" "fresh" (defArgs s_fresh) (defBody s_fresh) (defScope s_fresh) .none kV14 dc14 pm14 an14 cd14 ct14), sl14⟩) (c14 : PySem.W.codeIn K cd14 "fresh" = true) (k14 : PySem.W.keepIn K (.ref f14) = true)
    (a15 : PySem.W.nsIn K mainGlobals "written" = some (some (.ref f15))) (l15 : K.lookup f15 = some ⟨oc15, od15, .func (PySem.W.fnOf "written" "written" (defArgs s_written) (defBody s_written) (defScope s_written) .none kV15 dc15 pm15 an15 cd15 ct15), sl15⟩) (c15 : PySem.W.codeIn K cd15 "written" = true) (k15 : PySem.W.keepIn K (.ref f15) = true)
    (a16 : PySem.W.findIn K (.ref C0) "write" = some (some (.ref f16))) (i16 : PySem.W.isFn K (.ref f16) = true) (l16 : K.lookup f16 = some ⟨oc16, od16, .func (PySem.W.fnOf "write" "Hand.write" (defArgs s_Hand_write) (defBody s_Hand_write) (defScope s_Hand_write) .none kV16 dc16 pm16 an16 cd16 ct16), sl16⟩) (c16 : PySem.W.codeIn K cd16 "Hand.write" = true) (k16 : PySem.W.keepIn K (.ref f16) = true)
    (a17 : PySem.W.nsIn K mainGlobals "rubbed" = some (some (.ref f17))) (l17 : K.lookup f17 = some ⟨oc17, od17, .func (PySem.W.fnOf "rubbed" "rubbed" (defArgs s_rubbed) (defBody s_rubbed) (defScope s_rubbed) .none kV17 dc17 pm17 an17 cd17 ct17), sl17⟩) (c17 : PySem.W.codeIn K cd17 "rubbed" = true) (k17 : PySem.W.keepIn K (.ref f17) = true)
    (a18 : PySem.W.findIn K (.ref C0) "rub" = some (some (.ref f18))) (i18 : PySem.W.isFn K (.ref f18) = true) (l18 : K.lookup f18 = some ⟨oc18, od18, .func (PySem.W.fnOf "rub" "Hand.rub" (defArgs s_Hand_rub) (defBody s_Hand_rub) (defScope s_Hand_rub) .none kV18 dc18 pm18 an18 cd18 ct18), sl18⟩) (c18 : PySem.W.codeIn K cd18 "Hand.rub" = true) (k18 : PySem.W.keepIn K (.ref f18) = true)
    (a19 : PySem.W.nsIn K mainGlobals "told" = some (some (.ref f19))) (l19 : K.lookup f19 = some ⟨oc19, od19, .func (PySem.W.fnOf "told" "told" (defArgs s_told) (defBody s_told) (defScope s_told) .none kV19 dc19 pm19 an19 cd19 ct19), sl19⟩) (c19 : PySem.W.codeIn K cd19 "told" = true) (k19 : PySem.W.keepIn K (.ref f19) = true)
    (a20 : PySem.W.nsIn K mainGlobals "done" = some (some (.ref f20))) (l20 : K.lookup f20 = some ⟨oc20, od20, .func (PySem.W.fnOf "done" "done" (defArgs s_done) (defBody s_done) (defScope s_done) .none kV20 dc20 pm20 an20 cd20 ct20), sl20⟩) (c20 : PySem.W.codeIn K cd20 "done" = true) (k20 : PySem.W.keepIn K (.ref f20) = true)
    (a21 : PySem.W.nsIn K mainGlobals "story" = some (some (.ref f21))) (l21 : K.lookup f21 = some ⟨oc21, od21, .func (PySem.W.fnOf "story" "story" (defArgs s_story) (defBody s_story) (defScope s_story) .none kV21 dc21 pm21 an21 cd21 ct21), sl21⟩) (c21 : PySem.W.codeIn K cd21 "story" = true) (k21 : PySem.W.keepIn K (.ref f21) = true)
    (a22 : PySem.W.nsIn K mainGlobals "hands_after" = some (some (.ref f22))) (l22 : K.lookup f22 = some ⟨oc22, od22, .func (PySem.W.fnOf "hands_after" "hands_after" (defArgs s_hands_after) (defBody s_hands_after) (defScope s_hands_after) .none kV22 dc22 pm22 an22 cd22 ct22), sl22⟩) (c22 : PySem.W.codeIn K cd22 "hands_after" = true) (k22 : PySem.W.keepIn K (.ref f22) = true)
    (a23 : PySem.W.nsIn K mainGlobals "ends" = some (some (.ref f23))) (l23 : K.lookup f23 = some ⟨oc23, od23, .func (PySem.W.fnOf "ends" "ends" (defArgs s_ends) (defBody s_ends) (defScope s_ends) .none kV23 dc23 pm23 an23 cd23 ct23), sl23⟩) (c23 : PySem.W.codeIn K cd23 "ends" = true) (k23 : PySem.W.keepIn K (.ref f23) = true)
    (a24 : PySem.W.nsIn K mainGlobals "_law_holds" = some (some (.ref f24))) (l24 : K.lookup f24 = some ⟨oc24, od24, .func (PySem.W.fnOf "_law_holds" "_law_holds" (defArgs s_law_holds) (defBody s_law_holds) (defScope s_law_holds) .none kV24 dc24 pm24 an24 cd24 ct24), sl24⟩) (c24 : PySem.W.codeIn K cd24 "_law_holds" = true) (k24 : PySem.W.keepIn K (.ref f24) = true)
    (a25 : PySem.W.nsIn K mainGlobals "_law_marks" = some (some (.ref f25))) (l25 : K.lookup f25 = some ⟨oc25, od25, .func (PySem.W.fnOf "_law_marks" "_law_marks" (defArgs s_law_marks) (defBody s_law_marks) (defScope s_law_marks) .none kV25 dc25 pm25 an25 cd25 ct25), sl25⟩) (c25 : PySem.W.codeIn K cd25 "_law_marks" = true) (k25 : PySem.W.keepIn K (.ref f25) = true)
    (a26 : PySem.W.nsIn K mainGlobals "_law_drawn_deeds" = some (some (.ref f26))) (l26 : K.lookup f26 = some ⟨oc26, od26, .func (PySem.W.fnOf "_law_drawn_deeds" "_law_drawn_deeds" (defArgs s_law_drawn_deeds) (defBody s_law_drawn_deeds) (defScope s_law_drawn_deeds) .none kV26 dc26 pm26 an26 cd26 ct26), sl26⟩) (c26 : PySem.W.codeIn K cd26 "_law_drawn_deeds" = true) (k26 : PySem.W.keepIn K (.ref f26) = true)
    (a27 : PySem.W.nsIn K mainGlobals "_law_shares" = some (some (.ref f27))) (l27 : K.lookup f27 = some ⟨oc27, od27, .func (PySem.W.fnOf "_law_shares" "_law_shares" (defArgs s_law_shares) (defBody s_law_shares) (defScope s_law_shares) .none kV27 dc27 pm27 an27 cd27 ct27), sl27⟩) (c27 : PySem.W.codeIn K cd27 "_law_shares" = true) (k27 : PySem.W.keepIn K (.ref f27) = true)
    (a28 : PySem.W.nsIn K mainGlobals "_law_so" = some (some (.ref f28))) (l28 : K.lookup f28 = some ⟨oc28, od28, .func (PySem.W.fnOf "_law_so" "_law_so" (defArgs s_law_so) (defBody s_law_so) (defScope s_law_so) .none kV28 dc28 pm28 an28 cd28 ct28), sl28⟩) (c28 : PySem.W.codeIn K cd28 "_law_so" = true) (k28 : PySem.W.keepIn K (.ref f28) = true)
    (a29 : PySem.W.nsIn K mainGlobals "_law_whole" = some (some (.ref f29))) (l29 : K.lookup f29 = some ⟨oc29, od29, .func (PySem.W.fnOf "_law_whole" "_law_whole" (defArgs s_law_whole) (defBody s_law_whole) (defScope s_law_whole) .none kV29 dc29 pm29 an29 cd29 ct29), sl29⟩) (c29 : PySem.W.codeIn K cd29 "_law_whole" = true) (k29 : PySem.W.keepIn K (.ref f29) = true)
    (a30 : PySem.W.nsIn K mainGlobals "_law_is_tag" = some (some (.ref f30))) (l30 : K.lookup f30 = some ⟨oc30, od30, .func (PySem.W.fnOf "_law_is_tag" "_law_is_tag" (defArgs s_law_is_tag) (defBody s_law_is_tag) (defScope s_law_is_tag) .none kV30 dc30 pm30 an30 cd30 ct30), sl30⟩) (c30 : PySem.W.codeIn K cd30 "_law_is_tag" = true) (k30 : PySem.W.keepIn K (.ref f30) = true)
    (a31 : PySem.W.nsIn K mainGlobals "_law_is_sheet" = some (some (.ref f31))) (l31 : K.lookup f31 = some ⟨oc31, od31, .func (PySem.W.fnOf "_law_is_sheet" "_law_is_sheet" (defArgs s_law_is_sheet) (defBody s_law_is_sheet) (defScope s_law_is_sheet) .none kV31 dc31 pm31 an31 cd31 ct31), sl31⟩) (c31 : PySem.W.codeIn K cd31 "_law_is_sheet" = true) (k31 : PySem.W.keepIn K (.ref f31) = true)
    (a32 : PySem.W.nsIn K mainGlobals "_law_all_one" = some (some (.ref f32))) (l32 : K.lookup f32 = some ⟨oc32, od32, .func (PySem.W.fnOf "_law_all_one" "_law_all_one" (defArgs s_law_all_one) (defBody s_law_all_one) (defScope s_law_all_one) .none kV32 dc32 pm32 an32 cd32 ct32), sl32⟩) (c32 : PySem.W.codeIn K cd32 "_law_all_one" = true) (k32 : PySem.W.keepIn K (.ref f32) = true)
    (a33 : PySem.W.nsIn K mainGlobals "words" = some (some (.ref f33))) (l33 : K.lookup f33 = some ⟨oc33, od33, .func (PySem.W.fnOf "words" "words" (defArgs s_words) (defBody s_words) (defScope s_words) .none kV33 dc33 pm33 an33 cd33 ct33), sl33⟩) (c33 : PySem.W.codeIn K cd33 "words" = true) (k33 : PySem.W.keepIn K (.ref f33) = true)
    (a34 : PySem.W.nsIn K mainGlobals "texts" = some (some (.ref f34))) (l34 : K.lookup f34 = some ⟨oc34, od34, .func (PySem.W.fnOf "texts" "texts" (defArgs s_texts) (defBody s_texts) (defScope s_texts) .none kV34 dc34 pm34 an34 cd34 ct34), sl34⟩) (c34 : PySem.W.codeIn K cd34 "texts" = true) (k34 : PySem.W.keepIn K (.ref f34) = true)
    (a35 : PySem.W.nsIn K mainGlobals "_law_is_slip" = some (some (.ref f35))) (l35 : K.lookup f35 = some ⟨oc35, od35, .func (PySem.W.fnOf "_law_is_slip" "_law_is_slip" (defArgs s_law_is_slip) (defBody s_law_is_slip) (defScope s_law_is_slip) .none kV35 dc35 pm35 an35 cd35 ct35), sl35⟩) (c35 : PySem.W.codeIn K cd35 "_law_is_slip" = true) (k35 : PySem.W.keepIn K (.ref f35) = true)
    (a36 : PySem.W.nsIn K mainGlobals "_law_are_slips" = some (some (.ref f36))) (l36 : K.lookup f36 = some ⟨oc36, od36, .func (PySem.W.fnOf "_law_are_slips" "_law_are_slips" (defArgs s_law_are_slips) (defBody s_law_are_slips) (defScope s_law_are_slips) .none kV36 dc36 pm36 an36 cd36 ct36), sl36⟩) (c36 : PySem.W.codeIn K cd36 "_law_are_slips" = true) (k36 : PySem.W.keepIn K (.ref f36) = true)
    (a37 : PySem.W.nsIn K mainGlobals "_law_go" = some (some (.ref f37))) (l37 : K.lookup f37 = some ⟨oc37, od37, .func (PySem.W.fnOf "_law_go" "_law_go" (defArgs s_law_go) (defBody s_law_go) (defScope s_law_go) .none kV37 dc37 pm37 an37 cd37 ct37), sl37⟩) (c37 : PySem.W.codeIn K cd37 "_law_go" = true) (k37 : PySem.W.keepIn K (.ref f37) = true)
    (a38 : PySem.W.nsIn K mainGlobals "_law_at" = some (some (.ref f38))) (l38 : K.lookup f38 = some ⟨oc38, od38, .func (PySem.W.fnOf "_law_at" "_law_at" (defArgs s_law_at) (defBody s_law_at) (defScope s_law_at) .none kV38 dc38 pm38 an38 cd38 ct38), sl38⟩) (c38 : PySem.W.codeIn K cd38 "_law_at" = true) (k38 : PySem.W.keepIn K (.ref f38) = true)
    (a39 : PySem.W.nsIn K mainGlobals "_law_between" = some (some (.ref f39))) (l39 : K.lookup f39 = some ⟨oc39, od39, .func (PySem.W.fnOf "_law_between" "_law_between" (defArgs s_law_between) (defBody s_law_between) (defScope s_law_between) .none kV39 dc39 pm39 an39 cd39 ct39), sl39⟩) (c39 : PySem.W.codeIn K cd39 "_law_between" = true) (k39 : PySem.W.keepIn K (.ref f39) = true)
    (a40 : PySem.W.nsIn K mainGlobals "_law_room" = some (some (.ref f40))) (l40 : K.lookup f40 = some ⟨oc40, od40, .func (PySem.W.fnOf "_law_room" "_law_room" (defArgs s_law_room) (defBody s_law_room) (defScope s_law_room) .none kV40 dc40 pm40 an40 cd40 ct40), sl40⟩) (c40 : PySem.W.codeIn K cd40 "_law_room" = true) (k40 : PySem.W.keepIn K (.ref f40) = true)
    (a41 : PySem.W.nsIn K mainGlobals "law" = some (some (.ref f41))) (l41 : K.lookup f41 = some ⟨oc41, od41, .func (PySem.W.fnOf "law" "law" (defArgs s_law) (defBody s_law) (defScope s_law) .none kV41 dc41 pm41 an41 cd41 ct41), sl41⟩) (c41 : PySem.W.codeIn K cd41 "law" = true) (k41 : PySem.W.keepIn K (.ref f41) = true)
    (pg : PySem.W.plainGet K C0 Str.empty = true) (hd : PySem.W.hasDictIn K C0 = true) (po : PySem.W.plainOver K C0 = true) (sa : PySem.W.findIn K (.ref C0) "__setattr__" = some (some (.builtin "object.__setattr__"))) (mk : PySem.W.makesIn K C0 = true) (kc : PySem.W.keepIn K (.ref C0) = true)
    (n1 : PySem.W.findIn K (.ref C0) "number" = some none) (n2 : PySem.W.findIn K (.ref C0) "rows" = some none) (n3 : PySem.W.findIn K (.ref C0) "slips" = some none)
    (z_bool : PySem.W.nsIn K mainGlobals "bool" = some none)
    (z_dict : PySem.W.nsIn K mainGlobals "dict" = some none)
    (z_enumerate : PySem.W.nsIn K mainGlobals "enumerate" = some none)
    (z_int : PySem.W.nsIn K mainGlobals "int" = some none)
    (z_isinstance : PySem.W.nsIn K mainGlobals "isinstance" = some none)
    (z_len : PySem.W.nsIn K mainGlobals "len" = some none)
    (z_list : PySem.W.nsIn K mainGlobals "list" = some none)
    (z_max : PySem.W.nsIn K mainGlobals "max" = some none)
    (z_range : PySem.W.nsIn K mainGlobals "range" = some none)
    (z_str : PySem.W.nsIn K mainGlobals "str" = some none)
    (z_tuple : PySem.W.nsIn K mainGlobals "tuple" = some none)
    {A_BEGINNING : Addr} {O_BEGINNING : Obj} (y_BEGINNING : PySem.W.nsIn K mainGlobals "BEGINNING" = some (some (.ref A_BEGINNING))) (x_BEGINNING : K.lookup A_BEGINNING = some O_BEGINNING) (v_BEGINNING : isTagObj O_BEGINNING 0 0 = true)
    {E_QuillError : Addr} (eC_QuillError : PySem.W.nsIn K mainGlobals "QuillError" = some (some (.ref E_QuillError)))
    {E_NotYet : Addr} (eC_NotYet : PySem.W.nsIn K mainGlobals "NotYet" = some (some (.ref E_NotYet)))
    {E_Clash : Addr} (eC_Clash : PySem.W.nsIn K mainGlobals "Clash" = some (some (.ref E_Clash)))
    {E_Backwards : Addr} (eC_Backwards : PySem.W.nsIn K mainGlobals "Backwards" = some (some (.ref E_Backwards)))
    (eq_NotYet : PySem.W.excIn K E_NotYet veTail "ValueError.__new__" = true)
    (eq_Clash : PySem.W.excIn K E_Clash veTail "ValueError.__new__" = true)
    (eq_Backwards : PySem.W.excIn K E_Backwards veTail "ValueError.__new__" = true)
    (em_QuillError_QuillError : PySem.W.exmOne K (.ref E_QuillError) (.ref E_QuillError) = some true)
    (em_NotYet_QuillError : PySem.W.exmOne K (.ref E_NotYet) (.ref E_QuillError) = some true)
    (em_Clash_QuillError : PySem.W.exmOne K (.ref E_Clash) (.ref E_QuillError) = some true)
    (em_Backwards_QuillError : PySem.W.exmOne K (.ref E_Backwards) (.ref E_QuillError) = some true)
    : ∃ fd : FuncData, (∀ (s : Shared) (v : Value), BindsTo s fd ⟨[v], []⟩ [("_law_script", v)]) ∧ ∀ base : Heap, K.In base → base.Ns mainGlobals mg → FnOk l.prog w K mg base CX0 12 fa fd ["_law_script"] (lSp K spLawX) := by
  have e := hfa.symm.trans (PySem.W.mg_of X G a41)
  cases e
  have T : Txt K mg := ⟨PySem.W.mg_none_of X G z_bool, PySem.W.mg_none_of X G z_dict, PySem.W.mg_none_of X G z_enumerate, PySem.W.mg_none_of X G z_int, PySem.W.mg_none_of X G z_isinstance, PySem.W.mg_none_of X G z_len, PySem.W.mg_none_of X G z_list, PySem.W.mg_none_of X G z_max, PySem.W.mg_none_of X G z_range, PySem.W.mg_none_of X G z_str, PySem.W.mg_none_of X G z_tuple, ⟨A_BEGINNING, PySem.W.mg_of X G y_BEGINNING, den_tagObj x_BEGINNING v_BEGINNING⟩⟩
  have HC : HandCls K C0 := ⟨aC, ⟨pg, hd, po, sa⟩, n1, n2, n3⟩
  have XC : Exc K mg := ⟨⟨E_NotYet, PySem.W.mg_of X G eC_NotYet, eq_NotYet⟩,
    ⟨E_Clash, PySem.W.mg_of X G eC_Clash, eq_Clash⟩,
    ⟨E_Backwards, PySem.W.mg_of X G eC_Backwards, eq_Backwards⟩,
    catch_of (PySem.W.mg_of X G eC_QuillError) ⟨⟨E_QuillError, PySem.W.mg_of X G eC_QuillError, em_QuillError_QuillError⟩, ⟨E_NotYet, PySem.W.mg_of X G eC_NotYet, em_NotYet_QuillError⟩, ⟨E_Clash, PySem.W.mg_of X G eC_Clash, em_Clash_QuillError⟩, ⟨E_Backwards, PySem.W.mg_of X G eC_Backwards, em_Backwards_QuillError⟩, trivial⟩⟩
  have F0 := fun_mk (st := s_Hand_init) l0 c0 k0
  have b0 := F0.binds (ps := ["self", "number"]) (by intro _ _ _ _ _ _ us hl; revert hl; revert us; refine len_us2 ?_; intros; rfl)
  have F1 := fun_mk (st := s_begun) l1 c1 k1
  have b1 := F1.binds (ps := ["many"]) (by intro _ _ _ _ _ _ us hl; revert hl; revert us; refine len_us1 ?_; intros; rfl)
  have F2 := fun_mk (st := s_place_or_none) l2 c2 k2
  have b2 := F2.binds (ps := ["rows", "tag"]) (by intro _ _ _ _ _ _ us hl; revert hl; revert us; refine len_us2 ?_; intros; rfl)
  have F3 := fun_mk (st := s_place_of) l3 c3 k3
  have b3 := F3.binds (ps := ["rows", "tag"]) (by intro _ _ _ _ _ _ us hl; revert hl; revert us; refine len_us2 ?_; intros; rfl)
  have F4 := fun_mk (st := s_with_cut) l4 c4 k4
  have b4 := F4.binds (ps := ["rows", "tag"]) (by intro _ _ _ _ _ _ us hl; revert hl; revert us; refine len_us2 ?_; intros; rfl)
  have F5 := fun_mk (st := s_place_behind) l5 c5 k5
  have b5 := F5.binds (ps := ["rows", "behind"]) (by intro _ _ _ _ _ _ us hl; revert hl; revert us; refine len_us2 ?_; intros; rfl)
  have F6 := fun_mk (st := s_later) l6 c6 k6
  have b6 := F6.binds (ps := ["one", "other"]) (by intro _ _ _ _ _ _ us hl; revert hl; revert us; refine len_us2 ?_; intros; rfl)
  have F7 := fun_mk (st := s_past_later) l7 c7 k7
  have b7 := F7.binds (ps := ["rows", "place", "tag"]) (by intro _ _ _ _ _ _ us hl; revert hl; revert us; refine len_us3 ?_; intros; rfl)
  have F8 := fun_mk (st := s_with_put) l8 c8 k8
  have b8 := F8.binds (ps := ["rows", "tag", "behind", "sign"]) (by intro _ _ _ _ _ _ us hl; revert hl; revert us; refine len_us4 ?_; intros; rfl)
  have F9 := fun_mk (st := s_heard) l9 c9 k9
  have b9 := F9.binds (ps := ["rows", "slip"]) (by intro _ _ _ _ _ _ us hl; revert hl; revert us; refine len_us2 ?_; intros; rfl)
  have F10 := fun_mk (st := s_Hand_hear) l10 c10 k10
  have b10 := F10.binds (ps := ["self", "slip"]) (by intro _ _ _ _ _ _ us hl; revert hl; revert us; refine len_us2 ?_; intros; rfl)
  have F11 := fun_mk (st := s_Hand_hear_all) l11 c11 k11
  have b11 := F11.binds (ps := ["self", "slips"]) (by intro _ _ _ _ _ _ us hl; revert hl; revert us; refine len_us2 ?_; intros; rfl)
  have F12 := fun_mk (st := s_standing) l12 c12 k12
  have b12 := F12.binds (ps := ["rows"]) (by intro _ _ _ _ _ _ us hl; revert hl; revert us; refine len_us1 ?_; intros; rfl)
  have F13 := fun_mk (st := s_just_ahead) l13 c13 k13
  have b13 := F13.binds (ps := ["rows", "place"]) (by intro _ _ _ _ _ _ us hl; revert hl; revert us; refine len_us2 ?_; intros; rfl)
  have F14 := fun_mk (st := s_fresh) l14 c14 k14
  have b14 := F14.binds (ps := ["rows", "number"]) (by intro _ _ _ _ _ _ us hl; revert hl; revert us; refine len_us2 ?_; intros; rfl)
  have F15 := fun_mk (st := s_written) l15 c15 k15
  have b15 := F15.binds (ps := ["rows", "number", "place", "signs"]) (by intro _ _ _ _ _ _ us hl; revert hl; revert us; refine len_us4 ?_; intros; rfl)
  have F16 := fun_mk (st := s_Hand_write) l16 c16 k16
  have b16 := F16.binds (ps := ["self", "place", "signs"]) (by intro _ _ _ _ _ _ us hl; revert hl; revert us; refine len_us3 ?_; intros; rfl)
  have F17 := fun_mk (st := s_rubbed) l17 c17 k17
  have b17 := F17.binds (ps := ["rows", "place", "many"]) (by intro _ _ _ _ _ _ us hl; revert hl; revert us; refine len_us3 ?_; intros; rfl)
  have F18 := fun_mk (st := s_Hand_rub) l18 c18 k18
  have b18 := F18.binds (ps := ["self", "place", "many"]) (by intro _ _ _ _ _ _ us hl; revert hl; revert us; refine len_us3 ?_; intros; rfl)
  have F19 := fun_mk (st := s_told) l19 c19 k19
  have b19 := F19.binds (ps := ["giver", "taker", "which"]) (by intro _ _ _ _ _ _ us hl; revert hl; revert us; refine len_us3 ?_; intros; rfl)
  have F20 := fun_mk (st := s_done) l20 c20 k20
  have b20 := F20.binds (ps := ["hands", "deed"]) (by intro _ _ _ _ _ _ us hl; revert hl; revert us; refine len_us2 ?_; intros; rfl)
  have F21 := fun_mk (st := s_story) l21 c21 k21
  have b21 := F21.binds (ps := ["many", "deeds"]) (by intro _ _ _ _ _ _ us hl; revert hl; revert us; refine len_us2 ?_; intros; rfl)
  have F22 := fun_mk (st := s_hands_after) l22 c22 k22
  have b22 := F22.binds (ps := ["many", "deeds"]) (by intro _ _ _ _ _ _ us hl; revert hl; revert us; refine len_us2 ?_; intros; rfl)
  have F23 := fun_mk (st := s_ends) l23 c23 k23
  have b23 := F23.binds (ps := ["many", "deeds"]) (by intro _ _ _ _ _ _ us hl; revert hl; revert us; refine len_us2 ?_; intros; rfl)
  have F24 := fun_mk (st := s_law_holds) l24 c24 k24
  have b24 := F24.binds (ps := ["_law_rows", "_law_puts", "_law_cuts"]) (by intro _ _ _ _ _ _ us hl; revert hl; revert us; refine len_us3 ?_; intros; rfl)
  have F25 := fun_mk (st := s_law_marks) l25 c25 k25
  have b25 := F25.binds (ps := []) (by intro _ _ _ _ _ _ us hl; revert hl; revert us; refine len_us0 ?_; rfl)
  have F26 := fun_mk (st := s_law_drawn_deeds) l26 c26 k26
  have b26 := F26.binds (ps := ["_law_cells", "_law_many"]) (by intro _ _ _ _ _ _ us hl; revert hl; revert us; refine len_us2 ?_; intros; rfl)
  have F27 := fun_mk (st := s_law_shares) l27 c27 k27
  have b27 := F27.binds (ps := ["_law_many"]) (by intro _ _ _ _ _ _ us hl; revert hl; revert us; refine len_us1 ?_; intros; rfl)
  have F28 := fun_mk (st := s_law_so) l28 c28 k28
  have b28 := F28.binds (ps := ["_law_found", "_law_meant"]) (by intro _ _ _ _ _ _ us hl; revert hl; revert us; refine len_us2 ?_; intros; rfl)
  have F29 := fun_mk (st := s_law_whole) l29 c29 k29
  have b29 := F29.binds (ps := ["_law_found"]) (by intro _ _ _ _ _ _ us hl; revert hl; revert us; refine len_us1 ?_; intros; rfl)
  have F30 := fun_mk (st := s_law_is_tag) l30 c30 k30
  have b30 := F30.binds (ps := ["_law_found"]) (by intro _ _ _ _ _ _ us hl; revert hl; revert us; refine len_us1 ?_; intros; rfl)
  have F31 := fun_mk (st := s_law_is_sheet) l31 c31 k31
  have b31 := F31.binds (ps := ["_law_found"]) (by intro _ _ _ _ _ _ us hl; revert hl; revert us; refine len_us1 ?_; intros; rfl)
  have F32 := fun_mk (st := s_law_all_one) l32 c32 k32
  have b32 := F32.binds (ps := ["_law_sheets", "_law_lines", "_law_many"]) (by intro _ _ _ _ _ _ us hl; revert hl; revert us; refine len_us3 ?_; intros; rfl)
  have F33 := fun_mk (st := s_words) l33 c33 k33
  have b33 := F33.binds (ps := ["rows"]) (by intro _ _ _ _ _ _ us hl; revert hl; revert us; refine len_us1 ?_; intros; rfl)
  have F34 := fun_mk (st := s_texts) l34 c34 k34
  have b34 := F34.binds (ps := ["many", "deeds"]) (by intro _ _ _ _ _ _ us hl; revert hl; revert us; refine len_us2 ?_; intros; rfl)
  have F35 := fun_mk (st := s_law_is_slip) l35 c35 k35
  have b35 := F35.binds (ps := ["_law_slip"]) (by intro _ _ _ _ _ _ us hl; revert hl; revert us; refine len_us1 ?_; intros; rfl)
  have F36 := fun_mk (st := s_law_are_slips) l36 c36 k36
  have b36 := F36.binds (ps := ["_law_found"]) (by intro _ _ _ _ _ _ us hl; revert hl; revert us; refine len_us1 ?_; intros; rfl)
  have F37 := fun_mk (st := s_law_go) l37 c37 k37
  have b37 := F37.binds (ps := ["_law_told", "_law_deed"]) (by intro _ _ _ _ _ _ us hl; revert hl; revert us; refine len_us2 ?_; intros; rfl)
  have F38 := fun_mk (st := s_law_at) l38 c38 k38
  have b38 := F38.binds (ps := ["_law_script", "_law_k"]) (by intro _ _ _ _ _ _ us hl; revert hl; revert us; refine len_us2 ?_; intros; rfl)
  have F39 := fun_mk (st := s_law_between) l39 c39 k39
  have b39 := F39.binds (ps := ["_law_rows", "_law_one", "_law_two"]) (by intro _ _ _ _ _ _ us hl; revert hl; revert us; refine len_us3 ?_; intros; rfl)
  have F40 := fun_mk (st := s_law_room) l40 c40 k40
  have b40 := F40.binds (ps := ["_law_script", "_law_most", "_law_bound"]) (by intro _ _ _ _ _ _ us hl; revert hl; revert us; refine len_us3 ?_; intros; rfl)
  have F41 := fun_mk (st := s_law) l41 c41 k41
  refine ⟨PySem.W.fnOf "law" "law" (defArgs s_law) (defBody s_law) (defScope s_law) .none kV41 dc41 pm41 an41 cd41 ct41, fun s v => .of_eq rfl, fun base _ _ => ?_⟩
  have G_Hand_init : HasI l.prog w K mg base 1 C0 "Hand" ["self", "number"] sp_Hand_init := ⟨_, _, fn_okQ F0 sc_Hand_init ln_Hand_init (fun cdv A outer s H E hr => lk_Hand_init T HC  hr) ok_Hand_init, ⟨mk, a0, i0, kc⟩, PySem.W.mg_of X G aC, b0⟩
  have G_begun : Has l.prog w K mg base 3 "begun" ["many"] sp_begun := fn_has F1 (PySem.W.mg_of X G a1) b1 sc_begun ln_begun (fun cdv A outer s H E hr => lk_begun T HC G_Hand_init hr) ok_begun
  have G_place_or_none : Has l.prog w K mg base 1 "place_or_none" ["rows", "tag"] sp_place_or_none := fn_has F2 (PySem.W.mg_of X G a2) b2 sc_place_or_none ln_place_or_none (fun cdv A outer s H E hr => lk_place_or_none T  hr) ok_place_or_none
  have G_place_of : Has l.prog w K mg base 2 "place_of" ["rows", "tag"] sp_place_of := fn_has F3 (PySem.W.mg_of X G a3) b3 sc_place_of ln_place_of (fun cdv A outer s H E hr => lk_place_of T G_place_or_none hr) ok_place_of
  have GX_place_of : HasX l.prog w K mg base 2 "place_of" ["rows", "tag"] spx_place_of := fnx_has F3 (PySem.W.mg_of X G a3) b3 sc_place_of lnx_place_of (fun cdv A outer s H E hr => lx_place_of T XC G_place_or_none hr) okx_place_of
  have G_with_cut : Has l.prog w K mg base 3 "with_cut" ["rows", "tag"] sp_with_cut := fn_has F4 (PySem.W.mg_of X G a4) b4 sc_with_cut ln_with_cut (fun cdv A outer s H E hr => lk_with_cut T G_place_of hr) ok_with_cut
  have GX_with_cut : HasX l.prog w K mg base 3 "with_cut" ["rows", "tag"] spx_with_cut := fnx_has F4 (PySem.W.mg_of X G a4) b4 sc_with_cut lnx_with_cut (fun cdv A outer s H E hr => lx_with_cut T GX_place_of hr) okx_with_cut
  have G_place_behind : Has l.prog w K mg base 3 "place_behind" ["rows", "behind"] sp_place_behind := fn_has F5 (PySem.W.mg_of X G a5) b5 sc_place_behind ln_place_behind (fun cdv A outer s H E hr => lk_place_behind T G_place_of hr) ok_place_behind
  have GX_place_behind : HasX l.prog w K mg base 3 "place_behind" ["rows", "behind"] spx_place_behind := fnx_has F5 (PySem.W.mg_of X G a5) b5 sc_place_behind lnx_place_behind (fun cdv A outer s H E hr => lx_place_behind T GX_place_of hr) okx_place_behind
  have G_later : Has l.prog w K mg base 1 "later" ["one", "other"] sp_later := fn_has F6 (PySem.W.mg_of X G a6) b6 sc_later ln_later (fun cdv A outer s H E hr => lk_later T  hr) ok_later
  have G_past_later : Has l.prog w K mg base 2 "past_later" ["rows", "place", "tag"] sp_past_later := fn_has F7 (PySem.W.mg_of X G a7) b7 sc_past_later ln_past_later (fun cdv A outer s H E hr => lk_past_later T G_later hr) ok_past_later
  have G_with_put : Has l.prog w K mg base 4 "with_put" ["rows", "tag", "behind", "sign"] sp_with_put := fn_has F8 (PySem.W.mg_of X G a8) b8 sc_with_put ln_with_put (fun cdv A outer s H E hr => lk_with_put T G_place_or_none G_place_behind G_later G_past_later hr) ok_with_put
  have GX_with_put : HasX l.prog w K mg base 4 "with_put" ["rows", "tag", "behind", "sign"] spx_with_put := fnx_has F8 (PySem.W.mg_of X G a8) b8 sc_with_put lnx_with_put (fun cdv A outer s H E hr => lx_with_put T XC G_place_or_none G_place_behind G_later GX_place_behind hr) okx_with_put
  have G_heard : Has l.prog w K mg base 5 "heard" ["rows", "slip"] sp_heard := fn_has F9 (PySem.W.mg_of X G a9) b9 sc_heard ln_heard (fun cdv A outer s H E hr => lk_heard T G_with_put G_with_cut hr) ok_heard
  have GX_heard : HasX l.prog w K mg base 5 "heard" ["rows", "slip"] spx_heard := fnx_has F9 (PySem.W.mg_of X G a9) b9 sc_heard lnx_heard (fun cdv A outer s H E hr => lx_heard T G_with_put GX_with_put GX_with_cut hr) okx_heard
  have G_Hand_hear : HasM l.prog w K mg base 6 C0 "hear" ["self", "slip"] sp_Hand_hear := ⟨_, _, fn_okQ F10 sc_Hand_hear ln_Hand_hear (fun cdv A outer s H E hr => lk_Hand_hear T HC G_heard hr) ok_Hand_hear, ⟨a10, i10, k10⟩, b10⟩
  have GX_Hand_hear : HasXM l.prog w K mg base 6 C0 "hear" ["self", "slip"] spx_Hand_hear := ⟨_, _, fnx_ok F10 sc_Hand_hear lnx_Hand_hear (fun cdv A outer s H E hr => lx_Hand_hear T HC GX_heard hr) okx_Hand_hear, ⟨a10, i10, k10⟩, b10⟩
  have G_Hand_hear_all : HasM l.prog w K mg base 7 C0 "hear_all" ["self", "slips"] sp_Hand_hear_all := ⟨_, _, fn_okQ F11 sc_Hand_hear_all ln_Hand_hear_all (fun cdv A outer s H E hr => lk_Hand_hear_all T HC G_Hand_hear hr) ok_Hand_hear_all, ⟨a11, i11, k11⟩, b11⟩
  have G_standing : Has l.prog w K mg base 1 "standing" ["rows"] sp_standing := fn_has F12 (PySem.W.mg_of X G a12) b12 sc_standing ln_standing (fun cdv A outer s H E hr => lk_standing T  hr) ok_standing
  have G_just_ahead : Has l.prog w K mg base 2 "just_ahead" ["rows", "place"] sp_just_ahead := fn_has F13 (PySem.W.mg_of X G a13) b13 sc_just_ahead ln_just_ahead (fun cdv A outer s H E hr => lk_just_ahead T G_standing hr) ok_just_ahead
  have G_fresh : Has l.prog w K mg base 1 "fresh" ["rows", "number"] sp_fresh := fn_has F14 (PySem.W.mg_of X G a14) b14 sc_fresh ln_fresh (fun cdv A outer s H E hr => lk_fresh T  hr) ok_fresh
  have G_written : Has l.prog w K mg base 3 "written" ["rows", "number", "place", "signs"] sp_written := fn_has F15 (PySem.W.mg_of X G a15) b15 sc_written ln_written (fun cdv A outer s H E hr => lk_written T G_just_ahead G_fresh hr) ok_written
  have G_Hand_write : HasM l.prog w K mg base 8 C0 "write" ["self", "place", "signs"] sp_Hand_write := ⟨_, _, fn_okQ F16 sc_Hand_write ln_Hand_write (fun cdv A outer s H E hr => lk_Hand_write T HC G_written G_Hand_hear_all hr) ok_Hand_write, ⟨a16, i16, k16⟩, b16⟩
  have G_rubbed : Has l.prog w K mg base 2 "rubbed" ["rows", "place", "many"] sp_rubbed := fn_has F17 (PySem.W.mg_of X G a17) b17 sc_rubbed ln_rubbed (fun cdv A outer s H E hr => lk_rubbed T G_standing hr) ok_rubbed
  have G_Hand_rub : HasM l.prog w K mg base 8 C0 "rub" ["self", "place", "many"] sp_Hand_rub := ⟨_, _, fn_okQ F18 sc_Hand_rub ln_Hand_rub (fun cdv A outer s H E hr => lk_Hand_rub T HC G_rubbed G_Hand_hear_all hr) ok_Hand_rub, ⟨a18, i18, k18⟩, b18⟩
  have G_told : Has l.prog w K mg base 7 "told" ["giver", "taker", "which"] sp_told := fn_has F19 (PySem.W.mg_of X G a19) b19 sc_told ln_told (fun cdv A outer s H E hr => lk_told T HC XC G_Hand_hear GX_Hand_hear hr) ok_told
  have G_done : Has l.prog w K mg base 9 "done" ["hands", "deed"] sp_done := fn_has F20 (PySem.W.mg_of X G a20) b20 sc_done ln_done (fun cdv A outer s H E hr => lk_done T HC G_Hand_write G_Hand_rub G_told G_Hand_hear_all hr) ok_done
  have G_story : Has l.prog w K mg base 10 "story" ["many", "deeds"] sp_story := fn_has F21 (PySem.W.mg_of X G a21) b21 sc_story ln_story (fun cdv A outer s H E hr => lk_story T G_begun G_done hr) ok_story
  have G_hands_after : Has l.prog w K mg base 10 "hands_after" ["many", "deeds"] sp_hands_after := fn_has F22 (PySem.W.mg_of X G a22) b22 sc_hands_after ln_hands_after (fun cdv A outer s H E hr => lk_hands_after T G_begun G_done hr) ok_hands_after
  have G_ends : Has l.prog w K mg base 11 "ends" ["many", "deeds"] sp_ends := fn_has F23 (PySem.W.mg_of X G a23) b23 sc_ends ln_ends (fun cdv A outer s H E hr => lk_ends T HC G_hands_after hr) ok_ends
  have G_law_holds : Has l.prog w K mg base 1 "_law_holds" ["_law_rows", "_law_puts", "_law_cuts"] sp_law_holds := fn_has F24 (PySem.W.mg_of X G a24) b24 sc_law_holds ln_law_holds (fun cdv A outer s H E hr => lk_law_holds T  hr) ok_law_holds
  have G_law_marks : Has l.prog w K mg base 1 "_law_marks" [] sp_law_marks := fn_has F25 (PySem.W.mg_of X G a25) b25 sc_law_marks ln_law_marks (fun cdv A outer s H E hr => lk_law_marks T  hr) ok_law_marks
  have G_law_drawn_deeds : Has l.prog w K mg base 2 "_law_drawn_deeds" ["_law_cells", "_law_many"] sp_law_drawn_deeds := fn_has F26 (PySem.W.mg_of X G a26) b26 sc_law_drawn_deeds ln_law_drawn_deeds (fun cdv A outer s H E hr => lk_law_drawn_deeds T G_law_marks hr) ok_law_drawn_deeds
  have G_law_shares : Has l.prog w K mg base 1 "_law_shares" ["_law_many"] sp_law_shares := fn_has F27 (PySem.W.mg_of X G a27) b27 sc_law_shares ln_law_shares (fun cdv A outer s H E hr => lk_law_shares T  hr) ok_law_shares
  have G_law_so_0 : Has l.prog w K mg base 0 "_law_so" ["_law_found", "_law_meant"] (sp_law_so 0) := ⟨_, _, ⟨fun vs H Q E h => (by obtain ⟨_, _, _, _, _, h, _⟩ := h; exact h.elim), fun A outer s H args us vs Q E _ _ _ _ h => (by obtain ⟨_, _, _, _, _, h, _⟩ := h; exact h.elim)⟩, PySem.W.mg_of X G a28, F28.kp, b28⟩
  have G_law_so_1 : Has l.prog w K mg base 1 "_law_so" ["_law_found", "_law_meant"] (sp_law_so 1) := fn_has F28 (PySem.W.mg_of X G a28) b28 sc_law_so (ln_law_so 1) (fun cdv A outer s H E hr => lk_law_so T G_law_so_0 hr) (ok_law_so 0)
  have G_law_so_2 : Has l.prog w K mg base 2 "_law_so" ["_law_found", "_law_meant"] (sp_law_so 2) := fn_has F28 (PySem.W.mg_of X G a28) b28 sc_law_so (ln_law_so 2) (fun cdv A outer s H E hr => lk_law_so T G_law_so_1 hr) (ok_law_so 1)
  have G_law_so_3 : Has l.prog w K mg base 3 "_law_so" ["_law_found", "_law_meant"] (sp_law_so 3) := fn_has F28 (PySem.W.mg_of X G a28) b28 sc_law_so (ln_law_so 3) (fun cdv A outer s H E hr => lk_law_so T G_law_so_2 hr) (ok_law_so 2)
  have G_law_so_4 : Has l.prog w K mg base 4 "_law_so" ["_law_found", "_law_meant"] (sp_law_so 4) := fn_has F28 (PySem.W.mg_of X G a28) b28 sc_law_so (ln_law_so 4) (fun cdv A outer s H E hr => lk_law_so T G_law_so_3 hr) (ok_law_so 3)
  have G_law_so := G_law_so_4
  have G_law_whole : Has l.prog w K mg base 1 "_law_whole" ["_law_found"] sp_law_whole := fn_has F29 (PySem.W.mg_of X G a29) b29 sc_law_whole ln_law_whole (fun cdv A outer s H E hr => lk_law_whole T  hr) ok_law_whole
  have G_law_is_tag : Has l.prog w K mg base 2 "_law_is_tag" ["_law_found"] sp_law_is_tag := fn_has F30 (PySem.W.mg_of X G a30) b30 sc_law_is_tag ln_law_is_tag (fun cdv A outer s H E hr => lk_law_is_tag T G_law_whole hr) ok_law_is_tag
  have G_law_is_sheet : Has l.prog w K mg base 3 "_law_is_sheet" ["_law_found"] sp_law_is_sheet := fn_has F31 (PySem.W.mg_of X G a31) b31 sc_law_is_sheet ln_law_is_sheet (fun cdv A outer s H E hr => lk_law_is_sheet T G_law_is_tag hr) ok_law_is_sheet
  have G_law_all_one : Has l.prog w K mg base 5 "_law_all_one" ["_law_sheets", "_law_lines", "_law_many"] sp_law_all_one := fn_has F32 (PySem.W.mg_of X G a32) b32 sc_law_all_one ln_law_all_one (fun cdv A outer s H E hr => lk_law_all_one T G_law_is_sheet G_law_so hr) ok_law_all_one
  have G_words : Has l.prog w K mg base 1 "words" ["rows"] sp_words := fn_has F33 (PySem.W.mg_of X G a33) b33 sc_words ln_words (fun cdv A outer s H E hr => lk_words T  hr) ok_words
  have G_texts : Has l.prog w K mg base 11 "texts" ["many", "deeds"] sp_texts := fn_has F34 (PySem.W.mg_of X G a34) b34 sc_texts ln_texts (fun cdv A outer s H E hr => lk_texts T HC G_hands_after G_words hr) ok_texts
  have G_law_is_slip : Has l.prog w K mg base 3 "_law_is_slip" ["_law_slip"] sp_law_is_slip := fn_has F35 (PySem.W.mg_of X G a35) b35 sc_law_is_slip ln_law_is_slip (fun cdv A outer s H E hr => lk_law_is_slip T G_law_is_tag hr) ok_law_is_slip
  have G_law_are_slips : Has l.prog w K mg base 4 "_law_are_slips" ["_law_found"] sp_law_are_slips := fn_has F36 (PySem.W.mg_of X G a36) b36 sc_law_are_slips ln_law_are_slips (fun cdv A outer s H E hr => lk_law_are_slips T G_law_is_slip hr) ok_law_are_slips
  have G_law_go : Has l.prog w K mg base 5 "_law_go" ["_law_told", "_law_deed"] sp_law_go := fn_has F37 (PySem.W.mg_of X G a37) b37 sc_law_go ln_law_go (fun cdv A outer s H E hr => lk_law_go T G_law_are_slips hr) ok_law_go
  have G_law_at : Has l.prog w K mg base 1 "_law_at" ["_law_script", "_law_k"] sp_law_at := fn_has F38 (PySem.W.mg_of X G a38) b38 sc_law_at ln_law_at (fun cdv A outer s H E hr => lk_law_at T  hr) ok_law_at
  have G_law_between : Has l.prog w K mg base 1 "_law_between" ["_law_rows", "_law_one", "_law_two"] sp_law_between := fn_has F39 (PySem.W.mg_of X G a39) b39 sc_law_between ln_law_between (fun cdv A outer s H E hr => lk_law_between T  hr) ok_law_between
  have G_law_room : Has l.prog w K mg base 1 "_law_room" ["_law_script", "_law_most", "_law_bound"] sp_law_room := fn_has F40 (PySem.W.mg_of X G a40) b40 sc_law_room ln_law_room (fun cdv A outer s H E hr => lk_law_room T  hr) ok_law_room
  exact fn_ok F41 sc_law spLawX_len (fun cdv A outer s H E hr => lk_law T G_law_at G_law_drawn_deeds G_law_room G_law_shares G_story G_ends G_law_all_one G_texts G_law_go G_law_between G_law_holds hr) ok_law
end Lk
noncomputable def PySem.W.Fast.tw16568803011801702848 : Unit := ()
noncomputable def PySem.W.Fast.tw2274147918721851628 : Unit := ()
noncomputable def PySem.W.Fast.tw7802040610819342666 : Unit := ()
open PySem PySem.W PyProof.Rows
set_option maxRecDepth 100000 in
set_option maxHeartbeats 0 in
theorem PySem.Challenge.cw_manyquills_k14_whole_one_text_holds : PySem.Challenge.rw_manyquills_k14_whole_one_text.Holds := by
  w_on; o_law; k_head; (case hw => w_witness2)
  k_fill
  refine L2.walk_of (l := PySem.Challenge.rw_manyquills_k14_whole_one_text) (n := 63) (k := 12) (x := "_law_script") (CX := fun _ => L2.CX0) (sp := fun w => MQ.lSp _ MQ.spLawX) rfl (by decide) rfl ⟨rfl, by decide, by decide⟩ (fun w h Y => PySem.W.kIn_of Y) ?F (fun w H a ns hl hO hS => MQ.law_startX hl hO hS) (fun _ _ _ _ _ z => z)
  case F =>
    intro w mg fa h KX G hmg
    refine' Lk.all_mk KX G hmg ?aC ?a0 ?i0 ?l0 ?c0 ?k0 ?a1 ?l1 ?c1 ?k1 ?a2 ?l2 ?c2 ?k2 ?a3 ?l3 ?c3 ?k3 ?a4 ?l4 ?c4 ?k4 ?a5 ?l5 ?c5 ?k5 ?a6 ?l6 ?c6 ?k6 ?a7 ?l7 ?c7 ?k7 ?a8 ?l8 ?c8 ?k8 ?a9 ?l9 ?c9 ?k9 ?a10 ?i10 ?l10 ?c10 ?k10 ?a11 ?i11 ?l11 ?c11 ?k11 ?a12 ?l12 ?c12 ?k12 ?a13 ?l13 ?c13 ?k13 ?a14 ?l14 ?c14 ?k14 ?a15 ?l15 ?c15 ?k15 ?a16 ?i16 ?l16 ?c16 ?k16 ?a17 ?l17 ?c17 ?k17 ?a18 ?i18 ?l18 ?c18 ?k18 ?a19 ?l19 ?c19 ?k19 ?a20 ?l20 ?c20 ?k20 ?a21 ?l21 ?c21 ?k21 ?a22 ?l22 ?c22 ?k22 ?a23 ?l23 ?c23 ?k23 ?a24 ?l24 ?c24 ?k24 ?a25 ?l25 ?c25 ?k25 ?a26 ?l26 ?c26 ?k26 ?a27 ?l27 ?c27 ?k27 ?a28 ?l28 ?c28 ?k28 ?a29 ?l29 ?c29 ?k29 ?a30 ?l30 ?c30 ?k30 ?a31 ?l31 ?c31 ?k31 ?a32 ?l32 ?c32 ?k32 ?a33 ?l33 ?c33 ?k33 ?a34 ?l34 ?c34 ?k34 ?a35 ?l35 ?c35 ?k35 ?a36 ?l36 ?c36 ?k36 ?a37 ?l37 ?c37 ?k37 ?a38 ?l38 ?c38 ?k38 ?a39 ?l39 ?c39 ?k39 ?a40 ?l40 ?c40 ?k40 ?a41 ?l41 ?c41 ?k41 ?pg ?hd ?po ?sa ?mk ?kc ?n1 ?n2 ?n3 ?z_bool ?z_dict ?z_enumerate ?z_int ?z_isinstance ?z_len ?z_list ?z_max ?z_range ?z_str ?z_tuple ?y_BEGINNING ?x_BEGINNING ?v_BEGINNING ?eC_QuillError ?eC_NotYet ?eC_Clash ?eC_Backwards ?eq_NotYet ?eq_Clash ?eq_Backwards ?em_QuillError_QuillError ?em_NotYet_QuillError ?em_Clash_QuillError ?em_Backwards_QuillError
    (case aC => k_is); (case a0 => k_is); (case i0 => k_is); (case l0 => k_is)
    (case c0 => k_is); (case k0 => k_is); (case a1 => k_is); (case l1 => k_is)
    (case c1 => k_is); (case k1 => k_is); (case a2 => k_is); (case l2 => k_is)
    (case c2 => k_is); (case k2 => k_is); (case a3 => k_is); (case l3 => k_is)
    (case c3 => k_is); (case k3 => k_is); (case a4 => k_is); (case l4 => k_is)
    (case c4 => k_is); (case k4 => k_is); (case a5 => k_is); (case l5 => k_is)
    (case c5 => k_is); (case k5 => k_is); (case a6 => k_is); (case l6 => k_is)
    (case c6 => k_is); (case k6 => k_is); (case a7 => k_is); (case l7 => k_is)
    (case c7 => k_is); (case k7 => k_is); (case a8 => k_is); (case l8 => k_is)
    (case c8 => k_is); (case k8 => k_is); (case a9 => k_is); (case l9 => k_is)
    (case c9 => k_is); (case k9 => k_is); (case a10 => k_is); (case i10 => k_is)
    (case l10 => k_is); (case c10 => k_is); (case k10 => k_is); (case a11 => k_is)
    (case i11 => k_is); (case l11 => k_is); (case c11 => k_is); (case k11 => k_is)
    (case a12 => k_is); (case l12 => k_is); (case c12 => k_is); (case k12 => k_is)
    (case a13 => k_is); (case l13 => k_is); (case c13 => k_is); (case k13 => k_is)
    (case a14 => k_is); (case l14 => k_is); (case c14 => k_is); (case k14 => k_is)
    (case a15 => k_is); (case l15 => k_is); (case c15 => k_is); (case k15 => k_is)
    (case a16 => k_is); (case i16 => k_is); (case l16 => k_is); (case c16 => k_is)
    (case k16 => k_is); (case a17 => k_is); (case l17 => k_is); (case c17 => k_is)
    (case k17 => k_is); (case a18 => k_is); (case i18 => k_is); (case l18 => k_is)
    (case c18 => k_is); (case k18 => k_is); (case a19 => k_is); (case l19 => k_is)
    (case c19 => k_is); (case k19 => k_is); (case a20 => k_is); (case l20 => k_is)
    (case c20 => k_is); (case k20 => k_is); (case a21 => k_is); (case l21 => k_is)
    (case c21 => k_is); (case k21 => k_is); (case a22 => k_is); (case l22 => k_is)
    (case c22 => k_is); (case k22 => k_is); (case a23 => k_is); (case l23 => k_is)
    (case c23 => k_is); (case k23 => k_is); (case a24 => k_is); (case l24 => k_is)
    (case c24 => k_is); (case k24 => k_is); (case a25 => k_is); (case l25 => k_is)
    (case c25 => k_is); (case k25 => k_is); (case a26 => k_is); (case l26 => k_is)
    (case c26 => k_is); (case k26 => k_is); (case a27 => k_is); (case l27 => k_is)
    (case c27 => k_is); (case k27 => k_is); (case a28 => k_is); (case l28 => k_is)
    (case c28 => k_is); (case k28 => k_is); (case a29 => k_is); (case l29 => k_is)
    (case c29 => k_is); (case k29 => k_is); (case a30 => k_is); (case l30 => k_is)
    (case c30 => k_is); (case k30 => k_is); (case a31 => k_is); (case l31 => k_is)
    (case c31 => k_is); (case k31 => k_is); (case a32 => k_is); (case l32 => k_is)
    (case c32 => k_is); (case k32 => k_is); (case a33 => k_is); (case l33 => k_is)
    (case c33 => k_is); (case k33 => k_is); (case a34 => k_is); (case l34 => k_is)
    (case c34 => k_is); (case k34 => k_is); (case a35 => k_is); (case l35 => k_is)
    (case c35 => k_is); (case k35 => k_is); (case a36 => k_is); (case l36 => k_is)
    (case c36 => k_is); (case k36 => k_is); (case a37 => k_is); (case l37 => k_is)
    (case c37 => k_is); (case k37 => k_is); (case a38 => k_is); (case l38 => k_is)
    (case c38 => k_is); (case k38 => k_is); (case a39 => k_is); (case l39 => k_is)
    (case c39 => k_is); (case k39 => k_is); (case a40 => k_is); (case l40 => k_is)
    (case c40 => k_is); (case k40 => k_is); (case a41 => k_is); (case l41 => k_is)
    (case c41 => k_is); (case k41 => k_is); (case pg => k_is); (case hd => k_is)
    (case po => k_is); (case sa => k_is); (case mk => k_is); (case kc => k_is)
    (case n1 => k_is); (case n2 => k_is); (case n3 => k_is); (case z_bool => k_is)
    (case z_dict => k_is); (case z_enumerate => k_is); (case z_int => k_is); (case z_isinstance => k_is)
    (case z_len => k_is); (case z_list => k_is); (case z_max => k_is); (case z_range => k_is)
    (case z_str => k_is); (case z_tuple => k_is); (case y_BEGINNING => k_is); (case x_BEGINNING => k_is)
    (case v_BEGINNING => decide); (case eC_QuillError => k_is); (case eC_NotYet => k_is); (case eC_Clash => k_is)
    (case eC_Backwards => k_is); (case eq_NotYet => k_exc); (case eq_Clash => k_exc); (case eq_Backwards => k_exc)
    (case em_QuillError_QuillError => kernel_rfl); (case em_NotYet_QuillError => kernel_rfl); (case em_Clash_QuillError => kernel_rfl); (case em_Backwards_QuillError => kernel_rfl)
