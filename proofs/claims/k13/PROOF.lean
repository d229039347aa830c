import PyProof.Rows.All
import Wide.All
import OpenK.AllK
import Wide.FinOn
import Lean
import PyProof.EqAt
import PyProof.EqKinds
import PyProof.TupleCall
import KE.KIntText
import KE.KMinKey
import OpenK.KOwn
import KE.KTryMore
import KE.KIsNot
import PySem.Challenge.RW_manyquills_k13_cause_ahead
set_option compiler.extract_closed false
set_option Elab.async false
set_option linter.all false
set_option maxRecDepth 100000
namespace L2
open PySem PySem.Spec PyProof.Rows
noncomputable abbrev fJ := Sum Int Str
noncomputable def zei : fJ → Value → Bool
 | .inl k, v => Value.isInt k v
 | .inr x, v => Value.isStrOf x v
noncomputable def keyH (w : World) : fJ → Int
 | .inl k => hashInt k
 | .inr x => hashStr w x
theorem fF : ∀ {k : fJ} {v : Value}, zei k v = true → (∃ i t, k = Sum.inl i ∧ v = Value.int i t) ∨ (∃ x t, k = Sum.inr x ∧ v = Value.str x t)
 | .inl i, v, h => by
   obtain ⟨t, e⟩ := Value.isInt_shape (k := i) (v := v) h
   exact .inl ⟨i, t, rfl, e⟩
 | .inr x, v, h => by
   obtain ⟨t, e⟩ := Value.isStrOf_shape (x := x) (v := v) h
   exact .inr ⟨x, t, rfl, e⟩
theorem zos (i : Int) (t : Tok) : zei (.inl i) (.int i t) = true := by simp [zei, Value.isInt]
theorem zot (x : Str) (t : Tok) : zei (.inr x) (.str x t) = true := by simp [zei, Value.isStrOf]
theorem zx4 (a b : Int) : decide ((Sum.inl a : fJ) = Sum.inl b) = (a == b) := by
 by_cases e : a = b
 · subst e; simp
 · have h : ¬ (Sum.inl a : fJ) = Sum.inl b := fun q => e (Sum.inl.inj q)
   rw [decide_eq_false h]
   exact (beq_eq_false_iff_ne.mpr e).symm
theorem zx5 (a b : Str) : decide ((Sum.inr a : fJ) = Sum.inr b) = decide (a = b) := by
 by_cases e : a = b
 · subst e; simp
 · have h : ¬ (Sum.inr a : fJ) = Sum.inr b := fun q => e (Sum.inr.inj q)
   rw [decide_eq_false h, decide_eq_false e]
theorem zx6 (a : Int) (b : Str) : decide ((Sum.inl a : fJ) = Sum.inr b) = false := decide_eq_false (fun q => nomatch q)
theorem zx7 (a : Str) (b : Int) : decide ((Sum.inr a : fJ) = Sum.inl b) = false := decide_eq_false (fun q => nomatch q)
noncomputable def fY (prog : Program) (w : World) : PySem.KeyKind prog w fJ where
 is := zei
 hash := keyH w
 inj := fun v a b ha hb => by
  rcases fF ha with ⟨i, t, rfl, rfl⟩ | ⟨x, t, rfl, rfl⟩
  · rcases fF hb with ⟨j, u, rfl, e⟩ | ⟨y, u, rfl, e⟩
    · injection e with e1 _; rw [e1]
    · exact nomatch e
  · rcases fF hb with ⟨j, u, rfl, e⟩ | ⟨y, u, rfl, e⟩
    · exact nomatch e
    · injection e with e1 _; rw [e1]
 byValue := fun k v h => by
  rcases fF h with ⟨i, t, rfl, rfl⟩ | ⟨x, t, rfl, rfl⟩ <;> rfl
 pyHash := fun hv h => by
  rcases fF hv with ⟨i, t, rfl, rfl⟩ | ⟨x, t, rfl, rfl⟩
  · exact wpAny_pyHash_int h
  · exact wpAny_pyHash_str h
 eqBool := fun hu hv h => by
  rcases fF hu with ⟨i, t, rfl, rfl⟩ | ⟨x, t, rfl, rfl⟩
  · rcases fF hv with ⟨j, u, rfl, rfl⟩ | ⟨y, u, rfl, rfl⟩
    · rw [zx4] at h; exact wpAny_eqBool_int h
    · rw [zx6] at h; exact SeqAt.EqAt.int_str i t y u _ _ _ _ h
  · rcases fF hv with ⟨j, u, rfl, rfl⟩ | ⟨y, u, rfl, rfl⟩
    · rw [zx7] at h; exact SeqAt.EqAt.str_int x t j u _ _ _ _ h
    · rw [zx5] at h; exact wpAny_eqBool_str h
 «strs» := fun k x t v h => by
  rcases fF h with ⟨i, u, rfl, e⟩ | ⟨y, u, rfl, e⟩
  · exact nomatch e
  · injection e with e1 _
    subst e1
    cases v <;> rfl
theorem zh1 (prog : Program) (w : World) (i : Int) (t : Tok) : (fY prog w).is (.inl i) (.int i t) = true := zos i t
theorem zh2 (prog : Program) (w : World) (x : Str) (t : Tok) : (fY prog w).is (.inr x) (.str x t) = true := zot x t
end L2
namespace L2
open PySem PySem.Spec PyProof.Rows
inductive V where
 | non | bl (b : Bool) | int (i : Int) | str (x : Str) | byt (b : Array UInt8) | flt (b : UInt64) | ref (a : Addr) | ty (n : String)
 deriving DecidableEq
noncomputable def dG : V → Value → Prop
 | .non, u => u = Value.none
 | .bl b, u => u = Value.bool b
 | .int i, u => ∃ t, u = Value.int i t
 | .str x, u => ∃ t, u = Value.str x t
 | .byt b, u => ∃ t, u = Value.bytes b t
 | .flt b, u => ∃ t, u = Value.float b t
 | .ref a, u => u = Value.ref a
 | .ty n, u => u = Value.type n
noncomputable abbrev bU : List V → List Value → Prop := Paired dG
theorem bU.length {xs : List V} {us : List Value} (r : bU xs us) : xs.length = us.length := Paired.length r
theorem bU.get : ∀ {xs : List V} {us : List Value} {i : Nat} {x : V}, bU xs us → xs[i]? = some x → ∃ u, us[i]? = some u ∧ dG x u
 | _, _, _, _, .nil, e => by simp at e
 | _, _, 0, _, .cons r _, e => by simp at e; subst e; exact ⟨_, rfl, r⟩
 | _, _, i + 1, x, .cons _ t, e => by
   obtain ⟨u, h1, h2⟩ := bU.get (i := i) (x := x) t (by simpa using e)
   exact ⟨u, by simpa using h1, h2⟩
theorem bU.append : ∀ {xs ys : List V} {us ws : List Value}, bU xs us → bU ys ws → bU (xs ++ ys) (us ++ ws)
 | _, _, _, _, .nil, s => s
 | _, _, _, _, .cons r t, s => .cons r (bU.append t s)
theorem bU.take : ∀ {xs : List V} {us : List Value} (n : Nat), bU xs us → bU (xs.take n) (us.take n)
 | _, _, 0, _ => .nil
 | _, _, _ + 1, .nil => .nil
 | _, _, n + 1, .cons r t => .cons r (bU.take n t)
theorem bU.drop : ∀ {xs : List V} {us : List Value} (n : Nat), bU xs us → bU (xs.drop n) (us.drop n)
 | _, _, 0, r => r
 | _, _, _ + 1, .nil => .nil
 | _, _, n + 1, .cons _ t => bU.drop n t
noncomputable def yF : Option V → Option Value → Prop
 | some v, some u => dG v u
 | none, none => True
 | _, _ => False
noncomputable def KV {κ : Type} : List (κ × V) → List (κ × Value) → Prop := Paired fun (p : κ × V) (q : κ × Value) => p.1 = q.1 ∧ dG p.2 q.2
noncomputable def kV : fJ → V
 | .inl i => .int i
 | .inr x => .str x
inductive HO where
 | lst (xs : List V)
 | tup (xs : List V)
 | dK (kvs : List (fJ × V)) | dT (kvs : List (List fJ × V))
 | set (S : Int → Bool) (n : Nat)
 | ins (C dx : Addr) (fs : List (Str × V))
 | own (x : Addr)
 | xd (fs : List (Str × V))
 | met (f x : Addr)
 | rng (lo hi : Int)
 | frz (o : Obj) (u : HO)
 | tbl (ps : Array Value)
 | ext (φ : Heap → Prop)
noncomputable abbrev Hp := Addr → Option HO
noncomputable def upd (H : Hp) (a : Addr) (o : HO) : Hp := fun b => if b = a then some o else H b
theorem bP {H : Hp} {a : Addr} {o : HO} : upd H a o a = some o := by unfold upd; rw [if_pos rfl]
theorem bD {H : Hp} {a b : Addr} {o : HO} (h : b ≠ a) : upd H a o b = H b := by unfold upd; rw [if_neg h]
theorem zuu {H : Hp} {a : Addr} {o u : HO} : upd (upd H a o) a u = upd H a u := by
 funext b; unfold upd; split <;> rfl
theorem mK {H : Hp} {a b : Addr} {o u : HO} (h : H a = some o) (h' : H b = some u) (d : o ≠ u) : a ≠ b := by
 intro e; subst e; rw [h] at h'; exact d (Option.some.inj h')
theorem iW {H : Hp} {a b : Addr} {o : HO} (h : H a = some o) (h' : H b = none) : a ≠ b := by
 intro e; subst e; rw [h] at h'; cases h'
section
variable (P : Program) (w : World)
noncomputable def gI (H : Hp) (h : Heap) (a : Addr) : HO → Prop
 | .lst xs => xs.length ≤ sizeLine ∧ ∃ (its : List Value) (n : Nat), bU xs its ∧ h.get? a = some { cls := .type "list", data := .seq its.toArray n }
 | .tup xs => xs.length ≤ sizeLine ∧ ∃ its : List Value, bU xs its ∧ IsTup h a its.toArray
 | .dK kvs => kvs.length ≤ sizeLine ∧ (a == sysModules) = false ∧ ∃ vs, KV kvs vs ∧ h.DictOf (fY P w) a vs
 | .dT kvs => kvs.length ≤ sizeLine ∧ (a == sysModules) = false ∧ ∃ xs : List (List fJ × Addr × Value),
  Paired (fun (p : List fJ × V) (q : List fJ × Addr × Value) => p.1 = q.1 ∧ H q.2.1 = some (.tup (p.1.map kV)) ∧ dG p.2 q.2.2) kvs xs ∧
  ∃ o es ep, h.get? a = some o ∧ o.ExactDict ∧ o.data = .dict es ep ∧ es.toList = xs.map (entryOfKey (tupleKind (fY P w))) ∧ (xs.map (·.1)).Nodup
 | .set S n => h.SetOf (intKind P w) a S n
 | .ins C dx fs => H dx = some (.own a) ∧ fs.length ≤ 1000 ∧ dx ≠ a ∧ h.get? a = some (PySem.W.instObj C dx) ∧
  ∃ mA, h.Ns1 dx mA ∧ (∀ f, yF (fs.lookup f) (mA f)) ∧ PySem.Within mA (fs.map (·.1))
 | .own _ => ∃ o, h.get? a = some o
 | .xd fs => ∃ mA, h.Ns1 a mA ∧ ∀ f, yF (fs.lookup f) (mA f)
 | .rng lo hi => ∃ t u v, h.get? a = some { cls := .type "range", data := .fields #[.int lo t, .int hi u, .int 1 v] }
 | .frz o u => h.get? a = some o ∧ gI H h a u
 | .tbl ps => h.get? a = some { cls := .none, data := .fields ps }
 | .met f x => h.get? a = some (PySem.W.methodObj (.ref f) (.ref x))
 | .ext φ => φ h ∧ (∃ o, h.get? a = some o) ∧ ∀ h1 h2 : Heap, φ h1 → (∀ o, h1.get? a = some o → h2.get? a = some o) → φ h2
noncomputable def uQ (H : Hp) (h : Heap) : Prop := ∀ a o, H a = some o → gI P w H h a o
end
section
variable {P : Program} {w : World} {H H' : Hp} {h h' : Heap} {a : Addr} {o : HO}
theorem gI.lt (x : gI P w H h a o) : a < h.objs.size := by
 cases o with
 | lst xs => obtain ⟨_, _, _, _, e⟩ := x; exact Heap.lt_size e
 | tup xs => obtain ⟨_, _, _, p⟩ := x; exact p.lt
 | dK kvs => obtain ⟨_, _, _, _, o, _, _, e, _⟩ := x; exact Heap.lt_size e
 | dT kvs => obtain ⟨_, _, _, _, o, _, _, e, _⟩ := x; exact Heap.lt_size e
 | set S n => obtain ⟨o, _, _, _, e, _⟩ := x; exact Heap.lt_size e
 | ins C dx fs => obtain ⟨_, _, _, e, _⟩ := x; exact Heap.lt_size e
 | own y => obtain ⟨_, e⟩ := x; exact Heap.lt_size e
 | xd fs => obtain ⟨_, ⟨_, _, _, e, _⟩, _⟩ := x; exact Heap.lt_size e
 | rng lo hi => obtain ⟨_, _, _, e⟩ := x; exact Heap.lt_size e
 | frz ob u => obtain ⟨e, _⟩ := x; exact Heap.lt_size e
 | tbl ps => exact Heap.lt_size (show h.get? a = some _ from x)
 | met f y => exact Heap.lt_size (show h.get? a = some _ from x)
 | ext φ => obtain ⟨_, ⟨_, e⟩, _⟩ := x; exact Heap.lt_size e
theorem Paired.mapP {α β : Type} {F G : α → β → Prop} : ∀ {l₁ : List α} {l₂ : List β}, Paired F l₁ l₂ → (∀ a b, F a b → G a b) → Paired G l₁ l₂
 | _, _, .nil, _ => .nil
 | _, _, .cons r t, f => .cons (f _ _ r) (Paired.mapP t f)
theorem gI.stay (x : gI P w H h a o) (k : ∀ b u, (b = a ∨ H b = some (.own a)) → h.get? b = some u → h'.get? b = some u)
 (ho : ∀ b, H b = some (.own a) → H' b = some (.own a)) (ht : ∀ b xs, H b = some (.tup xs) → H' b = some (.tup xs)) : gI P w H' h' a o := by
 induction o with
 | lst xs => obtain ⟨z, its, n, r, e⟩ := x; exact ⟨z, its, n, r, k _ _ (.inl rfl) e⟩
 | tup xs => obtain ⟨z, its, r, ob, e, c⟩ := x; exact ⟨z, its, r, ob, k _ _ (.inl rfl) e, c⟩
 | dK kvs => obtain ⟨z, y, vs, r, ob, es, ep, e, c⟩ := x; exact ⟨z, y, vs, r, ob, es, ep, k _ _ (.inl rfl) e, c⟩
 | dT kvs =>
   obtain ⟨z, y, xs, r, ob, es, ep, e, c⟩ := x
   exact ⟨z, y, xs, Paired.mapP r fun p q z => ⟨z.1, ht _ _ z.2.1, z.2.2⟩, ob, es, ep, k _ _ (.inl rfl) e, c⟩
 | set S n => obtain ⟨ob, es, ep, t, e, c⟩ := x; exact ⟨ob, es, ep, t, k _ _ (.inl rfl) e, c⟩
 | ins C dx fs =>
   obtain ⟨d, z, ne, e, mA, ⟨od, es, ep, e2, c⟩, r⟩ := x
   exact ⟨ho _ d, z, ne, k _ _ (.inl rfl) e, mA, ⟨od, es, ep, k _ _ (.inr d) e2, c⟩, r⟩
 | own y => obtain ⟨ob, e⟩ := x; exact ⟨ob, k _ _ (.inl rfl) e⟩
 | xd fs => obtain ⟨mA, ⟨od, es, ep, e, c⟩, r⟩ := x; exact ⟨mA, ⟨od, es, ep, k _ _ (.inl rfl) e, c⟩, r⟩
 | rng lo hi => obtain ⟨t, u, v, e⟩ := x; exact ⟨t, u, v, k _ _ (.inl rfl) e⟩
 | frz ob u ih => obtain ⟨e, q⟩ := x; exact ⟨k _ _ (.inl rfl) e, ih q⟩
 | tbl ps =>
   have e : h.get? a = some { cls := .none, data := .fields ps } := x
   show h'.get? a = some { cls := .none, data := .fields ps }
   exact k a _ (.inl rfl) e
 | met f y =>
   have e : h.get? a = some (PySem.W.methodObj (.ref f) (.ref y)) := x
   show h'.get? a = some (PySem.W.methodObj (.ref f) (.ref y))
   exact k a _ (.inl rfl) e
 | ext φ => obtain ⟨p, ⟨o, e⟩, st⟩ := x; exact ⟨st _ _ p fun o q => k _ _ (.inl rfl) q, ⟨o, k _ _ (.inl rfl) e⟩, st⟩
theorem uQ.lt (x : uQ P w H h) (e : H a = some o) : a < h.objs.size := (x a o e).lt
theorem uQ.fresh (x : uQ P w H h) (e : h.objs.size ≤ a) : H a = none := by
 cases q : H a with
 | none => rfl
 | some u => exact absurd (Nat.lt_of_lt_of_le (x.lt q) e) (Nat.lt_irrefl _)
theorem uQ.kept (x : uQ P w H h) (k : ∀ b u, h.get? b = some u → h'.get? b = some u) : uQ P w H h' := fun a o e =>
 (x a o e).stay (fun b u _ q => k b u q) (fun _ q => q) fun _ _ q => q
theorem uQ.laid (x : uQ P w H h) (k : ∀ b u, h.get? b = some u → h'.get? b = some u) (hp : h.objs.size ≤ a) (new : gI P w (upd H a o) h' a o) : uQ P w (upd H a o) h' := fun b u e => by
 have hn := x.fresh hp
 by_cases hb : b = a
 · subst hb; rw [bP] at e; cases e; exact new
 · rw [bD hb] at e
   exact (x b u e).stay (fun c v _ q => k c v q) (fun c q => by rw [bD (iW q hn)]; exact q) fun c xs q => by rw [bD (iW q hn)]; exact q
end
noncomputable def Rd (H : Hp) (a : Addr) (u : HO) : Prop := H a = some u ∨ ∃ o, H a = some (.frz o u)
theorem Rd.ok {P : Program} {w : World} {H : Hp} {h : Heap} {a : Addr} {u : HO} (r : Rd H a u) (x : uQ P w H h) : gI P w H h a u := by
 rcases r with r | ⟨o, r⟩
 · exact x a u r
 · obtain ⟨_, q⟩ := x a _ r
   exact q
noncomputable def Mut : Option HO → Prop
 | some (.lst _) => True
 | some (.dK _) => True
 | some (.dT _) => True
 | some (.set _ _) => True
 | some (.ins _ _ _) => True
 | some (.ext _) => True
 | _ => False
section
variable {P : Program} {w : World} {H : Hp} {h h' : Heap} {x e : Addr} {o' : HO}
theorem uQ.write (ok : uQ P w H h) (mu : Mut (H x)) (he : e = x ∨ H e = some (.own x)) (k : ∀ b u, b ≠ e → h.get? b = some u → h'.get? b = some u) (heo : ∃ u, h'.get? e = some u)
 (new : gI P w (upd H x o') h' x o') : uQ P w (upd H x o') h' := fun b u q => by
 have nown : ∀ c y, H c = some (.own y) → c ≠ x := fun c y r z => by subst z; rw [r] at mu; exact mu
 have ntup : ∀ c xs, H c = some (.tup xs) → c ≠ x := fun c xs r z => by subst z; rw [r] at mu; exact mu
 by_cases hb : b = x
 · subst hb; rw [bP] at q; cases q; exact new
 · rw [bD hb] at q
   by_cases hbe : b = e
   · have q' : H b = some (.own x) := by
      rcases he with z | z
      · exact absurd (hbe.trans z) hb
      · rw [hbe]; exact z
     rw [q] at q'; cases q'
     obtain ⟨v, hv⟩ := heo
     exact ⟨v, by rw [hbe]; exact hv⟩
   · refine (ok b u q).stay (fun c v hc r => k c v ?_ r) (fun c r => by rw [bD (nown c b r)]; exact r) fun c xs r => by rw [bD (ntup c xs r)]; exact r
     rcases hc with rfl | hc
     · exact hbe
     · rintro rfl
       rcases he with z | z
       · exact nown c b hc z
       · rw [hc] at z; cases z; exact hb rfl
end
structure Un (fs ex : List Addr) (H H' : Hp) (h h' : Heap) : Prop where
 keep : ∀ b o, h.get? b = some o → H b = none → b ∉ fs → b ∉ ex → h'.get? b = some o
 slot : ∀ b o, h.get? b = some o → H b = none → b ∈ fs → b ∉ ex → ∃ sl, h'.get? b = some { o with slots := sl }
 free : ∀ b o, h.get? b = some o → H b = none → b ∉ ex → H' b = none
 there : ∀ b o, h.get? b = some o → b ∉ ex → ∃ o', h'.get? b = some o'
 tups : ∀ b xs, H b = some (.tup xs) → H' b = some (.tup xs)
 frzs : ∀ b o u, H b = some (.frz o u) → H' b = some (.frz o u)
 tbls : ∀ b ps, H b = some (.tbl ps) → ∃ more, H' b = some (.tbl (ps ++ more))
section
variable {fs fs' ex ex' : List Addr} {H H1 H2 : Hp} {h h1 h2 h' : Heap} {a x e : Addr} {o : HO}
theorem Un.any (u : Un fs ex H H1 h h1) {b : Addr} {ob : Obj} (q : h.get? b = some ob) (n : H b = none) (hx : b ∉ ex) : ∃ sl, h1.get? b = some { ob with slots := sl } := by
 by_cases hb : b ∈ fs
 · exact u.slot b ob q n hb hx
 · exact ⟨ob.slots, u.keep b ob q n hb hx⟩
theorem Un.kept (k : ∀ b u, h.get? b = some u → h'.get? b = some u) : Un fs ex H H h h' :=
 ⟨fun b ob q _ _ _ => k b ob q, fun b ob q _ _ _ => ⟨ob.slots, k b ob q⟩, fun _ _ _ n _ => n, fun b ob q _ => ⟨ob, k b ob q⟩, fun _ _ q => q, fun _ _ _ q => q, fun _ ps q => ⟨#[], by rw [q]; simp⟩⟩
theorem Un.refl : Un fs ex H H h h := Un.kept fun _ _ q => q
theorem Un.laid (k : ∀ b u, h.get? b = some u → h'.get? b = some u) (hp : h.objs.size ≤ a) (hn : H a = none) : Un fs ex H (upd H a o) h h' where
 keep := fun b u q _ _ _ => k b u q
 slot := fun b u q _ _ _ => ⟨u.slots, k b u q⟩
 free := fun b u q n _ => by rw [bD (Nat.ne_of_lt (Nat.lt_of_lt_of_le (Heap.lt_size q) hp))]; exact n
 there := fun b u q _ => ⟨u, k b u q⟩
 tups := fun b xs q => by rw [bD (iW q hn)]; exact q
 frzs := fun b u xs q => by rw [bD (iW q hn)]; exact q
 tbls := fun b ps q => ⟨#[], by rw [bD (iW q hn), q]; simp⟩
theorem Un.write (mu : Mut (H x)) (he : e = x ∨ H e = some (.own x)) (k : ∀ b u, b ≠ e → h.get? b = some u → h'.get? b = some u) (heo : ∃ u, h'.get? e = some u) : Un fs ex H (upd H x o) h h' := by
 have hx : ∀ b, H b = none → b ≠ x := fun b n z => by subst z; rw [n] at mu; exact mu
 have hb : ∀ b, H b = none → b ≠ e := fun b n z => by
  subst z
  rcases he with r | r
  · exact hx b n r
  · rw [n] at r; cases r
 have hm : ∀ b u, H b = some u → ¬ Mut (some u) → b ≠ x := fun b u q nm z => by subst z; rw [q] at mu; exact nm mu
 refine ⟨fun b u q n _ _ => k b u (hb b n) q, fun b u q n _ _ => ⟨u.slots, k b u (hb b n) q⟩, fun b u q n _ => by rw [bD (hx b n)]; exact n, fun b u q _ => ?_,
  fun b xs q => by rw [bD (hm b _ q fun z => z)]; exact q, fun b u xs q => by rw [bD (hm b _ q fun z => z)]; exact q, fun b ps q => ⟨#[], by rw [bD (hm b _ q fun z => z), q]; simp⟩⟩
 by_cases hbe : b = e
 · subst hbe; exact heo
 · exact ⟨u, k b u hbe q⟩
end
noncomputable def trk (h : Heap) (H : Hp) : List Addr := (List.range h.objs.size).filter fun a => (H a).isSome
noncomputable def zfr (h : Heap) (H : Hp) : Heap := PySem.W.hideAll h (trk h H)
theorem zou (h : Heap) (H : Hp) : (zfr h H).objs.size = h.objs.size := PySem.W.hideAll_size _ _
theorem zql {h : Heap} {H : Hp} {b : Addr} {o : Obj} (e : h.get? b = some o) (n : H b = none) : (zfr h H).get? b = some o :=
 PySem.W.hideAll_get _ e fun hm => by
  have q : (H b).isSome = true := (List.mem_filter.mp hm).2
  rw [n] at q; simp at q
theorem zuv {h : Heap} {H : Hp} {b : Addr} {o : Obj} (e : (zfr h H).get? b = some o) : h.get? b = some o ∧ H b = none := by
 have e' : h.get? b = some o := PySem.W.of_hideAll (trk h H) e
 refine ⟨e', ?_⟩
 cases q : H b with
 | none => rfl
 | some x =>
   have hm : b ∈ trk h H := List.mem_filter.mpr ⟨List.mem_range.mpr (Heap.lt_size e'), by simp [q]⟩
   have z : (zfr h H).get? b = none := PySem.W.hideAll_none (trk h H) hm
   rw [z] at e; cases e
end L2
namespace L2
open PySem PySem.Spec PyProof.Rows
structure Mod (K : W.Frag) (mg : Str → Option Value) (base : Heap) : Prop where
 kin : K.In base
 glob : base.Ns mainGlobals mg
 blt : ∃ mb, base.Ns builtinsNs mb ∧ ∀ x : Str, x ≠ "__name__" → mb x = bootBuiltins x
 nolimit : base.NoLimit
structure Cx where
 prog : Program
 w : World
 K : W.Frag
 mg : Str → Option Value
 base : Heap
 A : Around
 N : List Str
 s₀ : Shared
 H₀ : Hp
 env : Env
 outer : List Env
 stack : List Env
 ex : List Addr
 fn : Str → Bool
 calm : Bool
 pn : List (Addr × Obj)
 xe : Value → Shared → Prop
noncomputable def frs (l : List Env) : List Addr := l.filterMap (·.frame)
noncomputable abbrev Cx.fs (X : Cx) : List Addr := frs X.outer
noncomputable def Vis (sc : Scope) (x : Str) : Prop := sc.names.lookup x = some .local ∨ sc.names.lookup x = some .cell ∨ sc.names.lookup x = some .free
noncomputable def Loc (sc : Scope) (x : Str) : Prop := sc.names.lookup x = some .local ∨ sc.names.lookup x = some .cell
noncomputable def Look (env : Env) (h : Heap) (m : Str → Option Value) (x : Str) (u : Value) : Prop :=
 (env.kindOf x = some .local ∧ m x = some u) ∨ ((env.kindOf x = some .cell ∨ env.kindOf x = some .free) ∧ ∃ c, env.cells.lookup x = some c ∧ h.IsCell c (some u))
structure Cx.Ok (X : Cx) : Prop where
 mod : Mod X.K X.mg X.base
 kind : X.env.scope.kind = .function
 glob : X.env.globals = mainGlobals
 blt : X.env.builtins = builtinsNs
 above : X.s₀.heap.objs.size ≤ X.env.locals
 inj : ∀ x y c, X.env.cells.lookup x = some c → X.env.cells.lookup y = some c → x = y
 has : ∀ x, (X.env.kindOf x = some .cell ∨ X.env.kindOf x = some .free) → ∃ c, X.env.cells.lookup x = some c
 cab : ∀ x c, X.fn x = true → X.env.cells.lookup x = some c → X.s₀.heap.objs.size ≤ c
 hd : X.calm = true → X.A.handled = none
 frames : X.A.frames = some X.stack
 stk : X.stack = X.outer ∨ (X.stack = X.env :: X.outer ∧ X.env.frame = some X.env.locals)
 exf : ∀ b ∈ X.ex, b ≠ X.env.locals ∧ ∀ x c, X.env.cells.lookup x = some c → c ≠ b
 bs : ∀ b o, X.base.get? b = some o → X.s₀.heap.get? b = some o ∧ X.H₀ b = none
 bsz : X.base.objs.size ≤ X.s₀.heap.objs.size
 noex : ∀ b o, X.base.get? b = some o → b ∉ X.ex
 exfs : ∀ b ∈ X.ex, b ∉ X.fs
 funs : X.s₀.heap.FunFrames X.base X.outer
 frf : ∀ b ∈ X.fs, X.H₀ b = none
structure Inv (X : Cx) (pins : List (Addr × Obj)) (σ : List (Option V)) (H : Hp) (s : Shared) : Prop where
 ok : X.Ok
 os : s.os = X.s₀.os
 bare : AllBare s.gens
 base : Un X.fs X.ex X.H₀ H X.s₀.heap s.heap
 loc : ∃ m, s.heap.Ns X.env.locals m ∧ ∀ (i : Nat) (x : Str) (v : V), X.N[i]? = some x → σ[i]? = some (some v) → Vis X.env.scope x → ∃ u, dG v u ∧ Look X.env s.heap m x u
 cell : ∀ x c, X.env.cells.lookup x = some c → ∃ v, s.heap.IsCell c v
 free : H X.env.locals = none
 freeC : ∀ x c, X.env.cells.lookup x = some c → H c = none
 pin : ∀ p ∈ X.pn ++ pins, s.heap.get? p.1 = some p.2 ∧ H p.1 = none ∧ p.1 ≠ X.env.locals ∧ p.1 ∉ X.fs ∧ ∀ v, p.2.data ≠ .cell v
 hok : uQ X.prog X.w H s.heap
 len : σ.length = X.N.length
section
variable {X : Cx} {pins : List (Addr × Obj)} {σ : List (Option V)} {H H' : Hp} {s : Shared} {h' : Heap}
theorem Cx.Ok.nofr (ok : X.Ok) {b : Addr} {o : Obj} (e : X.base.get? b = some o) : b ∉ X.fs := fun hb => by
 have := (ok.funs.mem hb).1
 rw [e] at this; cases this
theorem Inv.bs (I : Inv X pins σ H s) : ∀ b o, X.base.get? b = some o → s.heap.get? b = some o ∧ H b = none := fun b o e =>
 ⟨I.base.keep b o (I.ok.bs b o e).1 (I.ok.bs b o e).2 (I.ok.nofr e) (I.ok.noex b o e), I.base.free b o (I.ok.bs b o e).1 (I.ok.bs b o e).2 (I.ok.noex b o e)⟩
theorem Inv.bk (I : Inv X pins σ H s) : ∀ b o, X.base.get? b = some o → s.heap.get? b = some o := fun b o e => (I.bs b o e).1
theorem Inv.mod (I : Inv X pins σ H s) : Mod X.K X.mg X.base := I.ok.mod
theorem Inv.kIn (I : Inv X pins σ H s) : X.K.In s.heap := I.ok.mod.kin.keeps I.bk
theorem Inv.lt (I : Inv X pins σ H s) : X.env.locals < s.heap.objs.size := let ⟨_, hn, _⟩ := I.loc; hn.lt
theorem Inv.sz (I : Inv X pins σ H s) : X.s₀.heap.objs.size ≤ s.heap.objs.size := Nat.le_trans I.ok.above (Nat.le_of_lt I.lt)
theorem Inv.nofs (I : Inv X pins σ H s) {a : Addr} (h : s.heap.objs.size ≤ a) : a ∉ X.fs := fun hb => by
 obtain ⟨_, o, ho, _⟩ := I.ok.funs.mem hb
 exact absurd (Nat.lt_of_lt_of_le (Heap.lt_size ho) (Nat.le_trans I.sz h)) (Nat.lt_irrefl _)
theorem Inv.cne (I : Inv X pins σ H s) : ∀ x c, X.env.cells.lookup x = some c → c ≠ X.env.locals := fun x c e z => by
 obtain ⟨v, o, ho, hd⟩ := I.cell x c e
 obtain ⟨m, ⟨o', es, ep, ho', hd', _⟩, _⟩ := I.loc
 rw [z, ho'] at ho; cases ho; rw [hd'] at hd; cases hd
theorem Inv.funs (I : Inv X pins σ H s) : s.heap.FunFrames X.base X.outer := by
 have all : ∀ (l : List Env), (∀ b ∈ frs l, b ∈ X.fs) → X.s₀.heap.FunFrames X.base l → s.heap.FunFrames X.base l := by
  intro l
  induction l with
  | nil => intro _ _; trivial
  | cons env r ih =>
    intro hs hl
    obtain ⟨hk, ⟨L, o, hf, hn, ho, hd⟩, hr⟩ := hl
    have hL : L ∈ X.fs := hs L (by unfold frs; rw [List.filterMap_cons, hf]; exact List.mem_cons_self)
    obtain ⟨sl, e⟩ := I.base.slot L o ho (I.ok.frf L hL) hL fun z => I.ok.exfs L z hL
    exact ⟨hk, ⟨L, _, hf, hn, e, hd⟩, ih (fun b hb => hs b (by unfold frs; rw [List.filterMap_cons, hf]; exact List.mem_cons_of_mem _ hb)) hr⟩
 exact all X.outer (fun _ hb => hb) I.ok.funs
theorem Inv.stack (I : Inv X pins σ H s) : s.heap.FunFrames X.base X.stack := by
 rcases I.ok.stk with e | ⟨e, hf⟩
 · rw [e]; exact I.funs
 · rw [e]
   obtain ⟨m, hn, _⟩ := I.loc
   refine .cons (by rw [I.ok.kind]; decide) hf hn ?_ I.funs
   exact Heap.get?_none_of_le (Nat.le_trans I.ok.bsz I.ok.above)
theorem Inv.stkSub (I : Inv X pins σ H s) : ∀ b ∈ frs X.stack, b ∈ X.env.locals :: X.fs := fun b hb => by
 rcases I.ok.stk with e | ⟨e, hf⟩
 · rw [e] at hb; exact List.mem_cons_of_mem _ hb
 · rw [e] at hb
   unfold frs at hb
   rw [List.filterMap_cons, hf] at hb
   exact hb
theorem Inv.stkFree (I : Inv X pins σ H s) : ∀ b ∈ frs X.stack, H b = none := fun b hb => by
 rcases List.mem_cons.mp (I.stkSub b hb) with e | hb
 · rw [e]; exact I.free
 · obtain ⟨_, o, ho, _⟩ := I.ok.funs.mem hb
   exact I.base.free b o ho (I.ok.frf b hb) fun z => I.ok.exfs b z hb
theorem Inv.step {g' : Array GenState} {t' : Nat} {d' : Drawn} {ch : List Addr} (I : Inv X pins σ H s)
 (hch : ∀ b ∈ ch, (b ∈ X.ex ∨ X.s₀.heap.objs.size ≤ b) ∧ b ≠ X.env.locals ∧ (∀ x c, X.env.cells.lookup x = some c → c ≠ b) ∧ ∀ p ∈ X.pn ++ pins, p.1 ≠ b)
 (keep : ∀ b o, b ≠ X.env.locals → b ∉ X.fs → b ∉ ch → s.heap.get? b = some o → H b = none → h'.get? b = some o)
 (slot : ∀ b o, b ≠ X.env.locals → b ∈ X.fs → b ∉ ch → s.heap.get? b = some o → H b = none → ∃ sl, h'.get? b = some { o with slots := sl }) (free : ∀ b o, b ∉ ch → s.heap.get? b = some o → H b = none → H' b = none)
 (there : ∀ b o, b ∉ ch → s.heap.get? b = some o → ∃ o', h'.get? b = some o')
 (tups : ∀ b xs, H b = some (.tup xs) → H' b = some (.tup xs)) (frzs : ∀ b o u, H b = some (.frz o u) → H' b = some (.frz o u)) (tbls : ∀ b ps, H b = some (.tbl ps) → ∃ more, H' b = some (.tbl (ps ++ more)))
 (ns : ∀ m, s.heap.Ns X.env.locals m → h'.Ns X.env.locals m) (hok : uQ X.prog X.w H' h') (hg : AllBare g') :
 Inv X pins σ H' { s with heap := h', gens := g', drawn := d', toks := t' } := by
 have neL : ∀ b o, X.s₀.heap.get? b = some o → b ≠ X.env.locals := fun b o e => Nat.ne_of_lt (Nat.lt_of_lt_of_le (Heap.lt_size e) I.ok.above)
 have neC : ∀ b o, X.s₀.heap.get? b = some o → b ∉ X.ex → b ∉ ch := fun b o e hx hb => by
  rcases (hch b hb).1 with z | z
  · exact hx z
  · exact absurd (Nat.lt_of_lt_of_le (Heap.lt_size e) z) (Nat.lt_irrefl _)
 have cellK : ∀ x c, X.env.cells.lookup x = some c → ∀ v, s.heap.IsCell c v → h'.IsCell c v := fun x c e v ⟨o, ho, hd⟩ => by
  have nch : c ∉ ch := fun z => (hch c z).2.2.1 x c e rfl
  by_cases hc : c ∈ X.fs
  · obtain ⟨sl, q⟩ := slot c o (I.cne x c e) hc nch ho (I.freeC x c e)
    exact ⟨_, q, hd⟩
  · exact ⟨o, keep c o (I.cne x c e) hc nch ho (I.freeC x c e), hd⟩
 refine ⟨I.ok, I.os, hg, ⟨fun b o e n hb hx => ?_, fun b o e n hb hx => ?_, fun b o e n hx => ?_, fun b o e hx => ?_, fun b xs e => tups b xs (I.base.tups b xs e), fun b o xs e => frzs b o xs (I.base.frzs b o xs e), fun b ps e => ?_⟩, ?_, fun x c e => ?_, ?_, fun x c e => ?_, fun p hp => ?_, hok, I.len⟩
 · exact keep b o (neL b o e) hb (neC b o e hx) (I.base.keep b o e n hb hx) (I.base.free b o e n hx)
 · obtain ⟨sl, e1⟩ := I.base.slot b o e n hb hx
   obtain ⟨sl', e2⟩ := slot b _ (neL b o e) hb (neC b o e hx) e1 (I.base.free b o e n hx)
   exact ⟨sl', e2⟩
 · obtain ⟨o', e1⟩ := I.base.there b o e hx
   exact free b o' (neC b o e hx) e1 (I.base.free b o e n hx)
 · obtain ⟨o', e1⟩ := I.base.there b o e hx
   exact there b o' (neC b o e hx) e1
 · obtain ⟨m1, e1⟩ := I.base.tbls b ps e
   obtain ⟨m2, e2⟩ := tbls b _ e1
   exact ⟨m1 ++ m2, by rw [e2, Array.append_assoc]⟩
 · obtain ⟨m, hn, hl⟩ := I.loc
   refine ⟨m, ns m hn, fun i x v e1 e2 e3 => ?_⟩
   obtain ⟨u, r, l⟩ := hl i x v e1 e2 e3
   refine ⟨u, r, ?_⟩
   rcases l with l | ⟨k, c, e, z⟩
   · exact .inl l
   · exact .inr ⟨k, c, e, cellK x c e _ z⟩
 · obtain ⟨v, z⟩ := I.cell x c e
   exact ⟨v, cellK x c e v z⟩
 · obtain ⟨m, ⟨o, _, _, ho, _⟩, _⟩ := I.loc
   exact free _ o (fun z => (hch _ z).2.1 rfl) ho I.free
 · obtain ⟨v, o, ho, hd⟩ := I.cell x c e
   exact free c o (fun z => (hch c z).2.2.1 x c e rfl) ho (I.freeC x c e)
 · obtain ⟨e, n, ne, nf, d⟩ := I.pin p hp
   have nch : p.1 ∉ ch := fun z => (hch p.1 z).2.2.2 p hp rfl
   exact ⟨keep p.1 p.2 ne nf nch e n, free p.1 p.2 nch e n, ne, nf, d⟩
theorem Inv.un {t' : Nat} (I : Inv X pins σ H s) (u : Un X.fs [] H H' s.heap h') (hok : uQ X.prog X.w H' h') : Inv X pins σ H' { s with heap := h', toks := t' } := by
 obtain ⟨m, ⟨o, es, ep, ho, r⟩, _⟩ := id I.loc
 obtain ⟨sl, hL⟩ := u.any ho I.free (by simp)
 exact I.step (g' := s.gens) (d' := s.drawn) (ch := []) (fun _ z => nomatch z) (fun b o _ hb _ e n => u.keep b o e n hb (by simp)) (fun b o _ hb _ e n => u.slot b o e n hb (by simp)) (fun b o _ e n => u.free b o e n (by simp)) (fun b o _ e => u.there b o e (by simp)) u.tups u.frzs u.tbls (fun m' hm => by
  obtain ⟨o', es', ep', ho', r'⟩ := hm
  rw [ho] at ho'; cases ho'
  exact ⟨_, es', ep', hL, r'⟩) hok I.bare
theorem Inv.call {g' : Array GenState} {t' : Nat} {d' : Drawn} {ch : List Addr} (I : Inv X pins σ H s) (u : Un (frs X.stack) ch H H' s.heap h') (hok : uQ X.prog X.w H' h') (hg : AllBare g')
 (hch : ∀ b ∈ ch, (b ∈ X.ex ∨ X.s₀.heap.objs.size ≤ b) ∧ b ≠ X.env.locals ∧ (∀ x c, X.env.cells.lookup x = some c → c ≠ b) ∧ ∀ p ∈ X.pn ++ pins, p.1 ≠ b) :
 Inv X pins σ H' { s with heap := h', gens := g', drawn := d', toks := t' } := by
 obtain ⟨m, ⟨o, es, ep, ho, r⟩, _⟩ := id I.loc
 obtain ⟨sl, hL⟩ := u.any ho I.free fun z => (hch _ z).2.1 rfl
 exact I.step (ch := ch) hch (fun b o hL hb hc e n => u.keep b o e n (fun z => (List.mem_cons.mp (I.stkSub b z)).elim hL hb) hc) (fun b o _ _ hc e n => u.any e n hc) (fun b o hc e n => u.free b o e n hc) (fun b o hc e => u.there b o e hc) u.tups u.frzs u.tbls (fun m' hm => by
  obtain ⟨o', es', ep', ho', r'⟩ := hm
  rw [ho] at ho'; cases ho'
  exact ⟨_, es', ep', hL, r'⟩) hok hg
theorem Inv.turned {t' : Nat} {it : Addr} (I : Inv X pins σ H s) (k : ∀ b o, b ≠ it → s.heap.get? b = some o → h'.get? b = some o) (hn : H it = none) (hL : it ≠ X.env.locals)
 (h1 : it ∈ X.ex ∨ X.s₀.heap.objs.size ≤ it) (h2 : ∀ x c, X.env.cells.lookup x = some c → c ≠ it) (h3 : ∀ p ∈ X.pn ++ pins, p.1 ≠ it) : Inv X pins σ H { s with heap := h', toks := t' } := by
 have nit : ∀ b u, H b = some u → b ≠ it := fun b u e z => by rw [z, hn] at e; cases e
 refine I.step (g' := s.gens) (d' := s.drawn) (ch := [it]) (fun b hb => ?_) (fun b o _ _ hc e _ => k b o (fun z => hc (by simp [z])) e) (fun b o _ _ hc e _ => ⟨o.slots, k b o (fun z => hc (by simp [z])) e⟩) (fun _ _ _ _ n => n)
  (fun b o hc e => ⟨o, k b o (fun z => hc (by simp [z])) e⟩) (fun _ _ e => e) (fun _ _ _ e => e) (fun b ps e => ⟨#[], by rw [e]; simp⟩) (fun m hm => ?_) (fun b u e => ?_) I.bare
 · have e : b = it := by simpa using hb
   subst e
   exact ⟨h1, hL, h2, h3⟩
 · obtain ⟨o, es, ep, ho, r⟩ := hm
   exact ⟨o, es, ep, k _ o (Ne.symm hL) ho, r⟩
 · refine (I.hok b u e).stay (fun c v hc q => k c v ?_ q) (fun _ q => q) fun _ _ q => q
   rcases hc with z | z
   · rw [z]; exact nit b u e
   · exact nit c _ z
theorem Inv.tok (I : Inv X pins σ H s) (t : Nat) : Inv X pins σ H { s with toks := t } := I.un (h' := s.heap) (t' := t) Un.refl I.hok
theorem Inv.kept {t' : Nat} (I : Inv X pins σ H s) (k : ∀ b u, s.heap.get? b = some u → h'.get? b = some u) : Inv X pins σ H { s with heap := h', toks := t' } := I.un (Un.kept k) (I.hok.kept k)
theorem Inv.laid {a : Addr} {o : HO} {t' : Nat} (I : Inv X pins σ H s) (k : ∀ b u, s.heap.get? b = some u → h'.get? b = some u) (hp : s.heap.objs.size ≤ a) (new : gI X.prog X.w (upd H a o) h' a o) :
 Inv X pins σ (upd H a o) { s with heap := h', toks := t' } := I.un (Un.laid k hp (I.hok.fresh hp)) (I.hok.laid k hp new)
theorem Inv.write {x e : Addr} {o : HO} {t' : Nat} (I : Inv X pins σ H s) (mu : Mut (H x)) (he : e = x ∨ H e = some (.own x)) (k : ∀ b u, b ≠ e → s.heap.get? b = some u → h'.get? b = some u) (heo : ∃ u, h'.get? e = some u)
 (new : gI X.prog X.w (upd H x o) h' x o) : Inv X pins σ (upd H x o) { s with heap := h', toks := t' } := I.un (Un.write mu he k heo) (I.hok.write mu he k heo new)
theorem Inv.pins_of {pins' : List (Addr × Obj)} (I : Inv X pins σ H s) (h : ∀ p ∈ pins', s.heap.get? p.1 = some p.2 ∧ H p.1 = none ∧ p.1 ≠ X.env.locals ∧ p.1 ∉ X.fs ∧ ∀ v, p.2.data ≠ .cell v) : Inv X pins' σ H s :=
 ⟨I.ok, I.os, I.bare, I.base, I.loc, I.cell, I.free, I.freeC, fun p hp => (List.mem_append.mp hp).elim (fun z => I.pin p (List.mem_append_left _ z)) (h p), I.hok, I.len⟩
theorem zh3 {N : List Str} (hN : N.Nodup) {i j : Nat} {x : Str} (a : N[i]? = some x) (b : N[j]? = some x) : i = j := by
 obtain ⟨h1, e1⟩ := List.getElem?_eq_some_iff.mp a
 obtain ⟨h2, e2⟩ := List.getElem?_eq_some_iff.mp b
 exact (List.getElem_inj hN).mp (e1.trans e2.symm)
theorem yG {M : Model} {A : Around} {E : Value → Shared → Prop} {i : Nat} {x : Str} {v : V} {u : Value} {Q : Unit → Shared → Prop} (I : Inv X pins σ H s) (hN : X.N.Nodup) (hi : X.N[i]? = some x) (hx : Loc X.env.scope x) (r : dG v u)
 (h : ∀ s', Inv X pins (σ.set i (some v)) H s' → (∃ a, Heap.SameBut a s.heap s'.heap ∧ (a = X.env.locals ∨ X.env.cells.lookup x = some a)) → Q () s') (hf : X.fn x = true ∨ X.env.scope.names.lookup x = some .local := by first | exact .inl rfl | exact .inr rfl | assumption) : wpAny M A (storeName X.env x u) Q E s := by
 obtain ⟨m, hn, hl⟩ := id I.loc
 have hcls : (X.env.scope.kind == .class || (X.env.scope.kind == .module && X.env.locals != X.env.globals)) = false := by rw [I.ok.kind]; rfl
 have hiσ : i < σ.length := by rw [I.len]; exact (List.getElem?_eq_some_iff.mp hi).1
 have cne := I.cne
 have tracked : ∀ {a : Addr} {h' : Heap}, (∃ o, s.heap.get? a = some o ∧ H a = none) → Heap.SameBut a s.heap h' → uQ X.prog X.w H h' := fun {a h'} ha hs b ob e => by
  obtain ⟨_, _, hfree⟩ := ha
  refine (I.hok b ob e).stay (fun c w' hc q => (hs.2 c ?_).trans q) (fun _ q => q) fun _ _ q => q
  rintro rfl
  rcases hc with rfl | hc
  · rw [hfree] at e; cases e
  · rw [hfree] at hc; cases hc
 rcases hx with hk | hk
 · refine wpAny_storeName_local hk hn (fun h' hn' hs => ?_) hcls
   obtain ⟨oL, _, _, hoL, _⟩ := id hn
   refine h _ ⟨I.ok, I.os, I.bare, ⟨fun b o e n hb hx => ?_, fun b o e n hb hx => ?_, I.base.free, fun b o e hx => ?_, I.base.tups, I.base.frzs, I.base.tbls⟩, ⟨_, hn', fun j y v' e1 e2 e3 => ?_⟩, fun y c e => ?_, I.free, I.freeC, fun p hp => ?_, tracked ⟨oL, hoL, I.free⟩ hs, by simpa using I.len⟩ ⟨_, hs, .inl rfl⟩
   · exact (hs.2 b (Nat.ne_of_lt (Nat.lt_of_lt_of_le (Heap.lt_size e) I.ok.above))).trans (I.base.keep b o e n hb hx)
   · obtain ⟨sl, e1⟩ := I.base.slot b o e n hb hx
     exact ⟨sl, (hs.2 b (Nat.ne_of_lt (Nat.lt_of_lt_of_le (Heap.lt_size e) I.ok.above))).trans e1⟩
   · obtain ⟨o', e1⟩ := I.base.there b o e hx
     exact ⟨o', (hs.2 b (Nat.ne_of_lt (Nat.lt_of_lt_of_le (Heap.lt_size e) I.ok.above))).trans e1⟩
   · by_cases hj : j = i
     · subst hj
       rw [hi] at e1; cases e1
       rw [List.getElem?_set_self hiσ] at e2
       cases e2
       exact ⟨u, r, .inl ⟨hk, by simp⟩⟩
     · rw [List.getElem?_set_ne (Ne.symm hj)] at e2
       obtain ⟨u', r', q⟩ := hl j y v' e1 e2 e3
       refine ⟨u', r', ?_⟩
       rcases q with ⟨k, e⟩ | ⟨k, c, e, z⟩
       · refine .inl ⟨k, ?_⟩
         have : y ≠ x := fun e => hj (zh3 hN e1 (e ▸ hi))
         simp [this, e]
       · exact .inr ⟨k, c, e, z.sameBut hs (cne y c e)⟩
   · obtain ⟨w', z⟩ := I.cell y c e
     exact ⟨w', z.sameBut hs (cne y c e)⟩
   · obtain ⟨e, n, ne, nf, d⟩ := I.pin p hp
     exact ⟨(hs.2 p.1 ne).trans e, n, ne, nf, d⟩
 · have hfn : X.fn x = true := by
    rcases hf with z | z
    · exact z
    · rw [z] at hk; cases hk
   obtain ⟨c, hc⟩ := I.ok.has x (.inl hk)
   obtain ⟨w', z⟩ := I.cell x c hc
   refine wpAny_storeName_cell I.ok.kind hk hc z (fun h' hc' hs => ?_)
   obtain ⟨oc, hoc, hocd⟩ := id z
   refine h { s with heap := h' } ⟨I.ok, I.os, I.bare, ⟨fun b o e n hb hx => ?_, fun b o e n hb hx => ?_, I.base.free, fun b o e hx => ?_, I.base.tups, I.base.frzs, I.base.tbls⟩, ⟨m, hn.sameBut hs (Ne.symm (cne x c hc)), fun j y v' e1 e2 e3 => ?_⟩, fun y c' e => ?_, I.free, I.freeC, fun p hp => ?_, tracked ⟨oc, hoc, I.freeC x c hc⟩ hs, by simpa using I.len⟩ ⟨c, hs, .inr hc⟩
   · exact (hs.2 b (Nat.ne_of_lt (Nat.lt_of_lt_of_le (Heap.lt_size e) (I.ok.cab x c hfn hc)))).trans (I.base.keep b o e n hb hx)
   · obtain ⟨sl, e1⟩ := I.base.slot b o e n hb hx
     exact ⟨sl, (hs.2 b (Nat.ne_of_lt (Nat.lt_of_lt_of_le (Heap.lt_size e) (I.ok.cab x c hfn hc)))).trans e1⟩
   · obtain ⟨o', e1⟩ := I.base.there b o e hx
     exact ⟨o', (hs.2 b (Nat.ne_of_lt (Nat.lt_of_lt_of_le (Heap.lt_size e) (I.ok.cab x c hfn hc)))).trans e1⟩
   · by_cases hj : j = i
     · subst hj
       rw [hi] at e1; cases e1
       rw [List.getElem?_set_self hiσ] at e2
       cases e2
       exact ⟨u, r, .inr ⟨.inl hk, c, hc, hc'⟩⟩
     · rw [List.getElem?_set_ne (Ne.symm hj)] at e2
       obtain ⟨u', r', q⟩ := hl j y v' e1 e2 e3
       refine ⟨u', r', ?_⟩
       rcases q with q | ⟨k, c', e, z'⟩
       · exact .inl q
       · refine .inr ⟨k, c', e, z'.sameBut hs ?_⟩
         rintro rfl
         exact hj (zh3 hN e1 (I.ok.inj _ _ _ e hc ▸ hi))
   · by_cases hcc : c' = c
     · subst hcc; exact ⟨_, hc'⟩
     · obtain ⟨w2, z2⟩ := I.cell y c' e
       exact ⟨w2, z2.sameBut hs hcc⟩
   · obtain ⟨e, n, ne, nf, d⟩ := I.pin p hp
     refine ⟨(hs.2 p.1 ?_).trans e, n, ne, nf, d⟩
     intro q
     rw [q, hoc] at e
     have q' : oc = p.2 := Option.some.inj e
     exact d w' (by rw [← q']; exact hocd)
theorem zh4 {M : Model} {A : Around} {E : Value → Shared → Prop} {i : Nat} {x : Str} {v : V} {u : Value} {Q : Unit → Shared → Prop} (I : Inv X pins σ H s) (hN : X.N.Nodup) (hi : X.N[i]? = some x) (hx : Loc X.env.scope x) (r : dG v u)
 (h : ∀ s', Inv X pins (σ.set i (some v)) H s' → Q () s') (hf : X.fn x = true ∨ X.env.scope.names.lookup x = some .local := by first | exact .inl rfl | exact .inr rfl | assumption) : wpAny M A (storeName X.env x u) Q E s :=
 yG I hN hi hx r (fun s' I' _ => h s' I') hf
theorem Inv.call' {s' : Shared} {ch : List Addr} (I : Inv X pins σ H s) (ho : s'.os = s.os) (u : Un (frs X.stack) ch H H' s.heap s'.heap) (hok : uQ X.prog X.w H' s'.heap) (hg : AllBare s'.gens)
 (hch : ∀ b ∈ ch, (b ∈ X.ex ∨ X.s₀.heap.objs.size ≤ b) ∧ b ≠ X.env.locals ∧ (∀ x c, X.env.cells.lookup x = some c → c ≠ b) ∧ ∀ p ∈ X.pn ++ pins, p.1 ≠ b) : Inv X pins σ H' s' := by
 obtain ⟨h', g', d', t', o'⟩ := s'
 have e : o' = s.os := ho
 subst e
 exact I.call (g' := g') (t' := t') (d' := d') u hok hg hch
end
noncomputable abbrev XK := Value → Option Addr → Hp → Prop
noncomputable abbrev St := List (Option V)
noncomputable abbrev VK := V → Hp → Prop
noncomputable abbrev TE := St → Hp → VK → Prop
noncomputable abbrev TT := St → Hp → (Bool → Hp → Prop) → Prop
noncomputable abbrev TA := St → Hp → (List V → Hp → Prop) → Prop
structure Ends where
 nx : St → Hp → Prop
 rt : VK
 bk : St → Hp → Prop := fun _ _ => False
 ct : St → Hp → Prop := fun _ _ => False
noncomputable abbrev TS := Ends → St → Hp → Prop
inductive EP (X : Cx) (pins : List (Addr × Obj)) (σ : St) (Q : VK) (u : Value) (s' : Shared) : Prop
 | mk (v : V) (H' : Hp) (inv : Inv X pins σ H' s') (rel : dG v u) (q : Q v H') : EP X pins σ Q u s'
inductive TP (X : Cx) (pins : List (Addr × Obj)) (σ : St) (Q : Bool → Hp → Prop) (b : Bool) (s' : Shared) : Prop
 | mk (H' : Hp) (inv : Inv X pins σ H' s') (q : Q b H') : TP X pins σ Q b s'
inductive AP (X : Cx) (pins : List (Addr × Obj)) (σ : St) (Q : List V → Hp → Prop) (us : List Value) (s' : Shared) : Prop
 | mk (vs : List V) (H' : Hp) (inv : Inv X pins σ H' s') (rel : bU vs us) (q : Q vs H') : AP X pins σ Q us s'
inductive SN (X : Cx) (pins : List (Addr × Obj)) (Q : St → Hp → Prop) (s' : Shared) : Prop
 | mk (σ' : St) (H' : Hp) (inv : Inv X pins σ' H' s') (q : Q σ' H') : SN X pins Q s'
inductive SR (X : Cx) (pins : List (Addr × Obj)) (Q : VK) (u : Value) (s' : Shared) : Prop
 | mk (v : V) (σ' : St) (H' : Hp) (inv : Inv X pins σ' H' s') (rel : dG v u) (q : Q v H') : SR X pins Q u s'
noncomputable def SP (X : Cx) (pins : List (Addr × Obj)) (D : Ends) (f : Flow) (s' : Shared) : Prop :=
 match f with
 | .next => SN X pins D.nx s'
 | .brk => SN X pins D.bk s'
 | .cont => SN X pins D.ct s'
 | .ret u => SR X pins D.rt u s'
noncomputable def PE (X : Cx) (e : Expr) (t : TE) : Prop :=
 ∀ (pins : List (Addr × Obj)) (s : Shared) (σ : St) (H : Hp) (Q : VK), Inv X pins σ H s → t σ H Q → wpAny (model X.prog X.w) X.A (eval e X.env) (EP X pins σ Q) X.xe s
noncomputable def PT (X : Cx) (e : Expr) (t : TT) : Prop :=
 ∀ (pins : List (Addr × Obj)) (s : Shared) (σ : St) (H : Hp) (Q : Bool → Hp → Prop), Inv X pins σ H s → t σ H Q → wpAny (model X.prog X.w) X.A (isTrue e X.env (eval e X.env)) (TP X pins σ Q) X.xe s
noncomputable def PW (X : Cx) (e : Expr) (t : TT) : Prop :=
 ∀ (whole : Sem Value) (pins : List (Addr × Obj)) (s : Shared) (σ : St) (H : Hp) (Q : Bool → Hp → Prop), Inv X pins σ H s → t σ H Q → wpAny (model X.prog X.w) X.A (isTrue e X.env whole) (TP X pins σ Q) X.xe s
noncomputable def PA (X : Cx) (es : List Expr) (t : TA) : Prop :=
 ∀ (pos : Pos) (pins : List (Addr × Obj)) (s : Shared) (σ : St) (H : Hp) (Q : List V → Hp → Prop), Inv X pins σ H s → t σ H Q → wpAny (model X.prog X.w) X.A (spliced (backTo pos (starEach es X.env))) (AP X pins σ Q) X.xe s
noncomputable def PS (X : Cx) (st : Stmt) (t : TS) : Prop :=
 ∀ (pins : List (Addr × Obj)) (s : Shared) (σ : St) (H : Hp) (D : Ends), Inv X pins σ H s → t D σ H → wpAny (model X.prog X.w) X.A (exec st X.env) (SP X pins D) X.xe s
noncomputable def PSs (X : Cx) (st : List Stmt) (t : TS) : Prop :=
 ∀ (pins : List (Addr × Obj)) (s : Shared) (σ : St) (H : Hp) (D : Ends), Inv X pins σ H s → t D σ H → wpAny (model X.prog X.w) X.A (execs st X.env) (SP X pins D) X.xe s
theorem thn {α : Type} {t : Sem α} {Q Q' : α → Shared → Prop} {M : Model} {A : Around} {E : Value → Shared → Prop} {s : Shared} (h : wpAny M A t Q E s) (hQ : ∀ a s, Q a s → Q' a s) : wpAny M A t Q' E s := wpAny_mono h hQ fun _ _ x => x
end L2
namespace L2
open PySem PySem.Spec PyProof.Rows
section
variable {X : Cx}
theorem bin {a b : Expr} {ta tb : TE} (ha : PE X a ta) (hb : PE X b tb) {pins : List (Addr × Obj)} {s : Shared} {σ : St} {H : Hp} {R : V → V → Hp → Prop} (I : Inv X pins σ H s) (h : ta σ H fun x H1 => tb σ H1 fun y H2 => R x y H2)
 {α : Type} {Q : α → Shared → Prop} {f : Value → Value → Sem α}
 (hf : ∀ v u s2 x y H2, Inv X pins σ H2 s2 → dG x v → dG y u → R x y H2 → wpAny (model X.prog X.w) X.A (f v u) Q X.xe s2) :
 wpAny (model X.prog X.w) X.A (eval a X.env) (fun v s₁ => wpAny (model X.prog X.w) X.A (eval b X.env) (fun u s₂ => wpAny (model X.prog X.w) X.A (f v u) Q X.xe s₂) X.xe s₁) X.xe s := by
 refine thn (ha pins s σ H _ I h) fun v s1 ⟨x, H1, I1, r1, q1⟩ => ?_
 refine thn (hb pins s1 σ H1 _ I1 q1) fun u s2 ⟨y, H2, I2, r2, q2⟩ => ?_
 exact hf v u s2 x y H2 I2 r1 r2 q2
noncomputable def tVar (i : Nat) : TE := fun σ H Q => ∃ v, σ[i]? = some (some v) ∧ Q v H
noncomputable def tC (v : V) : TE := fun _ H Q => Q v H
theorem zx8 {i : Nat} {x : Str} {pos : Pos} (hN : X.N[i]? = some x) (hv : Vis X.env.scope x) (hd : (x == ("__debug__" : Str)) = false := by decide) (hcd : (x == ("__classdict__" : Str)) = false := by decide) : PE X (.Name x pos) (tVar i) := by
 intro pins s σ H Q I h
 obtain ⟨v, e, h⟩ := h
 obtain ⟨m, hn, hl⟩ := I.loc
 obtain ⟨u, r, l⟩ := hl i x v hN e hv
 have fin : EP X pins σ Q u s := ⟨v, H, I, r, h⟩
 rcases l with ⟨hk, hm⟩ | ⟨hk, c, hc, hcell⟩
 · exact wpAny_Name (wpAny_loadName_local I.ok.kind hk hn hm fin) hd
 · rcases hk with hk | hk
   · exact wpAny_Name (wpAny_loadName_cell I.ok.kind hk hc hcell fin) hd
   · exact wpAny_Name (wpAny_loadName_free I.ok.kind hk hc hcell fin hcd) hd
theorem zqm {i j pos} : PE X (.Constant (.int i) j pos) (tC (.int i)) := fun _ _ _ H _ I h => wpAny_Constant_int ⟨.int i, H, I.tok _, ⟨_, rfl⟩, h⟩
theorem zaap {b j pos} : PE X (.Constant (.bool b) j pos) (tC (.bl b)) := fun _ _ _ H _ I h => Constant_bool ⟨.bl b, H, I, rfl, h⟩
theorem zx9 {j pos} : PE X (.Constant .none j pos) (tC .non) := fun _ _ _ H _ I h => Constant_none ⟨.non, H, I, rfl, h⟩
theorem zya {x j pos} : PE X (.Constant (.str x) j pos) (tC (.str x)) := fun _ _ _ H _ I h => Calls.Constant_str ⟨.str x, H, I.tok _, ⟨_, rfl⟩, h⟩
noncomputable def Gl (X : Cx) (x : Str) : Prop := X.env.kindOf x = some .globalImplicit
theorem qG {E : Value → Shared → Prop} {pins : List (Addr × Obj)} {s : Shared} {σ : St} {H : Hp} {x : Str} {u : Value} {pos : Pos} {Q : Value → Shared → Prop} (I : Inv X pins σ H s) (hg : Gl X x) (hm : X.mg x = some u) (h : Q u s)
 (hd : (x == ("__debug__" : Str)) = false := by decide) : wpAny (model X.prog X.w) X.A (eval (.Name x pos) X.env) Q E s :=
 Calls.Name_function_global I.ok.kind hg (Calls.loadGlobal_global (by rw [I.ok.glob]; exact I.mod.glob.keeps I.bk) hm h) hd
theorem vE {E : Value → Shared → Prop} {pins : List (Addr × Obj)} {s : Shared} {σ : St} {H : Hp} {x : Str} {u : Value} {pos : Pos} {Q : Value → Shared → Prop} (I : Inv X pins σ H s) (hg : Gl X x) (hm : X.mg x = none) (hv : bootBuiltins x = some u) (h : Q u s)
 (hn : x ≠ "__name__" := by decide) (hd : (x == ("__debug__" : Str)) = false := by decide) : wpAny (model X.prog X.w) X.A (eval (.Name x pos) X.env) Q E s := by
 obtain ⟨mb, h1, h2⟩ := I.mod.blt
 exact Calls.Name_function_global I.ok.kind hg (Calls.loadGlobal_builtin (by rw [I.ok.glob]; exact I.mod.glob.keeps I.bk) hm (by rw [I.ok.blt]; exact h1.keeps I.bk) ((h2 x hn).trans hv) h) hd
theorem zuw {x : Str} {v : V} {u : Value} {pos : Pos} (hg : Gl X x) (hm : X.mg x = some u) (r : dG v u) (hd : (x == ("__debug__" : Str)) = false := by decide) : PE X (.Name x pos) (tC v) :=
 fun _ _ _ H _ I h => qG I hg hm ⟨v, H, I, r, h⟩ hd
theorem zfs {x : Str} {v : V} {u : Value} {pos : Pos} (hg : Gl X x) (hm : X.mg x = none) (hv : bootBuiltins x = some u) (r : dG v u) (hn : x ≠ "__name__" := by decide) (hd : (x == ("__debug__" : Str)) = false := by decide) : PE X (.Name x pos) (tC v) :=
 fun _ _ _ H _ I h => vE I hg hm hv ⟨v, H, I, r, h⟩ hn hd
variable {a b : Expr} {ta tb : TE} {pos : Pos}
theorem zh5 (b : Expr) {op : CmpOp} (h : op ≠ .In) (h2 : op ≠ .NotIn) : behindInMarks op b = false := by
 have e1 : (op == CmpOp.In) = false := by cases op <;> first | rfl | exact absurd rfl h
 have e2 : (op == CmpOp.NotIn) = false := by cases op <;> first | rfl | exact absurd rfl h2
 cases b <;> simp [behindInMarks, e1, e2]
variable {tA tB' : TT} {rest : List Expr}
noncomputable def tAnd (t u : TT) : TT := fun σ H Q => t σ H fun c H1 => if c = true then u σ H1 Q else Q false H1
noncomputable def tOr (t u : TT) : TT := fun σ H Q => t σ H fun c H1 => if c = true then Q true H1 else u σ H1 Q
noncomputable def tNot (t : TT) : TT := fun σ H Q => t σ H fun c H1 => Q (!c) H1
theorem zux (ha : PT X a tA) : PW X (.BoolOp .And [a] pos) tA := by
 intro wh pins s σ H Q I h
 refine isTrue_and (thn (ha pins s σ H Q I h) fun c s1 e => ?_)
 cases c with
 | true => exact isTrue_and_nil e
 | false => exact e
theorem zyb (ha : PT X a tA) : PW X (.BoolOp .Or [a] pos) tA := by
 intro wh pins s σ H Q I h
 refine isTrue_or (thn (ha pins s σ H Q I h) fun c s1 e => ?_)
 cases c with
 | false => exact isTrue_or_nil e
 | true => exact e
theorem zyc (ha : PT X a tA) (hb : PW X (.BoolOp .And (b :: rest) pos) tB') : PW X (.BoolOp .And (a :: b :: rest) pos) (tAnd tA tB') := by
 intro wh pins s σ H Q I h
 refine isTrue_and (thn (ha pins s σ H _ I h) fun c s1 ⟨H1, I1, q1⟩ => ?_)
 cases c with
 | true => exact hb wh pins s1 σ H1 Q I1 q1
 | false => exact ⟨H1, I1, q1⟩
theorem zaar (ha : PT X a tA) (hb : PW X (.BoolOp .Or (b :: rest) pos) tB') : PW X (.BoolOp .Or (a :: b :: rest) pos) (tOr tA tB') := by
 intro wh pins s σ H Q I h
 refine isTrue_or (thn (ha pins s σ H _ I h) fun c s1 ⟨H1, I1, q1⟩ => ?_)
 cases c with
 | true => exact ⟨H1, I1, q1⟩
 | false => exact hb wh pins s1 σ H1 Q I1 q1
theorem zyd (ha : PT X a tA) : PT X (.UnaryOp .Not a pos) (tNot tA) := by
 intro pins s σ H Q I h
 exact isTrue_not (thn (ha pins s σ H (fun c H1 => Q (!c) H1) I h) fun c s1 ⟨H1, i, q⟩ => ⟨H1, i, q⟩)
noncomputable def zaas (ta tb : TE) : TE := fun σ H Q => ta σ H fun x H1 => ∃ c, x = .bl c ∧ if c = true then tb σ H1 Q else Q (.bl false) H1
noncomputable def tOrV (ta tb : TE) : TE := fun σ H Q => ta σ H fun x H1 => ∃ c, x = .bl c ∧ if c = true then Q (.bl true) H1 else tb σ H1 Q
noncomputable def zaat (ta : TE) : TE := fun σ H Q => ta σ H fun x H1 => ∃ c, x = .bl c ∧ Q (.bl (!c)) H1
theorem zye {op} {t : TE} (h : PE X a t) : PE X (.BoolOp op [a] pos) t := fun pins s σ H Q I hw => BoolOp_one (h pins s σ H Q I hw)
theorem zyf (ha : PE X a ta) (hb : PE X (.BoolOp .And (b :: rest) pos) tb) : PE X (.BoolOp .And (a :: b :: rest) pos) (zaas ta tb) := by
 intro pins s σ H Q I h
 refine BoolOp_and (thn (ha pins s σ H _ I h) fun v s1 ⟨x, H1, I1, r1, q1⟩ => ?_)
 obtain ⟨c, rfl, q1⟩ := q1
 cases r1
 refine wpAny_truthy_bool ?_
 cases c with
 | true => exact hb pins s1 σ H1 Q I1 q1
 | false => exact ⟨.bl false, H1, I1, rfl, q1⟩
theorem zaau (ha : PE X a ta) (hb : PE X (.BoolOp .Or (b :: rest) pos) tb) : PE X (.BoolOp .Or (a :: b :: rest) pos) (tOrV ta tb) := by
 intro pins s σ H Q I h
 refine BoolOp_or (thn (ha pins s σ H _ I h) fun v s1 ⟨x, H1, I1, r1, q1⟩ => ?_)
 obtain ⟨c, rfl, q1⟩ := q1
 cases r1
 refine wpAny_truthy_bool ?_
 cases c with
 | false => exact hb pins s1 σ H1 Q I1 q1
 | true => exact ⟨.bl true, H1, I1, rfl, q1⟩
theorem zyg (ha : PE X a ta) : PE X (.UnaryOp .Not a pos) (zaat ta) := by
 intro pins s σ H Q I h
 refine UnaryOp_ (thn (ha pins s σ H _ I h) fun v s1 ⟨x, H1, I1, r1, q1⟩ => ?_)
 obtain ⟨c, rfl, q1⟩ := q1
 cases r1
 exact not_of (wpAny_truthy_bool ⟨.bl (!c), H1, I1, rfl, q1⟩)
end
end L2
namespace L2
open PySem PySem.Spec PyProof.Rows
noncomputable def uR (K : W.Frag) (H : Hp) (a : Addr) (xs : List V) : Prop :=
 Rd H a (.lst xs) ∨
  ∃ (o : Obj) (its : Array Value) (n : Nat), K.lookup a = some o ∧ o.cls = .type "list" ∧ o.dict = none ∧ o.data = .seq its n ∧ its.size ≤ sizeLine ∧ bU xs its.toList
noncomputable def SqT (K : W.Frag) (H : Hp) (a : Addr) (xs : List V) : Prop :=
 Rd H a (.tup xs) ∨
  ∃ (o : Obj) (its : Array Value) (n : Nat), K.lookup a = some o ∧ o.cls = .type "tuple" ∧ o.data = .seq its n ∧ its.size ≤ sizeLine ∧ bU xs its.toList
noncomputable def absV : Value → Option V
 | .none => some .non
 | .bool b => some (.bl b)
 | .int i _ => some (.int i)
 | .str x _ => some (.str x)
 | .bytes b _ => some (.byt b)
 | .float b _ => some (.flt b)
 | .ref a => some (.ref a)
 | .type n => some (.ty n)
 | _ => none
theorem dG.abs {x : V} {u : Value} (r : dG x u) : absV u = some x := by
 cases x with
 | non => cases r; rfl
 | bl _ => cases r; rfl
 | int _ => obtain ⟨t, rfl⟩ := r; rfl
 | str _ => obtain ⟨t, rfl⟩ := r; rfl
 | byt _ => obtain ⟨t, rfl⟩ := r; rfl
 | flt _ => obtain ⟨t, rfl⟩ := r; rfl
 | ref _ => cases r; rfl
 | ty _ => cases r; rfl
theorem dG.inj {x y : V} {u : Value} (r : dG x u) (q : dG y u) : x = y := Option.some.inj (r.abs.symm.trans q.abs)
theorem bU.inj : ∀ {xs ys : List V} {us : List Value}, bU xs us → bU ys us → xs = ys
 | _, _, _, .nil, .nil => rfl
 | _, _, _, .cons r t, .cons r' t' => by rw [r.inj r', bU.inj t t']
section
variable {X : Cx} {pins : List (Addr × Obj)} {σ : St} {H : Hp} {s : Shared} {a : Addr} {xs ys : List V}
theorem uR.of {K : W.Frag} (h : H a = some (.lst xs)) : uR K H a xs := .inl (.inl h)
theorem Inv.list (I : Inv X pins σ H s) (h : uR X.K H a xs) : ∃ its : List Value, bU xs its ∧ PlainL s.heap a its.toArray ∧ xs.length ≤ sizeLine := by
 rcases h with h | ⟨o, its, n, hk, hc, hd, hs, hz, r⟩
 · obtain ⟨z, its, n, r, e⟩ := h.ok I.hok
   exact ⟨its, r, ⟨_, n, e, rfl, rfl, rfl⟩, z⟩
 · refine ⟨its.toList, r, ⟨o, n, I.kIn a o hk, hc, hd, by simpa using hs⟩, ?_⟩
   have e := r.length
   simp only [Array.length_toList] at e
   omega
theorem Inv.tuple (I : Inv X pins σ H s) (h : SqT X.K H a xs) : ∃ its : List Value, bU xs its ∧ IsTup s.heap a its.toArray ∧ xs.length ≤ sizeLine := by
 rcases h with h | ⟨o, its, n, hk, hc, hs, hz, r⟩
 · obtain ⟨z, its, r, p⟩ := h.ok I.hok
   exact ⟨its, r, p, z⟩
 · refine ⟨its.toList, r, ⟨o, I.kIn a o hk, hc, n, by simpa using hs⟩, ?_⟩
   have e := r.length
   simp only [Array.length_toList] at e
   omega
theorem Inv.list_inj (I : Inv X pins σ H s) (h : uR X.K H a xs) (h' : uR X.K H a ys) : xs = ys := by
 obtain ⟨its, r, ⟨o, n, e, _, _, d⟩, _⟩ := I.list h
 obtain ⟨its', r', ⟨o', n', e', _, _, d'⟩, _⟩ := I.list h'
 rw [e] at e'; cases e'
 rw [d] at d'
 injection d' with d1 _
 have : its = its' := by simpa using congrArg Array.toList d1
 subst this
 exact r.inj r'
end
noncomputable abbrev Cx.wish (X : Cx) (E : Value → Shared → Prop) : Cx := { X with xe := E }
noncomputable abbrev Cx.nox (X : Cx) : Cx := X.wish fun _ _ => False
theorem Cx.Ok.wish {X : Cx} (ok : X.Ok) (E : Value → Shared → Prop) : (X.wish E).Ok :=
 ⟨ok.mod, ok.kind, ok.glob, ok.blt, ok.above, ok.inj, ok.has, ok.cab, ok.hd, ok.frames, ok.stk, ok.exf, ok.bs, ok.bsz, ok.noex, ok.exfs, ok.funs, ok.frf⟩
theorem Cx.Ok.unwish {X : Cx} {E : Value → Shared → Prop} (ok : (X.wish E).Ok) : X.Ok :=
 ⟨ok.mod, ok.kind, ok.glob, ok.blt, ok.above, ok.inj, ok.has, ok.cab, ok.hd, ok.frames, ok.stk, ok.exf, ok.bs, ok.bsz, ok.noex, ok.exfs, ok.funs, ok.frf⟩
section
variable {X : Cx} {pins : List (Addr × Obj)} {σ : St} {H : Hp} {s : Shared} {E : Value → Shared → Prop}
theorem Inv.wish (I : Inv X pins σ H s) (E : Value → Shared → Prop) : Inv (X.wish E) pins σ H s := ⟨I.ok.wish E, I.os, I.bare, I.base, I.loc, I.cell, I.free, I.freeC, I.pin, I.hok, I.len⟩
theorem Inv.unwish (I : Inv (X.wish E) pins σ H s) : Inv X pins σ H s := ⟨I.ok.unwish, I.os, I.bare, I.base, I.loc, I.cell, I.free, I.freeC, I.pin, I.hok, I.len⟩
theorem SP.unwish {D : Ends} {f : Flow} {s' : Shared} (h : SP (X.wish E) pins D f s') : SP X pins D f s' := by
 cases f with
 | next => obtain ⟨σ', H', I, q⟩ := h; exact ⟨σ', H', I.unwish, q⟩
 | brk => obtain ⟨σ', H', I, q⟩ := h; exact ⟨σ', H', I.unwish, q⟩
 | cont => obtain ⟨σ', H', I, q⟩ := h; exact ⟨σ', H', I.unwish, q⟩
 | ret u => obtain ⟨v, σ', H', I, r, q⟩ := h; exact ⟨v, σ', H', I.unwish, r, q⟩
theorem PE.nox {e : Expr} {t : TE} (h : PE X.nox e t) : PE X e t := fun pins s σ H Q I hw =>
 wpAny_mono (h pins s σ H Q (I.wish _) hw) (fun _ _ ⟨v, H', I', r, q⟩ => ⟨v, H', I'.unwish, r, q⟩) fun _ _ z => False.elim z
theorem PT.nox {e : Expr} {t : TT} (h : PT X.nox e t) : PT X e t := fun pins s σ H Q I hw =>
 wpAny_mono (h pins s σ H Q (I.wish _) hw) (fun _ _ ⟨H', I', q⟩ => ⟨H', I'.unwish, q⟩) fun _ _ z => False.elim z
theorem PSs.nox {st : List Stmt} {t : TS} (h : PSs X.nox st t) : PSs X st t := fun pins s σ H D I hw =>
 wpAny_mono (h pins s σ H D (I.wish _) hw) (fun _ _ q => q.unwish) fun _ _ z => False.elim z
end
section
variable {X : Cx} {st : Stmt} {rest : List Stmt} {t u : TS} {e : Expr} {te : TE} {pos : Pos}
noncomputable def zaav : TS := fun D σ H => D.nx σ H
noncomputable def tSeq (t u : TS) : TS := fun D σ H => t { D with nx := u D } σ H
theorem zuy : PSs X [] zaav := fun _ _ σ H _ I h => wpAny_execs_nil ⟨σ, H, I, h⟩
theorem zqn (h1 : PS X st t) (h2 : PSs X rest u) : PSs X (st :: rest) (tSeq t u) := by
 intro pins s σ H D I h
 refine wpAny_execs_cons (thn (h1 pins s σ H { D with nx := u D } I h) fun f s1 q => ?_)
 cases f with
 | next =>
   obtain ⟨σ', H', I', q⟩ := q
   exact h2 pins s1 σ' H' D I' q
 | ret v => exact q
 | brk => exact q
 | cont => exact q
theorem zuz (h1 : PS X st t) : PSs X [st] t := by
 intro pins s σ H D I h
 refine wpAny_execs_cons (thn (h1 pins s σ H D I h) fun f s1 q => ?_)
 cases f with
 | next => exact wpAny_execs_nil q
 | ret v => exact q
 | brk => exact q
 | cont => exact q
theorem Inv.quiet {pins : List (Addr × Obj)} {σ : St} {H : Hp} {s : Shared} (I : Inv X pins σ H s) : interactive X.env = false := by simp [interactive, I.ok.kind]
noncomputable def zaax (te : TE) : TS := fun D σ H => te σ H fun _ H1 => D.nx σ H1
theorem zu0 (he : PE X e te) (hs : swapsWith e none pos.line X.env = pure false := by rfl) : PS X (.Expr e pos) (zaax te) := by
 intro pins s σ H D I h
 exact wpAny_Expr_any (thn (he pins s σ H _ I h) fun v s1 ⟨x, H1, I1, r1, q1⟩ => ⟨σ, H1, I1, q1⟩) I.quiet hs
noncomputable def tRet (te : TE) : TS := fun D σ H => te σ H D.rt
theorem zqo (he : PE X e te) : PS X (.Return (some e) pos) (tRet te) := by
 intro pins s σ H D I h
 exact wpAny_Return_some (thn (he pins s σ H _ I h) fun v s1 ⟨x, H1, I1, r1, q1⟩ => ⟨x, σ, H1, I1, r1, q1⟩)
noncomputable def tIfS (c : TT) (t u : TS) : TS := fun D σ H => c σ H fun b H1 => if b = true then t D σ H1 else u D σ H1
theorem zxh {c : Expr} {a b : List Stmt} {tc : TT} (hc : PT X c tc) (ha : PSs X a t) (hb : PSs X b u) : PS X (.If c a b pos) (tIfS tc t u) := by
 intro pins s σ H D I h
 refine wpAny_If (thn (hc pins s σ H _ I h) fun d s1 ⟨H1, I1, q1⟩ => ?_)
 cases d with
 | true => exact ha pins s1 σ H1 D I1 q1
 | false => exact hb pins s1 σ H1 D I1 q1
end
noncomputable abbrev TG := V → St → Hp → (St → Hp → Prop) → Prop
noncomputable abbrev TGs := List V → St → Hp → (St → Hp → Prop) → Prop
noncomputable def PG (X : Cx) (target : Expr) (t : TG) : Prop :=
 ∀ (pins : List (Addr × Obj)) (s : Shared) (σ : St) (H : Hp) (v : V) (u : Value) (Q : St → Hp → Prop), Inv X pins σ H s → dG v u → t v σ H Q →
   wpAny (model X.prog X.w) X.A (assign target X.env u) (fun _ s' => ∃ σ' H', Inv X pins σ' H' s' ∧ Q σ' H') X.xe s
noncomputable def PGs (X : Cx) (ts : List Expr) (t : TGs) : Prop :=
 ∀ (pins : List (Addr × Obj)) (s : Shared) (σ : St) (H : Hp) (vs : List V) (us : List Value) (Q : St → Hp → Prop), Inv X pins σ H s → bU vs us → t vs σ H Q →
   wpAny (model X.prog X.w) X.A (assignInOrder ((assignEach ts X.env).map (·.2)) us) (fun _ s' => ∃ σ' H', Inv X pins σ' H' s' ∧ Q σ' H') X.xe s
section
variable {X : Cx} {pos : Pos}
noncomputable def zbq (i : Nat) : TG := fun v σ H Q => Q (σ.set i (some v)) H
theorem mQ {i : Nat} {x : Str} (hN : X.N.Nodup) (hi : X.N[i]? = some x) (hx : Loc X.env.scope x) (hf : X.fn x = true ∨ X.env.scope.names.lookup x = some .local := by first | exact .inl rfl | exact .inr rfl | assumption) : PG X (.Name x pos) (zbq i) := by
 intro pins s σ H v u Q I r h
 exact wpAny_assign_Name (zh4 I hN hi hx r (fun s' I' => ⟨_, H, I', h⟩) hf)
noncomputable def gNil : TGs := fun vs σ H Q => vs = [] ∧ Q σ H
noncomputable def zqp (t : TG) (u : TGs) : TGs := fun vs σ H Q => ∃ v r, vs = v :: r ∧ t v σ H fun σ' H' => u r σ' H' Q
theorem zu1 : PGs X [] gNil := by
 intro pins s σ H vs us Q I r h
 obtain ⟨e, h⟩ := h
 subst e
 cases r
 exact assignInOrder_nil ⟨σ, H, I, h⟩
theorem zh6 {e : Expr} {es : List Expr} {t : TG} {u : TGs} (h1 : PG X e t) (h2 : PGs X es u)
 (hs : (assignEach (e :: es) X.env).map (·.2) = assign e X.env :: (assignEach es X.env).map (·.2) := by rfl) : PGs X (e :: es) (zqp t u) := by
 intro pins s σ H vs us Q I r h
 obtain ⟨v, vr, e1, h⟩ := h
 subst e1
 cases r with
 | cons r rr =>
   rw [hs]
   refine assignInOrder_cons (thn (h1 pins s σ H _ _ _ I r h) fun _ s1 ⟨σ1, H1, I1, q1⟩ => ?_)
   exact h2 pins s1 σ1 H1 _ _ Q I1 rr q1
noncomputable def gTup (K : W.Frag) (n : Nat) (t : TGs) : TG := fun v σ H Q => ∃ a xs, v = .ref a ∧ SqT K H a xs ∧ xs.length = n ∧ t xs σ H Q
theorem zyi {es : List Expr} {k : Nat} {t : TGs} {n : Nat} (hc : X.calm = true) (h : PGs X es t)
 (hn : (assignEach es X.env).length = n := by rfl) (hst : (assignEach es X.env).findIdx? (·.1) = none := by rfl) : PG X (.Tuple es k pos) (gTup X.K n t) := by
 intro pins s σ H v u Q I r hw
 obtain ⟨a, xs, e1, hq, hl, hw⟩ := hw
 subst e1
 cases r
 obtain ⟨its, rv, ht, hz⟩ := I.tuple hq
 refine assign_Tuple_tuple (I.ok.hd hc) ht (by simp [hn, ← hl, rv.length]) hst fun h' hx => ?_
 have I1 : Inv X pins σ H { s with heap := h' } := I.kept (t' := s.toks) fun b o e => hx b o (Nat.ne_of_lt (Heap.lt_size e)) e
 exact h pins _ σ H xs _ Q I1 (by simpa using rv) hw
noncomputable def tAsg (te : TE) (g : TG) : TS := fun D σ H => te σ H fun x H1 => g x σ H1 D.nx
theorem zqq {i : Nat} {x : Str} {e : Expr} {te : TE} {pos' : Pos} (hN : X.N.Nodup) (hi : X.N[i]? = some x) (hx : Loc X.env.scope x) (he : PE X e te) (hs : swapsWith e (some (.Name x pos')) pos.line X.env = pure false := by rfl) (hf : X.fn x = true ∨ X.env.scope.names.lookup x = some .local := by first | exact .inl rfl | exact .inr rfl | assumption) :
 PS X (.Assign [.Name x pos'] e pos) (tAsg te (zbq i)) := by
 intro pins s σ H D I h
 refine wpAny_Assign_Name (thn (he pins s σ H _ I h) fun v s1 ⟨y, H1, I1, r1, q1⟩ => ?_) hs
 exact zh4 I1 hN hi hx r1 (fun s2 I2 => ⟨_, H1, I2, q1⟩) hf
end
section
variable {X : Cx} {pos : Pos}
noncomputable def zqr (c : TT) (tb : TS) : TS := fun D σ H => ∃ W : Nat → St → Hp → Prop, (∃ m, W m σ H) ∧ ∀ m σ H, W m σ H →
 c σ H fun b H1 => if b = true then ∃ N : St → Hp → Prop, (∀ σ' H', N σ' H' → ∃ m', m' < m ∧ W m' σ' H') ∧ tb { D with nx := N, ct := N, bk := D.nx } σ H1 else D.nx σ H1
theorem zqs {c : Expr} {body : List Stmt} {tc : TT} {tb : TS} (hp : PassesOwn (model X.prog X.w) X.A X.env X.xe) (hc : PT X c tc) (hb : PSs X body tb) : PS X (.While c body [] pos) (zqr tc tb) := by
 intro pins s σ H D I h
 obtain ⟨W, ⟨m0, w0⟩, turn⟩ := h
 refine wpAny_While (codeAny_whileLoop (fun n s' => ∃ σ' H', Inv X pins σ' H' s' ∧ W n σ' H') ?_ m0 ⟨σ, H, I, w0⟩)
 rintro n s1 ⟨σ1, H1, I1, w1⟩
 refine wpAny_passesOwn hp (thn (hc pins s1 σ1 H1 _ I1 (turn n σ1 H1 w1)) fun b s2 ⟨H2, I2, q2⟩ => ?_)
 cases b with
 | true =>
   obtain ⟨N, hN, q2⟩ := q2
   rw [if_pos rfl]
   refine wpAny_passesOwn hp (thn (hb pins s2 σ1 H2 _ I2 q2) fun f s3 q3 => ?_)
   cases f with
   | next =>
     obtain ⟨σ3, H3, I3, n3⟩ := q3
     obtain ⟨m', hm, w3⟩ := hN σ3 H3 n3
     exact ⟨m', hm, σ3, H3, I3, w3⟩
   | cont =>
     obtain ⟨σ3, H3, I3, n3⟩ := q3
     obtain ⟨m', hm, w3⟩ := hN σ3 H3 n3
     exact ⟨m', hm, σ3, H3, I3, w3⟩
   | brk => exact q3
   | ret v => exact q3
 | false =>
   rw [if_neg Bool.false_ne_true]
   exact wpAny_execs_nil ⟨σ1, H2, I2, q2⟩
end
structure It where
 go : Nat → Hp → Prop
 yld : Nat → Hp → V → Hp → Prop
 stop : Nat → Hp → Prop
noncomputable def jV (X : Cx) (pins : List (Addr × Obj)) (H : Hp) (b : Addr) : Prop :=
 H b = none ∧ b ≠ X.env.locals ∧ b ∉ X.fs ∧ (b ∈ X.ex ∨ X.s₀.heap.objs.size ≤ b) ∧ (∀ x c, X.env.cells.lookup x = some c → c ≠ b) ∧ ∀ p ∈ X.pn ++ pins, p.1 ≠ b
theorem Inv.fpOk {X : Cx} {pins : List (Addr × Obj)} {σ : St} {H H' : Hp} {s : Shared} {b : Addr} (I : Inv X pins σ H s) (hb : s.heap.objs.size ≤ b) (hn : H' b = none) : jV X pins H' b := by
 refine ⟨hn, Nat.ne_of_gt (Nat.lt_of_lt_of_le I.lt hb), I.nofs hb, .inr (Nat.le_trans I.sz hb), fun x c e z => ?_, fun p hp z => ?_⟩
 · obtain ⟨v, q⟩ := I.cell x c e
   exact absurd (Nat.lt_of_lt_of_le q.lt (by rw [z]; exact hb)) (Nat.lt_irrefl _)
 · exact absurd (Nat.lt_of_lt_of_le (Heap.lt_size (I.pin p hp).1) (by rw [z]; exact hb)) (Nat.lt_irrefl _)
structure Turn (P : Program) (w : World) (K : W.Frag) (tg : Expr) (J : It) (fp : List Addr) (it : Addr) (tn : Nat → Heap → Prop) : Prop where
 mem : it ∈ fp
 obj : ∀ i h, tn i h → ∀ b ∈ fp, ∃ o, h.get? b = some o ∧ ∀ v, o.data ≠ .cell v
 keep : ∀ i h h', tn i h → (∀ b ∈ fp, ∀ o, h.get? b = some o → h'.get? b = some o) → tn i h'
 item : ∀ (X : Cx), X.prog = P → X.w = w → X.K = K → X.calm = true → ∀ (i : Nat) (pins : List (Addr × Obj)) (s : Shared) (σ : St) (H : Hp) (E : Value → Shared → Prop), Inv X pins σ H s → (∀ b ∈ fp, jV X pins H b) → tn i s.heap → J.go i H →
  wpAny (model P w) X.A (pyNext (.ref it)) (fun r s1 => ∃ u, r = some u ∧
   wpAny (model P w) X.A (letOwnedTupleGo tg (.ref it) u) (fun _ s2 => ∃ x H', Inv X pins σ H' s2 ∧ dG x u ∧ J.yld i H x H' ∧ tn (i + 1) s2.heap ∧ ∀ b ∈ fp, H' b = none) E s1) E s
 done : ∀ (X : Cx), X.prog = P → X.w = w → X.K = K → X.calm = true → ∀ (i : Nat) (pins : List (Addr × Obj)) (s : Shared) (σ : St) (H : Hp) (E : Value → Shared → Prop), Inv X pins σ H s → (∀ b ∈ fp, jV X pins H b) → tn i s.heap → J.stop i H →
  wpAny (model P w) X.A (pyNext (.ref it)) (fun r s1 => r = none ∧ Inv X pins σ H s1) E s
 self : ∀ (A : Around) (i : Nat) (s : Shared) (Q : Value → Shared → Prop) (E : Value → Shared → Prop), tn i s.heap → Q (.ref it) s → wpAny (model P w) A (pyIter (.ref it)) Q E s
noncomputable abbrev TI := St → Hp → (It → Hp → Prop) → Prop
inductive PIE (X : Cx) (pins : List (Addr × Obj)) (σ : St) (tg : Expr) (R : It → Hp → Prop) (itv : Value) (s2 : Shared) : Prop
 | mk (it : Addr) (fp : List Addr) (tn : Nat → Heap → Prop) (J : It) (H' : Hp) (eit : itv = .ref it) (inv : Inv X pins σ H' s2) (turn : Turn X.prog X.w X.K tg J fp it tn) (t0 : tn 0 s2.heap) (fpok : ∀ b ∈ fp, jV X pins H' b) (r : R J H') : PIE X pins σ tg R itv s2
noncomputable def PI (X : Cx) (tg iter : Expr) (wi : TI) : Prop :=
 ∀ (pins : List (Addr × Obj)) (s : Shared) (σ : St) (H : Hp) (R : It → Hp → Prop), Inv X pins σ H s → wi σ H R →
   wpAny (model X.prog X.w) X.A (eval iter X.env) (fun v s1 => wpAny (model X.prog X.w) X.A (pyIter v) (PIE X pins σ tg R) X.xe s1) X.xe s
theorem zna {M : Model} {A : Around} {E : Value → Shared → Prop} {s : Shared} {tg : Expr} {it : Addr} {u : Value} {o : Obj} {n : String} {vs : Array Value} {Q : Unit → Shared → Prop} (ho : s.heap.get? it = some o) (hc : o.cls = .type n) (hd : o.data = .fields vs)
 (hn : ["enumerate", "zip", "dict_itemiterator", "dict_reverseitemiterator", "odict_iterator", "itertools.zip_longest", "itertools.pairwise"].contains n = false) (hQ : Q () s) : wpAny M A (letOwnedTupleGo tg (.ref it) u) Q E s := by
 unfold letOwnedTupleGo
 cases tg <;> first
  | exact wpAny_pure hQ
  | (cases u <;> first
      | exact wpAny_pure hQ
      | (refine wpAny_bind (wpAny_load ho ?_)
         rw [hc, hd]
         show wpAny M A (if (["enumerate", "zip", "dict_itemiterator", "dict_reverseitemiterator", "odict_iterator", "itertools.zip_longest", "itertools.pairwise"].contains n && vs[0]? == some (rawInt _)) = true then _ else _) Q E s
         rw [if_neg (by intro h; rw [hn, Bool.false_and] at h; cases h)]
         exact wpAny_pure hQ))
noncomputable def Itl (K : W.Frag) (a : Addr) : It :=
 ⟨fun i H => ∃ xs x, uR K H a xs ∧ xs[i]? = some x, fun i H x H' => H' = H ∧ ∀ xs, uR K H a xs → xs[i]? = some x, fun i H => ∃ xs, uR K H a xs ∧ xs.length ≤ i⟩
noncomputable def Itr (lo : Int) (n : Nat) : It := ⟨fun i _ => i < n, fun i H x H' => H' = H ∧ x = .int (lo + i), fun i _ => n ≤ i⟩
theorem zov {P : Program} {w : World} {K : W.Frag} {tg : Expr} (a it : Addr) : Turn P w K tg (Itl K a) [it] it (fun i h => h.IsListIter it a i) where
 mem := by simp
 obj := fun i h st b hb => by
  have e : b = it := by simpa using hb
  subst e
  obtain ⟨o, e, c, d⟩ := st
  exact ⟨o, e, fun v z => by rw [d] at z; cases z⟩
 keep := fun i h h' st k => st.at fun o e => k it (by simp) o e
 item := by
  intro X hP hw hK hc i pins s σ H E I hf st hg
  subst hP hw hK
  obtain ⟨xs, x, hq, hx⟩ := hg
  obtain ⟨its, rv, p, hz⟩ := I.list hq
  obtain ⟨u, hu, ru⟩ := rv.get hx
  obtain ⟨f0, f1, f2, f3, f4, f5⟩ := hf it (by simp)
  refine wpAny_pyNext_list_item st p.isList (x := u) (by simpa using hu) fun h' st' sb => ?_
  have I1 : Inv X pins σ H { s with heap := h' } := I.turned (t' := s.toks) (fun b o hb e => (sb.2 b hb).trans e) f0 f1 f3 f4 f5
  obtain ⟨o, e, c, d⟩ := id st'
  exact ⟨u, rfl, zna (s := { s with heap := h' }) e c d (by decide) ⟨x, H, I1, ru, ⟨rfl, fun ys hy => by rw [I.list_inj hy hq]; exact hx⟩, st', fun b hb => (hf b hb).1⟩⟩
 done := by
  intro X hP hw hK hc i pins s σ H E I hf st hg
  subst hP hw hK
  obtain ⟨xs, hq, hx⟩ := hg
  obtain ⟨its, rv, p, hz⟩ := I.list hq
  obtain ⟨f0, f1, f2, f3, f4, f5⟩ := hf it (by simp)
  have hl := rv.length
  exact wpAny_pyNext_list_end (I.ok.hd hc) st p.isList (by simp; omega) fun h' eb => ⟨rfl, I.turned (t' := s.toks) (fun b o hb e => eb b o hb e) f0 f1 f3 f4 f5⟩
 self := fun _ _ _ _ _ st h => wpAny_pyIter_listiter st h
theorem zlf {P : Program} {w : World} {K : W.Frag} {tg : Expr} (it : Addr) (lo : Int) (n : Nat) : Turn P w K tg (Itr lo n) [it] it (fun i h => IsRangeIter h it (lo + (i : Nat) * 1) ((n : Int) - (i : Nat)) 1) where
 mem := by simp
 obj := fun i h st b hb => by
  have e : b = it := by simpa using hb
  subst e
  exact ⟨_, st, fun v z => by
   have z' : Data.fields _ = Data.cell v := z
   cases z'⟩
 keep := fun i h h' st k => k it (by simp) _ st
 item := by
  intro X hP hw hK hc i pins s σ H E I hf st hg
  subst hP hw hK
  obtain ⟨f0, f1, f2, f3, f4, f5⟩ := hf it (by simp)
  have W := Walks.range (prog := X.prog) (w := X.w) (I.ok.hd hc) it lo 1 n
  refine W.item i s _ _ hg st fun v h' tk hv st' kk => ?_
  obtain ⟨t, rfl⟩ := hv
  have I1 : Inv X pins σ H { s with heap := h', toks := tk } := I.turned (fun b o hb e => kk b o (by simpa using hb) e) f0 f1 f3 f4 f5
  refine ⟨_, rfl, zna (s := { s with heap := h', toks := tk }) (n := "range_iterator") st' rfl rfl (by decide) ⟨.int (lo + i), H, I1, ⟨t, ?_⟩, ⟨rfl, rfl⟩, st', fun b hb => (hf b hb).1⟩⟩
  rw [Int.mul_one]
 done := by
  intro X hP hw hK hc i pins s σ H E I hf st hg
  subst hP hw hK
  obtain ⟨f0, f1, f2, f3, f4, f5⟩ := hf it (by simp)
  exact wpAny_pyNext_range_end (I.ok.hd hc) st (by have : n ≤ i := hg; omega) fun h' eb => ⟨rfl, I.turned (t' := s.toks) (fun b o hb e => eb b o hb e) f0 f1 f3 f4 f5⟩
 self := fun _ _ _ _ _ st h => wpAny_pyIter_rangeiter st h
end L2
namespace L2
open PySem PySem.Spec PyProof.Rows
section
variable {X : Cx} {tg : Expr}
noncomputable def zqu (K : W.Frag) (tl : TE) : TI := fun σ H R => tl σ H fun x H1 => ∃ a, x = .ref a ∧ (∃ xs, uR K H1 a xs) ∧ R (Itl K a) H1
theorem wT {l : Expr} {tl : TE} (hl : PE X l tl) : PI X tg l (zqu X.K tl) := by
 intro pins s σ H R I h
 refine thn (hl pins s σ H _ I h) fun v s1 ⟨x, H1, I1, r1, q1⟩ => ?_
 obtain ⟨a, e, ⟨xs, hq⟩, q⟩ := q1
 subst e
 cases r1
 obtain ⟨its, rv, p, hz⟩ := I1.list hq
 refine wpAny_pyIter_list p.isList ?_
 refine ⟨s1.heap.objs.size, [s1.heap.objs.size], _, _, H1, rfl, I1.kept (t' := s1.toks) fun b o e => Heap.get?_push_of_some _ e, zov a _, ⟨_, Heap.get?_push_size _ rfl, rfl, rfl⟩, fun b hb => ?_, q⟩
 have e : b = s1.heap.objs.size := by simpa using hb
 subst e
 exact I1.fpOk (Nat.le_refl _) (I1.hok.fresh (Nat.le_refl _))
theorem zh7 {pins : List (Addr × Obj)} {σ : St} {H : Hp} {s : Shared} {R : It → Hp → Prop} {E : Value → Shared → Prop} {lo hi : Int} {t u v : Tok} {tk : Nat} (I : Inv X pins σ H s) (h1 : -(2 ^ 62) ≤ lo) (h2 : lo < 2 ^ 62) (h3 : -(2 ^ 62) ≤ hi) (h4 : hi < 2 ^ 62)
 (q : R (Itr lo (hi - lo).toNat) H) : wpAny (model X.prog X.w) X.A (pyIter (.ref s.heap.objs.size)) (PIE X pins σ tg R) E { s with heap := s.heap.push { cls := .type "range", data := .fields #[.int lo t, .int hi u, .int 1 v] }, toks := tk } := by
 refine wpAny_pyIter_range (IsRange.new ..) (small_one h1 h2 h3 h4) ?_
 have I1 : Inv X pins σ H { s with heap := s.heap.push { cls := .type "range", data := .fields #[.int lo t, .int hi u, .int 1 v] }, toks := tk } := I.kept fun b o e => Heap.get?_push_of_some _ e
 refine ⟨(s.heap.push { cls := .type "range", data := .fields #[.int lo t, .int hi u, .int 1 v] }).objs.size, [(s.heap.push { cls := .type "range", data := .fields #[.int lo t, .int hi u, .int 1 v] }).objs.size], _, _, H, rfl,
  I1.kept (t' := tk) fun b o e => Heap.get?_push_of_some _ e, zlf _ lo (hi - lo).toNat, ?_, fun b hb => ?_, q⟩
 · have e1 : lo + ((0 : Nat) : Int) * 1 = lo := by simp
   have e2 : (((hi - lo).toNat : Nat) : Int) - ((0 : Nat) : Int) = Builtin.Range.rangeSize lo hi 1 := by rw [rangeSize_one]; split <;> omega
   show IsRangeIter _ _ (lo + ((0 : Nat) : Int) * 1) ((((hi - lo).toNat : Nat) : Int) - ((0 : Nat) : Int)) 1
   rw [e1, e2]
   exact Heap.get?_push_size _ rfl
 · have e : b = (s.heap.push { cls := .type "range", data := .fields #[.int lo t, .int hi u, .int 1 v] }).objs.size := by simpa using hb
   subst e
   exact I1.fpOk (Nat.le_refl _) (I1.hok.fresh (Nat.le_refl _))
noncomputable def zaa0 (ta : TA) : TI := fun σ H R => ta σ H fun vs H1 => ∃ j : Int, vs = [.int j] ∧ -(2 ^ 62) ≤ j ∧ j < 2 ^ 62 ∧ R (Itr 0 j.toNat) H1
noncomputable def zaa1 (ta : TA) : TI := fun σ H R => ta σ H fun vs H1 => ∃ i j : Int, vs = [.int i, .int j] ∧ (-(2 ^ 62) ≤ i ∧ i < 2 ^ 62 ∧ -(2 ^ 62) ≤ j ∧ j < 2 ^ 62) ∧ R (Itr i (j - i).toNat) H1
theorem zek {a : Expr} {ta : TA} {p pos : Pos} (hg : Gl X "range") (hm : X.mg "range" = none) (ha : PA X [a] ta) (hs : starEach [a] X.env = [(false, eval a X.env)] := by rfl) : PI X tg (.Call (.Name "range" p) [a] [] pos) (zaa0 ta) := by
 intro pins s σ H R I h
 refine Call_ (vE I hg hm boot_range (PyProof.Rows.callWith_type1 (thn (ha pos pins s σ H _ I h) fun us s1 ⟨vs, H1, I1, r1, q1⟩ => ?_) hs rfl))
 obtain ⟨j, e, q1, q2, q⟩ := q1
 subst e
 cases r1 with
 | cons r rr =>
   cases rr
   obtain ⟨t, rfl⟩ := r
   exact call_range_1 (zh7 I1 (by omega) (by omega) q1 q2 (by simpa using q))
theorem zow {a b : Expr} {ta : TA} {p pos : Pos} (hg : Gl X "range") (hm : X.mg "range" = none) (ha : PA X [a, b] ta) (hs : starEach [a, b] X.env = [(false, eval a X.env), (false, eval b X.env)] := by rfl) (hs2 : starEach [b] X.env = [(false, eval b X.env)] := by rfl) :
 PI X tg (.Call (.Name "range" p) [a, b] [] pos) (zaa1 ta) := by
 intro pins s σ H R I h
 refine Call_ (vE I hg hm boot_range (PyProof.Rows.callWith_type1 (thn (ha pos pins s σ H _ I h) fun us s1 ⟨vs, H1, I1, r1, q1⟩ => ?_) (by rw [hs, hs2]) (by rw [hs2]; rfl)))
 obtain ⟨i, j, e, ⟨q1, q2, q3, q4⟩, q⟩ := q1
 subst e
 cases r1 with
 | cons r rr =>
   cases rr with
   | cons r' rr =>
     cases rr
     obtain ⟨t, rfl⟩ := r
     obtain ⟨t', rfl⟩ := r'
     exact call_range_2 (zh7 I1 q1 q2 q3 q4 q)
noncomputable def zu2 (wi : TI) (g : TG) (tb : TS) : TS := fun D σ H => wi σ H fun J H1 => ∃ W : Nat → Nat → St → Hp → Prop, (∃ m, W 0 m σ H1) ∧ ∀ i m σ H, W i m σ H →
 (J.stop i H ∧ D.nx σ H) ∨ (J.go i H ∧ ∃ N : St → Hp → Prop, (∀ σ' H', N σ' H' → ∃ m', m' < m ∧ W (i + 1) m' σ' H') ∧ ∀ x H', J.yld i H x H' → g x σ H' fun σ2 H2 => tb { D with nx := N, ct := N, bk := D.nx } σ2 H2)
noncomputable def oR (fp : List Addr) (h : Heap) : List (Addr × Obj) := fp.filterMap fun b => (h.get? b).map fun o => (b, o)
theorem gM {fp : List Addr} {h : Heap} {b : Addr} {o : Obj} (hb : b ∈ fp) (e : h.get? b = some o) : (b, o) ∈ oR fp h := List.mem_filterMap.mpr ⟨b, hb, by rw [e]; rfl⟩
theorem zox {fp : List Addr} {h : Heap} {p : Addr × Obj} (hp : p ∈ oR fp h) : p.1 ∈ fp ∧ h.get? p.1 = some p.2 := by
 obtain ⟨b, hb, e⟩ := List.mem_filterMap.mp hp
 cases q : h.get? b with
 | none => rw [q] at e; cases e
 | some o =>
   rw [q] at e
   have e' : (b, o) = p := Option.some.inj e
   subst e'
   exact ⟨hb, q⟩
theorem Inv.pinned {pins : List (Addr × Obj)} {σ : St} {H : Hp} {s : Shared} {fp : List Addr} (I : Inv X pins σ H s) (hf : ∀ b ∈ fp, jV X pins H b) (ho : ∀ b ∈ fp, ∃ o, s.heap.get? b = some o ∧ ∀ v, o.data ≠ .cell v) : Inv X (pins ++ oR fp s.heap) σ H s :=
 I.pins_of fun p hp => (List.mem_append.mp hp).elim (fun z => I.pin p (List.mem_append_right _ z)) fun z => by
  obtain ⟨hb, e⟩ := zox z
  obtain ⟨f0, f1, f2, _⟩ := hf p.1 hb
  obtain ⟨o, e', d⟩ := ho p.1 hb
  rw [e] at e'; cases e'
  exact ⟨e, f0, f1, f2, d⟩
theorem Inv.unpinned {pins pl : List (Addr × Obj)} {σ : St} {H : Hp} {s : Shared} (I : Inv X (pins ++ pl) σ H s) : Inv X pins σ H s := I.pins_of fun p hp => I.pin p (List.mem_append_right _ (List.mem_append_left _ hp))
theorem zbr {iter : Expr} {body : List Stmt} {wi : TI} {g : TG} {tb : TS} {pos : Pos} (hp : PassesOwn (model X.prog X.w) X.A X.env X.xe) (hc : X.calm = true) (hi : PI X tg iter wi) (hg : PG X tg g) (hb : PSs X body tb)
 (hs : ∀ x, foldedSetIterable iter X.env x = pure x := by intro _; rfl) : PS X (.For tg iter body [] pos) (zu2 wi g tb) := by
 intro pins s σ H D I h
 refine wpAny_For (thn (hi pins s σ H _ I h) fun v s1 h1 => thn h1 fun itv s2 h2 => ?_) hs
 obtain ⟨it, fp, tn, J, H2, e, I2, T, st2, f2, W, ⟨m0, w0⟩, turn⟩ := h2
 subst e
 have stat : ∀ {H' : Hp}, (∀ b ∈ fp, H' b = none) → ∀ b ∈ fp, jV X pins H' b := fun hn b hb => ⟨hn b hb, (f2 b hb).2⟩
 refine codeAny_forLoop_any (fun n s' => ∃ i σ' H', Inv X pins σ' H' s' ∧ tn i s'.heap ∧ (∀ b ∈ fp, H' b = none) ∧ W i n σ' H') ?_ m0 ⟨0, σ, H2, I2, st2, fun b hb => (f2 b hb).1, w0⟩
 rintro n s3 ⟨i, σ3, H3, I3, st3, fr3, w3⟩
 rcases turn i n σ3 H3 w3 with ⟨stop, qn⟩ | ⟨go, N, hN, step⟩
 · refine wpAny_passesOwn hp (thn (T.done X rfl rfl rfl hc i pins s3 σ3 H3 X.xe I3 (stat fr3) st3 stop) fun r s4 ⟨hr, I4⟩ => ?_)
   subst hr
   exact wpAny_execs_nil ⟨σ3, H3, I4, qn⟩
 · refine wpAny_passesOwn hp (thn (T.item X rfl rfl rfl hc i pins s3 σ3 H3 X.xe I3 (stat fr3) st3 go) fun r s4 ⟨u, hr, h4⟩ => ?_)
   subst hr
   refine wpAny_passesOwn hp (thn h4 fun _ s5 ⟨x, H5, I5, r5, y5, st5, fr5⟩ => ?_)
   have I5' := I5.pinned (stat fr5) (T.obj _ _ st5)
   refine wpAny_passesOwn hp (thn (hg _ s5 σ3 H5 x u _ I5' r5 (step x H5 y5)) fun _ s6 ⟨σ6, H6, I6, q6⟩ => ?_)
   refine wpAny_passesOwn hp (thn (hb _ s6 σ6 H6 _ I6 q6) fun f s7 q7 => ?_)
   have again : ∀ {σ7 : St} {H7 : Hp}, Inv X (pins ++ oR fp s5.heap) σ7 H7 s7 → N σ7 H7 → ∃ m, m < n ∧ ∃ i σ' H', Inv X pins σ' H' s7 ∧ tn i s7.heap ∧ (∀ b ∈ fp, H' b = none) ∧ W i m σ' H' := fun {σ7 H7} I7 n7 => by
    obtain ⟨m', hm, w7⟩ := hN σ7 H7 n7
    refine ⟨m', hm, i + 1, σ7, H7, I7.unpinned, T.keep _ _ _ st5 fun b hb o e => (I7.pin (b, o) (List.mem_append_right _ (List.mem_append_right _ (gM hb e)))).1, fun b hb => ?_, w7⟩
    obtain ⟨o, e, d⟩ := T.obj _ _ st5 b hb
    exact (I7.pin (b, o) (List.mem_append_right _ (List.mem_append_right _ (gM hb e)))).2.1
   cases f with
   | next => obtain ⟨σ7, H7, I7, n7⟩ := q7; exact again I7 n7
   | cont => obtain ⟨σ7, H7, I7, n7⟩ := q7; exact again I7 n7
   | brk => obtain ⟨σ7, H7, I7, q7⟩ := q7; exact ⟨σ7, H7, I7.unpinned, q7⟩
   | ret v => obtain ⟨x7, σ7, H7, I7, r7, q7⟩ := q7; exact ⟨x7, σ7, H7, I7.unpinned, r7, q7⟩
end
theorem zqv {K : W.Frag} {a : Addr} {xs : List V} {g : TG} {tb : TS} {D : Ends} {σ : St} {H : Hp} (Pv : Nat → St → Hp → Prop) (h0 : Pv 0 σ H) (hl : ∀ i σ H, i ≤ xs.length → Pv i σ H → uR K H a xs)
 (hs : ∀ i x σ H, xs[i]? = some x → Pv i σ H → g x σ H fun σ2 H2 => tb { D with nx := Pv (i + 1), ct := Pv (i + 1), bk := D.nx } σ2 H2) (hd : ∀ σ H, Pv xs.length σ H → D.nx σ H) :
 ∃ W : Nat → Nat → St → Hp → Prop, (∃ m, W 0 m σ H) ∧ ∀ i m σ H, W i m σ H →
   ((Itl K a).stop i H ∧ D.nx σ H) ∨ ((Itl K a).go i H ∧ ∃ N : St → Hp → Prop, (∀ σ' H', N σ' H' → ∃ m', m' < m ∧ W (i + 1) m' σ' H') ∧ ∀ x H', (Itl K a).yld i H x H' → g x σ H' fun σ2 H2 => tb { D with nx := N, ct := N, bk := D.nx } σ2 H2) := by
 refine ⟨fun i m σ H => m = xs.length - i ∧ i ≤ xs.length ∧ Pv i σ H, ⟨xs.length, by simp, Nat.zero_le _, h0⟩, ?_⟩
 rintro i m σ H ⟨rfl, hi, p⟩
 have q := hl i σ H hi p
 by_cases hlt : i < xs.length
 · refine .inr ⟨⟨xs, xs[i], q, by simp [hlt]⟩, Pv (i + 1), fun σ' H' p' => ⟨xs.length - (i + 1), by omega, rfl, hlt, p'⟩, fun x H' y => ?_⟩
   obtain ⟨e, y⟩ := y
   subst e
   exact hs i x σ _ (y xs q) p
 · have e : i = xs.length := by omega
   subst e
   exact .inl ⟨⟨xs, q, Nat.le_refl _⟩, hd σ H p⟩
theorem zoy {lo : Int} {n : Nat} {g : TG} {tb : TS} {D : Ends} {σ : St} {H : Hp} (Pv : Nat → St → Hp → Prop) (h0 : Pv 0 σ H)
 (hs : ∀ i σ H, i < n → Pv i σ H → g (.int (lo + i)) σ H fun σ2 H2 => tb { D with nx := Pv (i + 1), ct := Pv (i + 1), bk := D.nx } σ2 H2) (hd : ∀ σ H, Pv n σ H → D.nx σ H) :
 ∃ W : Nat → Nat → St → Hp → Prop, (∃ m, W 0 m σ H) ∧ ∀ i m σ H, W i m σ H →
   ((Itr lo n).stop i H ∧ D.nx σ H) ∨ ((Itr lo n).go i H ∧ ∃ N : St → Hp → Prop, (∀ σ' H', N σ' H' → ∃ m', m' < m ∧ W (i + 1) m' σ' H') ∧ ∀ x H', (Itr lo n).yld i H x H' → g x σ H' fun σ2 H2 => tb { D with nx := N, ct := N, bk := D.nx } σ2 H2) := by
 refine ⟨fun i m σ H => m = n - i ∧ i ≤ n ∧ Pv i σ H, ⟨n, by simp, Nat.zero_le _, h0⟩, ?_⟩
 rintro i m σ H ⟨rfl, hi, p⟩
 by_cases hlt : i < n
 · refine .inr ⟨hlt, Pv (i + 1), fun σ' H' p' => ⟨n - (i + 1), by omega, rfl, hlt, p'⟩, fun x H' y => ?_⟩
   obtain ⟨e, y⟩ := y
   subst e y
   exact hs i σ _ hlt p
 · have e : i = n := by omega
   subst e
   exact .inl ⟨Nat.le_refl _, hd σ H p⟩
end L2
namespace L2
open PySem PySem.Spec PyProof.Rows
noncomputable abbrev R2 := V → V → Hp → VK → Prop
noncomputable def qH (X : Cx) (f : Value → Value → Sem Value) (r : R2) : Prop :=
 ∀ (pins : List (Addr × Obj)) (s : Shared) (σ : St) (H : Hp) (x y : V) (v u : Value) (Q : VK), Inv X pins σ H s → dG x v → dG y u → r x y H Q →
   wpAny (model X.prog X.w) X.A (f v u) (EP X pins σ Q) X.xe s
noncomputable def UnR (X : Cx) (f : Value → Sem Value) (r : V → Hp → VK → Prop) : Prop :=
 ∀ (pins : List (Addr × Obj)) (s : Shared) (σ : St) (H : Hp) (x : V) (v : Value) (Q : VK), Inv X pins σ H s → dG x v → r x H Q →
   wpAny (model X.prog X.w) X.A (f v) (EP X pins σ Q) X.xe s
noncomputable def nE (X : Cx) (f : Value) (r : List V → Hp → VK → Prop) : Prop :=
 ∀ (pins : List (Addr × Obj)) (s : Shared) (σ : St) (H : Hp) (xs : List V) (us : List Value) (Q : VK), Inv X pins σ H s → bU xs us → r xs H Q →
   wpAny (model X.prog X.w) X.A (call f us) (EP X pins σ Q) X.xe s
noncomputable def TruR (X : Cx) (r : V → Hp → (Bool → Hp → Prop) → Prop) : Prop :=
 ∀ (pins : List (Addr × Obj)) (s : Shared) (σ : St) (H : Hp) (x : V) (v : Value) (Q : Bool → Hp → Prop), Inv X pins σ H s → dG x v → r x H Q →
   wpAny (model X.prog X.w) X.A (truthy v) (TP X pins σ Q) X.xe s
noncomputable def tOp (r : R2) (ta tb : TE) : TE := fun σ H Q => ta σ H fun x H1 => tb σ H1 fun y H2 => r x y H2 Q
noncomputable def tUn (r : V → Hp → VK → Prop) (ta : TE) : TE := fun σ H Q => ta σ H fun x H1 => r x H1 Q
noncomputable def rI (C : Int → Int → Prop) (g : Int → Int → V) : R2 := fun x y H Q => ∃ i j, x = .int i ∧ y = .int j ∧ C i j ∧ Q (g i j) H
noncomputable def rI0 (g : Int → Int → V) : R2 := fun x y H Q => ∃ i j, x = .int i ∧ y = .int j ∧ Q (g i j) H
noncomputable def rU (g : Int → V) : V → Hp → VK → Prop := fun x H Q => ∃ i, x = .int i ∧ Q (g i) H
section
variable {X : Cx} {a b c : Expr} {ta tb tc : TE} {pos : Pos}
theorem zyj (ha : PE X a ta) (hb : PE X b tb) {pins : List (Addr × Obj)} {s : Shared} {σ : St} {H : Hp} {R : V → V → Hp → Prop} (I : Inv X pins σ H s)
 (h : ta σ H fun x H1 => tb σ H1 fun y H2 => R x y H2) {Q : Value → Shared → Prop} {f : Value → Value → Sem Value}
 (hf : ∀ v u s2 x y H2, Inv X pins σ H2 s2 → dG x v → dG y u → R x y H2 → wpAny (model X.prog X.w) X.A (f v u) Q X.xe s2) :
 wpAny (model X.prog X.w) X.A (eval a X.env) (fun v s₁ => wpAny (model X.prog X.w) X.A (eval b X.env) (fun u s₂ => wpAny (model X.prog X.w) X.A (f v u) Q X.xe s₂) X.xe s₁) X.xe s := by
 refine thn (ha pins s σ H _ I h) fun v s1 ⟨x, H1, I1, r1, q1⟩ => ?_
 refine thn (hb pins s1 σ H1 _ I1 q1) fun u s2 ⟨y, H2, I2, r2, q2⟩ => ?_
 exact hf v u s2 x y H2 I2 r1 r2 q2
theorem zxj {op : Operator} {r : R2} (ho : qH X (binaryOp op) r) (ha : PE X a ta) (hb : PE X b tb) : PE X (.BinOp a op b pos) (tOp r ta tb) := by
 intro pins s σ H Q I h
 exact wpAny_BinOp (zyj ha hb I h fun v u s2 x y H2 I2 rx ry q => ho pins s2 σ H2 x y v u Q I2 rx ry q)
theorem zaa2 {op : UnaryOp} {r : V → Hp → VK → Prop} (ho : UnR X (unaryOp op) r) (ha : PE X a ta) : PE X (.UnaryOp op a pos) (tUn r ta) := by
 intro pins s σ H Q I h
 exact UnaryOp_ (thn (ha pins s σ H _ I h) fun v s1 ⟨x, H1, I1, r1, q1⟩ => ho pins s1 σ H1 x v Q I1 r1 q1)
theorem opI {f : Value → Value → Sem Value} {C : Int → Int → Prop} {g : Int → Int → Int}
 (rule : ∀ (i j : Int) (t u : Tok) (s : Shared) (Q : Value → Shared → Prop) (E : Value → Shared → Prop), C i j → Q (.int (g i j) s.toks) { s with toks := s.toks + 1 } → wpAny (model X.prog X.w) X.A (f (.int i t) (.int j u)) Q E s) :
 qH X f (rI C fun i j => .int (g i j)) := by
 intro pins s σ H x y v u Q I rx ry h
 obtain ⟨i, j, rfl, rfl, hc, q⟩ := h
 obtain ⟨t, rfl⟩ := rx
 obtain ⟨t', rfl⟩ := ry
 exact rule i j t t' s _ _ hc ⟨.int (g i j), H, I.tok _, ⟨_, rfl⟩, q⟩
theorem opI0 {f : Value → Value → Sem Value} {g : Int → Int → Int}
 (rule : ∀ (i j : Int) (t u : Tok) (s : Shared) (Q : Value → Shared → Prop) (E : Value → Shared → Prop), Q (.int (g i j) s.toks) { s with toks := s.toks + 1 } → wpAny (model X.prog X.w) X.A (f (.int i t) (.int j u)) Q E s) :
 qH X f (rI0 fun i j => .int (g i j)) := by
 intro pins s σ H x y v u Q I rx ry h
 obtain ⟨i, j, rfl, rfl, q⟩ := h
 obtain ⟨t, rfl⟩ := rx
 obtain ⟨t', rfl⟩ := ry
 exact rule i j t t' s _ _ ⟨.int (g i j), H, I.tok _, ⟨_, rfl⟩, q⟩
theorem zyk {f : Value → Value → Sem Value} {g : Int → Int → Bool}
 (rule : ∀ (i j : Int) (t u : Tok) (s : Shared) (Q : Value → Shared → Prop) (E : Value → Shared → Prop), Q (.bool (g i j)) s → wpAny (model X.prog X.w) X.A (f (.int i t) (.int j u)) Q E s) :
 qH X f (rI0 fun i j => .bl (g i j)) := by
 intro pins s σ H x y v u Q I rx ry h
 obtain ⟨i, j, rfl, rfl, q⟩ := h
 obtain ⟨t, rfl⟩ := rx
 obtain ⟨t', rfl⟩ := ry
 exact rule i j t t' s _ _ ⟨.bl (g i j), H, I, rfl, q⟩
noncomputable def zoz (i j : Int) : Prop := 0 < j ∧ j < 1073741824
noncomputable def zyl (i j : Int) : Prop := (-(2 ^ 64) < i ∧ i < 2 ^ 64) ∨ (-(2 ^ 64) < j ∧ j < 2 ^ 64)
theorem zyl.ok {i j : Int} (h : zyl i j) : IntMulOk i j := by
 rcases h with ⟨h1, h2⟩ | ⟨h1, h2⟩
 · exact .of_left (intBits_le_64 h1 h2)
 · exact .of_right (intBits_le_64 h1 h2)
theorem zym : qH X (binaryOp .Add) (rI0 fun i j => .int (i + j)) := opI0 fun _ _ _ _ _ _ _ q => add_int q
theorem zyn : qH X (binaryOp .Sub) (rI0 fun i j => .int (i - j)) := opI0 fun _ _ _ _ _ _ _ q => sub_int q
theorem zu3 : qH X (binaryOp .FloorDiv) (rI zoz fun i j => .int (i / j)) := opI fun i j _ _ _ _ _ hc q => by
 have h1 : (0 : Int) < j := hc.1
 have h2 : j < 1073741824 := hc.2
 exact floordiv_int (by omega) (by rw [Int.fdiv_eq_ediv_of_nonneg i (by omega)]; exact q) (.inl (PyProof.noPylong_small (by omega)))
theorem zyo : qH X (binaryOp .Mod) (rI (fun _ j => 0 < j) fun i j => .int (i % j)) := opI fun i j _ _ _ _ _ hc q => by
 have h1 : (0 : Int) < j := hc
 exact mod_int' (by omega) (by rw [Int.fmod_eq_emod_of_nonneg i (by omega)]; exact q)
theorem unI {f : Value → Sem Value} {g : Int → Int}
 (rule : ∀ (i : Int) (t : Tok) (s : Shared) (Q : Value → Shared → Prop) (E : Value → Shared → Prop), Q (.int (g i) s.toks) { s with toks := s.toks + 1 } → wpAny (model X.prog X.w) X.A (f (.int i t)) Q E s) :
 UnR X f (rU fun i => .int (g i)) := by
 intro pins s σ H x v Q I rx h
 obtain ⟨i, rfl, q⟩ := h
 obtain ⟨t, rfl⟩ := rx
 exact rule i t s _ _ ⟨.int (g i), H, I.tok _, ⟨_, rfl⟩, q⟩
theorem zyp : UnR X (unaryOp .USub) (rU fun i => .int (-i)) := unI fun _ _ _ _ _ q => neg_int q
end
section
variable {X : Cx} {a b c : Expr} {ta tb tc : TE} {pos : Pos}
theorem zqw {pins : List (Addr × Obj)} {σ : St} {H : Hp} {s : Shared} {Q : VK} {k k' : Bool} (I : Inv X pins σ H s) (q : Q (.bl k) H) (e : k = k') : EP X pins σ Q (.bool k') s := by
 subst e
 exact ⟨.bl k, H, I, rfl, q⟩
theorem zaa4 : qH X (compareOp .Lt) (rI0 fun i j => .bl (decide (i < j))) := zyk fun _ _ _ _ _ _ _ q => lt_int q
theorem zaa5 : qH X (compareOp .Gt) (rI0 fun i j => .bl (decide (j < i))) := zyk fun _ _ _ _ _ _ _ q => gt_int q
theorem zaa6 : qH X (compareOp .GtE) (rI0 fun i j => .bl (decide (j ≤ i))) := zyk fun _ _ _ _ _ _ _ q => ge_int q
theorem zyq : qH X (compareOp .Is) (fun x y H Q => y = .non ∧ Q (.bl (decide (x = .non))) H) := by
 intro pins s σ H x y v u Q I rx ry h
 obtain ⟨rfl, q⟩ := h
 cases ry
 refine is_none_gen (zqw I q ?_)
 cases x <;> first
  | (cases rx; rfl)
  | (obtain ⟨t, rfl⟩ := rx; rfl)
theorem zu4 : qH X (compareOp .IsNot) (fun x y H Q => y = .non ∧ Q (.bl (!decide (x = .non))) H) := by
 intro pins s σ H x y v u Q I rx ry h
 obtain ⟨rfl, q⟩ := h
 cases ry
 refine isnot_none_gen (zqw I q ?_)
 cases x <;> first
  | (cases rx; rfl)
  | (obtain ⟨t, rfl⟩ := rx; rfl)
theorem zu5 {op : CmpOp} {r : R2} (ho : qH X (compareOp op) r) (ha : PE X a ta) (hb : PE X b tb) (hm : behindInMarks op b = false) : PE X (.Compare a [op] [b] pos) (tOp r ta tb) := by
 intro pins s σ H Q I h
 exact wpAny_Compare1 (zyj ha hb I h fun v u s2 x y H2 I2 rx ry q => ho pins s2 σ H2 x y v u Q I2 rx ry q) hm
noncomputable def zxk (t : TE) : TT := fun σ H Q => t σ H fun x H' => ∃ k, x = .bl k ∧ Q k H'
theorem zu6 {op : CmpOp} {r : R2} (ho : qH X (compareOp op) r) (ha : PE X a ta) (hb : PE X b tb) (hm : behindInMarks op b = false) : PT X (.Compare a [op] [b] pos) (zxk (tOp r ta tb)) := by
 intro pins s σ H Q I h
 refine wpAny_isTrue_Compare1 (thn (ha pins s σ H _ I h) fun v s1 ⟨x, H1, I1, r1, q1⟩ => thn (hb pins s1 σ H1 _ I1 q1) fun u s2 ⟨y, H2, I2, r2, q2⟩ =>
  thn (ho pins s2 σ H2 x y v u _ I2 r1 r2 q2) fun c s3 ⟨z, H3, I3, r3, k, e, q3⟩ => ?_) hm
 subst e
 cases r3
 exact wpAny_truthy_bool ⟨H3, I3, q3⟩
noncomputable def zyr (K : W.Frag) (x : V) (H : Hp) (k : Bool) : Prop :=
 match x with
 | .non => k = false
 | .bl b => k = b
 | .int i => k = (i != 0)
 | .str y => y.length ≤ sizeLine ∧ k = ((y.length : Int) != 0)
 | .byt y => y.size ≤ sizeLine ∧ k = ((y.size : Int) != 0)
 | .ref p => (∃ xs, uR K H p xs ∧ k = !xs.isEmpty) ∨ (∃ xs, SqT K H p xs ∧ k = !xs.isEmpty) ∨ ∃ kvs, H p = some (.dK kvs) ∧ k = !kvs.isEmpty
 | _ => False
theorem zlg {κ : Type} {kvs : List (κ × V)} {vs : List (κ × Value)} (r : KV kvs vs) : (!vs.isEmpty) = !kvs.isEmpty := by
 cases r <;> rfl
theorem zbs {xs : List V} {its : List Value} (r : bU xs its) : (!its.toArray.isEmpty) = !xs.isEmpty := by
 cases r <;> simp
theorem yH : (sizeLine : Nat) < 2 ^ 63 := by rw [sizeLine_eq]; decide
theorem tru_ok : TruR X (fun x H Q => ∃ k, zyr X.K x H k ∧ Q k H) := by
 intro pins s σ H x v Q I rx h
 obtain ⟨k, e, q⟩ := h
 have hl := yH
 have hs : sizeLine = 16777216 := sizeLine_eq
 cases x with
 | non =>
   cases rx
   have e' : k = false := e
   subst e'
   exact truthy_none ⟨H, I, q⟩
 | bl b =>
   cases rx
   have e' : k = b := e
   subst e'
   exact wpAny_truthy_bool ⟨H, I, q⟩
 | int i =>
   obtain ⟨t, rfl⟩ := rx
   have e' : k = (i != 0) := e
   subst e'
   exact PySem.P.truthy_int ⟨H, I, q⟩
 | str y =>
   obtain ⟨t, rfl⟩ := rx
   obtain ⟨hy, e'⟩ : y.length ≤ sizeLine ∧ k = ((y.length : Int) != 0) := e
   subst e'
   exact PySem.P.truthy_str (by omega) ⟨H, I.tok _, q⟩
 | byt y =>
   obtain ⟨t, rfl⟩ := rx
   obtain ⟨hy, e'⟩ : y.size ≤ sizeLine ∧ k = ((y.size : Int) != 0) := e
   subst e'
   exact PySem.W.truthy_bytes (by omega) ⟨H, I.tok _, q⟩
 | ref p =>
   cases rx
   have e' : (∃ xs, uR X.K H p xs ∧ k = !xs.isEmpty) ∨ (∃ xs, SqT X.K H p xs ∧ k = !xs.isEmpty) ∨ ∃ kvs, H p = some (.dK kvs) ∧ k = !kvs.isEmpty := e
   rcases e' with ⟨xs, hx, e'⟩ | ⟨xs, hx, e'⟩ | ⟨kvs, hx, e'⟩
   · subst e'
     obtain ⟨its, r, pl, hz⟩ := I.list hx
     have hlen := r.length
     exact wpAny_truthy_list pl.isList (by simp only [List.size_toArray]; omega) ⟨H, I.tok _, by rw [zbs r]; exact q⟩
   · subst e'
     obtain ⟨its, r, pl, hz⟩ := I.tuple hx
     have hlen := r.length
     exact truthy_tuple pl (by simp only [List.size_toArray]; omega) ⟨H, I.tok _, by rw [zbs r]; exact q⟩
   · subst e'
     obtain ⟨hz, hS, vs, r, m⟩ : kvs.length ≤ sizeLine ∧ (p == sysModules) = false ∧ ∃ vs, KV kvs vs ∧ s.heap.DictOf (fY X.prog X.w) p vs := I.hok p _ hx
     have hlen : kvs.length = vs.length := Paired.length r
     exact wpAny_truthy_dict hS m (by omega) ⟨H, I.tok _, by rw [zlg r]; exact q⟩
 | _ => exact (show False from e).elim
theorem zqx (ha : PE X a ta) (he : ∀ whole, isTrue a X.env whole = (do let v ← whole; standAt a.pos; holding [v] (truthy v))) :
 PT X a (fun σ H Q => ta σ H fun x H' => ∃ k, zyr X.K x H' k ∧ Q k H') := by
 intro pins s σ H Q I h
 exact isTrue_plain (thn (ha pins s σ H _ I h) fun v s1 ⟨x, H1, I1, r1, q1⟩ => tru_ok pins s1 σ H1 x v Q I1 r1 q1) (he _)
theorem zlh : qH X (binaryOp .Add) (fun x y H Q => ∃ i j, x = .str i ∧ y = .str j ∧ i.length + j.length ≤ sizeLine ∧ Q (.str (i ++ j)) H) := by
 intro pins s σ H x y v u Q I rx ry h
 obtain ⟨i, j, rfl, rfl, hz, q⟩ := h
 obtain ⟨t, rfl⟩ := rx
 obtain ⟨t', rfl⟩ := ry
 exact add_str (fun t' tk => ⟨.str (i ++ j), H, I.tok _, ⟨_, rfl⟩, q⟩) hz
theorem zqy {x : V} {us : List Value} (r : bU [x] us) : ∃ u, us = [u] ∧ dG x u := by
 cases r with
 | cons r1 r2 => cases r2; exact ⟨_, rfl, r1⟩
theorem zxl {x y : V} {us : List Value} (r : bU [x, y] us) : ∃ u w', us = [u, w'] ∧ dG x u ∧ dG y w' := by
 cases r with
 | cons r1 r2 =>
   cases r2 with
   | cons r3 r4 => cases r4; exact ⟨_, _, rfl, r1, r3⟩
theorem zo0 (hc : X.calm = true) : nE X (.builtin "max") (fun xs H Q => ∃ i j, xs = [.int i, .int j] ∧ Q (.int (if j > i then j else i)) H) := by
 intro pins s σ H xs us Q I r h
 obtain ⟨i, j, rfl, q⟩ := h
 obtain ⟨u, w', rfl, ⟨t, rfl⟩, ⟨t', rfl⟩⟩ := zxl r
 refine max_two_ints (I.ok.hd hc) fun h' tk k => ⟨_, H, I.kept k, ?_, q⟩
 by_cases hj : j > i
 · rw [if_pos hj, if_pos hj]; exact ⟨_, rfl⟩
 · rw [if_neg hj, if_neg hj]; exact ⟨_, rfl⟩
theorem zo1 (hc : X.calm = true) : nE X (.builtin "min") (fun xs H Q => ∃ i j, xs = [.int i, .int j] ∧ Q (.int (if j < i then j else i)) H) := by
 intro pins s σ H xs us Q I r h
 obtain ⟨i, j, rfl, q⟩ := h
 obtain ⟨u, w', rfl, ⟨t, rfl⟩, ⟨t', rfl⟩⟩ := zxl r
 refine min_two_ints (I.ok.hd hc) fun h' tk k => ⟨_, H, I.kept k, ?_, q⟩
 by_cases hj : j < i
 · rw [if_pos hj, if_pos hj]; exact ⟨_, rfl⟩
 · rw [if_neg hj, if_neg hj]; exact ⟨_, rfl⟩
end
end L2
namespace L2
open PySem PySem.Spec PyProof.Rows
structure ObjM (h : Heap) (x dx C : Addr) (mA : Str → Option Value) : Prop where
 obj : h.get? x = some (PySem.W.instObj C dx)
 ns : h.Ns1 dx mA
 ne : dx ≠ x
theorem zo2 {h : Heap} {dx : Addr} {mA : Str → Option Value} (n : h.Ns1 dx mA) : ∃ od, h.get? dx = some od ∧ ∀ name, PySem.W.lookIn name od = some (mA name) := by
 obtain ⟨o, es, ep, ho, hd, hk, _, hm⟩ := n
 refine ⟨o, ho, fun name => ?_⟩
 have e := hm name
 unfold nsFind findBy at e
 rw [← Array.find?_toList] at e
 unfold PySem.W.lookIn
 rw [hd]
 dsimp only
 split
 · rename_i y q
   rw [q] at e
   exact congrArg some e
 · rename_i q
   rw [q] at e
   have a : es.toList.any (·.refKey) = false := by
    rw [List.any_eq_false]
    intro y hy
    obtain ⟨z, t, hkey⟩ := hk y (Array.mem_toList_iff.mp hy)
    simp [DictEntry.refKey, hkey]
   have a' : ¬ es.toList.any (·.refKey) = true := by rw [a]; exact Bool.false_ne_true
   rw [if_neg a']
   exact congrArg some e
theorem ObjM.look {h : Heap} {x dx C : Addr} {mA : Str → Option Value} (I : ObjM h x dx C mA) : ∃ od, PySem.W.InstAt h x (PySem.W.instObj C dx) C (some od) ∧ ∀ name, PySem.W.lookIn name od = some (mA name) :=
 let ⟨od, ho, hl⟩ := zo2 I.ns
 ⟨od, ⟨I.obj, rfl, rfl, ho⟩, hl⟩
section
variable {prog : Program} {w : World} {A : Around} {E : Value → Shared → Prop} {s : Shared} {K : W.Frag} {x dx C f : Addr} {mA : Str → Option Value} {name : Str} {v : Value}
theorem zu7 {expr : Bool} {Q : Value → Shared → Prop} (X : K.In s.heap) (I : ObjM s.heap x dx C mA) (hg : PySem.W.plainGet K C name = true) (hh : PySem.W.hasDictIn K C = true)
 (ha : W.findIn K (.ref C) name = some none) (hv : mA name = some v) (hv' : PySem.W.handedIn v = true) (h : Q v { s with toks := s.toks + 1 }) :
 wpAny (model prog w) A (getAttr (.ref x) name expr) Q E s := by
 obtain ⟨od, J, hl⟩ := I.look
 exact PySem.W.get_value X J (PySem.W.plainGet_of hg).1 (PySem.W.findObj_own hh ha rfl (by rw [hl, hv])) hv' h
theorem zqz {pl : Sem Bool} {Q : Value × List Value → Shared → Prop} (X : K.In s.heap) (I : ObjM s.heap x dx C mA) (hg : PySem.W.plainGet K C name = true)
 (hf : W.findIn K (.ref C) name = some (some (.ref f))) (ht : W.isFn K (.ref f) = true) (hv : mA name = none) (h : Q (.ref f, [.ref x]) s) :
 wpAny (model prog w) A (getMethod (.ref x) name pl) Q E s := by
 obtain ⟨od, J, hl⟩ := I.look
 exact PySem.W.method_fn X J (PySem.W.plainGet_of hg).1 (PySem.W.plainGet_of hg).2 hf (beq_iff_eq.mp ht) (by show (PySem.W.lookIn name od).map (·.isSome) = some false; rw [hl, hv]; rfl) h
theorem zu8 {ns : List Str} {Q : Unit → Shared → Prop} (X : K.In s.heap) (I : ObjM s.heap x dx C mA)
 (hs : W.findIn K (.ref C) "__setattr__" = some (some (.builtin "object.__setattr__"))) (hp : PySem.W.plainOver K C = true) (ht : PySem.W.takerIn K C name = some none) (hh : PySem.W.hasDictIn K C = true)
 (hw : PySem.Within mA ns) (hsz : ns.length ≤ sizeLine)
 (h : ∀ h', ObjM h' x dx C (fun y => if y = name then some v else mA y) → Heap.SameBut dx s.heap h' → Q () { s with heap := h', toks := s.toks + 2 }) :
 wpAny (model prog w) A (setAttr (.ref x) name v) Q E s := by
 obtain ⟨od, J, hl⟩ := I.look
 refine PySem.W.set_plain X J hs (PySem.W.osa_open (s := { s with toks := s.toks + 1 }) (r := none) X J hp ht fun b => ?_)
 obtain ⟨cd, hc, hd'⟩ := PySem.W.any_some hh
 have hx : s.heap.get? x = some ⟨.ref C, some dx, .plain, #[]⟩ := I.obj
 refine wpAny_bind (wpAny_pure (wpAny_bind (wpAny_bind (wpAny_loadPart hx (wpAny_bind (PySem.W.Looks.here (s := { s with toks := s.toks + 1 }) (PySem.W.looks_clsIn X hc) ?_))))))
 rw [hd']
 refine wpAny_pure (a := some dx) (wpAny_bind (wpAny_pure (wpAny_bind ?_)))
 refine wpAny_nsSet1 (s := { s with toks := s.toks + 1 }) I.ns fun h' hn2 hs2 => ?_
 obtain ⟨oD, esD, epD, hoD, hdD, hcD⟩ := hn2.count (PySem.Within.cons name v hw)
 refine wpAny_bind (wpAny_lookBehind hoD (by rw [hdD]; exact pastItsLine_dict (Nat.le_trans hcD (by rw [List.length_cons]; omega))) ?_)
 exact wpAny_pure (h _ ⟨(hs2.2 _ (Ne.symm I.ne)).trans I.obj, hn2, I.ne⟩ hs2)
theorem zq0 {R : Result → Shared → Prop} {vs : List Value} {kw : List (Str × Value)} (X : K.In s.heap) (hm : PySem.W.makesIn K C = true)
 (hi : W.findIn K (.ref C) "__init__" = some (some (.ref f))) (hf : PySem.W.typeIn K (.ref f) = some (.type "function"))
 (h : codeAny (model prog w) (A.under (.builtin "type.__call__" ⟨.ref C :: vs, kw⟩)) (.call (.ref f) ⟨.ref (s.heap.objs.size + 1) :: vs, kw⟩) (PySem.W.InitBack (s.heap.objs.size + 1) R)
   { s with heap := (s.heap.push PySem.W.emptyDict).push (PySem.W.instObj C s.heap.objs.size) }) :
 codeAny (model prog w) A (.call (.ref C) ⟨vs, kw⟩) R s := by
 obtain ⟨hh, g, d, t, os⟩ := s
 exact PySem.W.make_core (PySem.W.makes_of X hm) (PySem.W.looks_findIn X hi) (fun self => PySem.W.bind_fn X self hf) (.inl rfl) h
end
noncomputable def putF (f : Str) (v : V) : List (Str × V) → List (Str × V)
 | [] => [(f, v)]
 | (g, x) :: r => if g = f then (g, v) :: r else (g, x) :: putF f v r
theorem zac (f g : Str) (v : V) : ∀ fs : List (Str × V), (putF f v fs).lookup g = if g = f then some v else fs.lookup g
 | [] => by
   show List.lookup g [(f, v)] = _
   by_cases h : g = f
   · have hb : (g == f) = true := beq_iff_eq.mpr h
     simp only [List.lookup, hb, if_pos h]
   · have hb : (g == f) = false := beq_eq_false_iff_ne.mpr h
     simp only [List.lookup, hb, if_neg h]
 | (k, x) :: r => by
   have ih := zac f g v r
   rw [show putF f v ((k, x) :: r) = (if k = f then (k, v) :: r else (k, x) :: putF f v r) from rfl]
   by_cases hk : k = f
   · rw [if_pos hk]
     by_cases h : g = k
     · have hb : (g == k) = true := beq_iff_eq.mpr h
       simp only [List.lookup, hb, if_pos (h.trans hk)]
     · have hb : (g == k) = false := beq_eq_false_iff_ne.mpr h
       simp only [List.lookup, hb, if_neg (fun e : g = f => h (e.trans hk.symm))]
   · rw [if_neg hk]
     by_cases h : g = k
     · have hb : (g == k) = true := beq_iff_eq.mpr h
       simp only [List.lookup, hb, if_neg (fun e : g = f => hk (h.symm.trans e))]
     · have hb : (g == k) = false := beq_eq_false_iff_ne.mpr h
       simp only [List.lookup, hb]
       exact ih
theorem yI (f : Str) (v : V) : ∀ fs : List (Str × V), f ∈ (putF f v fs).map (·.1) ∧ ∀ g, g ∈ fs.map (·.1) → g ∈ (putF f v fs).map (·.1)
 | [] => ⟨by simp [putF], fun g h => by simp at h⟩
 | (k, x) :: r => by
   obtain ⟨i1, i2⟩ := yI f v r
   rw [show putF f v ((k, x) :: r) = (if k = f then (k, v) :: r else (k, x) :: putF f v r) from rfl]
   by_cases hk : k = f
   · rw [if_pos hk]
     subst hk
     exact ⟨by simp, fun g h => by simpa using h⟩
   · rw [if_neg hk]
     refine ⟨?_, fun g h => ?_⟩
     · rw [List.map_cons]
       exact List.mem_cons_of_mem _ i1
     · rw [List.map_cons] at h ⊢
       rcases List.mem_cons.mp h with e | e
       · exact List.mem_cons.mpr (.inl e)
       · exact List.mem_cons_of_mem _ (i2 g e)
theorem zad (f : Str) (v : V) : ∀ fs : List (Str × V), (putF f v fs).length ≤ fs.length + 1
 | [] => by simp [putF]
 | (k, x) :: r => by
   have ih := zad f v r
   rw [show putF f v ((k, x) :: r) = (if k = f then (k, v) :: r else (k, x) :: putF f v r) from rfl]
   by_cases hk : k = f
   · rw [if_pos hk, List.length_cons, List.length_cons]; omega
   · rw [if_neg hk, List.length_cons, List.length_cons]; omega
theorem yF.some_of {v : V} {o : Option Value} (r : yF (some v) o) : ∃ u, o = some u ∧ dG v u := by
 cases o with
 | none => exact (show False from r).elim
 | some u => exact ⟨u, rfl, r⟩
theorem yF.none_of {o : Option Value} (r : yF none o) : o = none := by
 cases o with
 | none => rfl
 | some u => exact (show False from r).elim
theorem zo3 {v : V} {u : Value} (r : dG v u) : PySem.W.handedIn u = true := by
 cases v with
 | non => cases (show u = Value.none from r); rfl
 | bl b => cases (show u = Value.bool b from r); rfl
 | int i => obtain ⟨t, e⟩ := (show ∃ t, u = Value.int i t from r); cases e; rfl
 | str x => obtain ⟨t, e⟩ := (show ∃ t, u = Value.str x t from r); cases e; rfl
 | byt b => obtain ⟨t, e⟩ := (show ∃ t, u = Value.bytes b t from r); cases e; rfl
 | flt b => obtain ⟨t, e⟩ := (show ∃ t, u = Value.float b t from r); cases e; rfl
 | ref a => cases (show u = Value.ref a from r); rfl
 | ty n => cases (show u = Value.type n from r); rfl
section
variable {P : Program} {w : World} {H H' : Hp} {h h' : Heap} {a C dx : Addr} {fs fs' : List (Str × V)}
theorem zft (hok : uQ P w H h) (e : H a = some (.ins C dx fs)) : ∃ mA, ObjM h a dx C mA ∧ (∀ f, yF (fs.lookup f) (mA f)) ∧ PySem.Within mA (fs.map (·.1)) ∧ fs.length ≤ 1000 ∧ H dx = some (.own a) := by
 obtain ⟨d, z, ne, ob, mA, n, r, q⟩ := (show gI P w H h a (.ins C dx fs) from hok a _ e)
 exact ⟨mA, ⟨ob, n, ne⟩, r, q, z, d⟩
end
structure Cls (K : W.Frag) (C : Addr) : Prop where
 pg : PySem.W.plainGet K C Str.empty = true
 hd : PySem.W.hasDictIn K C = true
 po : PySem.W.plainOver K C = true
 sa : W.findIn K (.ref C) "__setattr__" = some (some (.builtin "object.__setattr__"))
theorem Cls.get {K : W.Frag} {C : Addr} (c : Cls K C) (f : Str) : PySem.W.plainGet K C f = true := c.pg
noncomputable def oS (K : W.Frag) (C : Addr) (f : Str) : Prop := W.findIn K (.ref C) f = some none
theorem oS.taker {K : W.Frag} {C : Addr} {f : Str} (n : oS K C f) : PySem.W.takerIn K C f = some none := by
 unfold PySem.W.takerIn
 rw [show W.findIn K (.ref C) f = some none from n]
 rfl
structure Meth (K : W.Frag) (C : Addr) (m : Str) (f : Addr) : Prop where
 at_ : W.findIn K (.ref C) m = some (some (.ref f))
 fn : W.isFn K (.ref f) = true
 kp : W.keepIn K (.ref f) = true
section
variable {X : Cx} {pins : List (Addr × Obj)} {σ : St} {H : Hp} {s : Shared} {a C dx : Addr} {fs : List (Str × V)} {f : Str} {v : V} {A : Around} {E : Value → Shared → Prop}
theorem zli {b : Bool} {Q : Value → Shared → Prop} (I : Inv X pins σ H s) (e : H a = some (.ins C dx fs)) (c : Cls X.K C) (n : oS X.K C f) (l : fs.lookup f = some v)
 (h : ∀ u s', Inv X pins σ H s' → dG v u → Q u s') : wpAny (model X.prog X.w) A (getAttr (.ref a) f b) Q E s := by
 obtain ⟨mA, O, r, _, _, _⟩ := zft I.hok e
 obtain ⟨u, hu, ru⟩ := yF.some_of (v := v) (o := mA f) (by rw [← l]; exact r f)
 exact zu7 I.kIn O (c.get f) c.hd n hu (zo3 ru) (h u _ (I.tok _) ru)
theorem vF {m : Str} {g : Addr} {pl : Sem Bool} {Q : Value × List Value → Shared → Prop} (I : Inv X pins σ H s) (e : H a = some (.ins C dx fs)) (c : Cls X.K C) (k : Meth X.K C m g) (l : fs.lookup m = none)
 (h : Q (.ref g, [.ref a]) s) : wpAny (model X.prog X.w) A (getMethod (.ref a) m pl) Q E s := by
 obtain ⟨mA, O, r, _, _, _⟩ := zft I.hok e
 have hn : mA m = none := yF.none_of (by rw [← l]; exact r m)
 exact zqz I.kIn O (c.get m) k.at_ k.fn hn h
theorem zlj {y : V} {u : Value} {Q : Unit → Shared → Prop} (I : Inv X pins σ H s) (e : H a = some (.ins C dx fs)) (c : Cls X.K C) (n : oS X.K C f) (hl : fs.length < 1000) (ry : dG y u)
 (h : ∀ s', Inv X pins σ (upd H a (.ins C dx (putF f y fs))) s' → Q () s') : wpAny (model X.prog X.w) A (setAttr (.ref a) f u) Q E s := by
 obtain ⟨mA, O, r, wi, _, ho⟩ := zft I.hok e
 have hz : (fs.map (·.1)).length ≤ sizeLine := by rw [List.length_map, sizeLine_eq]; omega
 refine zu8 I.kIn O c.sa c.po n.taker c.hd wi hz fun h' O' sb => h _ ?_
 have hd : ∃ o, h'.get? dx = some o := let ⟨o, _, _, e', _⟩ := O'.ns; ⟨o, e'⟩
 refine I.write (x := a) (e := dx) (by rw [e]; exact True.intro) (.inr ho) (fun b q hb z => (sb.2 b hb).trans z) hd ?_
 refine ⟨by rw [bD O.ne]; exact ho, ?_, O.ne, O'.obj, _, O'.ns, fun g => ?_, fun g hg => ?_⟩
 · have := zad f y fs; omega
 · show yF ((putF f y fs).lookup g) (if g = f then some u else mA g)
   rw [zac]
   by_cases q : g = f
   · rw [if_pos q, if_pos q]; exact ry
   · rw [if_neg q, if_neg q]; exact r g
 · by_cases q : g = f
   · rw [q]; exact (yI f y fs).1
   · refine (yI f y fs).2 g (wi g fun z => hg ?_)
     show (if g = f then some u else mA g) = none
     rw [if_neg q]; exact z
theorem Inv.made (I : Inv X pins σ H s) : Inv X pins σ (upd (upd H s.heap.objs.size (.own (s.heap.objs.size + 1))) (s.heap.objs.size + 1) (.ins C s.heap.objs.size []))
 { s with heap := (s.heap.push PySem.W.emptyDict).push (PySem.W.instObj C s.heap.objs.size) } := by
 have e1 : (s.heap.push PySem.W.emptyDict).get? s.heap.objs.size = some PySem.W.emptyDict := Heap.get?_push_size s.heap rfl
 have e2 : ((s.heap.push PySem.W.emptyDict).push (PySem.W.instObj C s.heap.objs.size)).get? (s.heap.objs.size + 1) = some (PySem.W.instObj C s.heap.objs.size) := by
  have := Heap.get?_push_size (s.heap.push PySem.W.emptyDict) (o := PySem.W.instObj C s.heap.objs.size) rfl
  rwa [Heap.size_push] at this
 have e3 : (s.heap.push PySem.W.emptyDict).Ns s.heap.objs.size (fun _ => none) := ⟨PySem.W.emptyDict, #[], _, e1, rfl, (fun e he => absurd he (by simp)), fun _ => rfl⟩
 have I1 := I.laid (a := s.heap.objs.size) (o := .own (s.heap.objs.size + 1)) (h' := s.heap.push PySem.W.emptyDict) (t' := s.toks) (fun b u q => Heap.get?_push_of_some _ q) (Nat.le_refl _) ⟨_, e1⟩
 refine I1.laid (a := s.heap.objs.size + 1) (o := .ins C s.heap.objs.size []) (t' := s.toks) (fun b u q => Heap.get?_push_of_some _ q) (Nat.le_of_eq (Heap.size_push _ _)) ?_
 have ne : s.heap.objs.size ≠ s.heap.objs.size + 1 := Nat.ne_of_lt (Nat.lt_succ_self _)
 refine ⟨by rw [bD ne, bP], Nat.zero_le _, ne, e2, fun _ => none, (Heap.Ns1.of_empty e3).at fun o q => Heap.get?_push_of_some _ q, fun _ => True.intro, fun y hy => absurd rfl hy⟩
theorem zu9 {prog : Program} {w : World} {env : Env} {e : Expr} {f : Str} {pos : Pos} {s : Shared} {Q : Value → Shared → Prop} (hb : attributeBase e f env (eval e env) = eval e env)
 (h : wpAny (model prog w) A (eval e env) (fun o s₁ => wpAny (model prog w) A (getAttr o f true) Q E s₁) E s) : wpAny (model prog w) A (eval (.Attribute e f pos) env) Q E s :=
 Attribute_any_ h (by rw [arm_eval_Attribute, hb])
end
noncomputable def tFld (K : W.Frag) (ta : TE) (f : Str) : TE := fun σ H Q => ta σ H fun x H1 => ∃ a C dx fs v, x = .ref a ∧ H1 a = some (.ins C dx fs) ∧ Cls K C ∧ oS K C f ∧ fs.lookup f = some v ∧ Q v H1
noncomputable def sFld (K : W.Frag) (ta tv : TE) (f : Str) : TS := fun D σ H => tv σ H fun y H1 => ta σ H1 fun x H2 => ∃ a C dx fs, x = .ref a ∧ H2 a = some (.ins C dx fs) ∧ Cls K C ∧ oS K C f ∧ fs.length < 1000 ∧
 D.nx σ (upd H2 a (.ins C dx (putF f y fs)))
section
variable {X : Cx} {o e value : Expr} {f : Str} {pos pos' tpos : Pos} {ta tv : TE}
theorem zys (he : PE X e ta) (hb : attributeBase e f X.env (eval e X.env) = eval e X.env) : PE X (.Attribute e f pos) (tFld X.K ta f) := by
 intro pins s σ H Q I h
 refine zu9 hb (thn (he pins s σ H _ I h) fun u s1 ⟨x, H1, I1, rx, a, C, dx, fs, v, ex, ea, c, n, l, q⟩ => ?_)
 subst ex
 obtain rfl : u = Value.ref a := rx
 exact zli I1 ea c n l fun u' s2 I2 ru => ⟨v, H1, I2, ru, q⟩
theorem zq1 (ha : PE X o ta) (hv : PE X value tv) (hs : swapsWith value (some (.Attribute o f pos')) pos.line X.env = pure false) : PS X (.Assign [.Attribute o f pos'] value pos) (sFld X.K ta tv f) := by
 intro pins s σ H D I h
 refine plainObj_wpAny_Assign_Attribute (thn (hv pins s σ H _ I h) fun u s1 ⟨y, H1, I1, ry, q⟩ => thn (ha pins s1 σ H1 _ I1 q) fun ov s2 ⟨x, H2, I2, rx, a, C, dx, fs, ex, ea, c, n, l, q2⟩ => ?_) hs
 subst ex
 obtain rfl : ov = Value.ref a := rx
 exact zlj I2 ea c n l ry fun s3 I3 => ⟨σ, _, I3, q2⟩
theorem zxm {pl : Sem Bool} {m : Str} {apos : Pos} {args : List Expr} {pins : List (Addr × Obj)} {s : Shared} {σ : St} {H : Hp} {Q : Value → Shared → Prop} {te : TE} (he : PE X e te) (I : Inv X pins σ H s)
 (h : te σ H fun x H1 => ∃ a C dx fs g, x = .ref a ∧ H1 a = some (.ins C dx fs) ∧ Cls X.K C ∧ Meth X.K C m g ∧ fs.lookup m = none ∧
   ∀ s1, Inv X pins σ H1 s1 → wpAny (model X.prog X.w) X.A (callWith pos (.ref g) [.ref a] (backTo pos (starEach args X.env)) (backToKw pos (keywordEach [] X.env))) Q X.xe s1)
 (ht : eval (.Call (.Attribute e m apos) args [] pos) X.env = (do
   let ov ← eval e X.env
   standAt apos.atName
   let (f, first) ← holding [ov] (getMethod ov m pl)
   callWith pos f first (backTo pos (starEach args X.env)) (backToKw pos (keywordEach [] X.env)))) :
 wpAny (model X.prog X.w) X.A (eval (.Call (.Attribute e m apos) args [] pos) X.env) Q X.xe s := by
 refine PySem.W.methodCall_KW (pl := pl) (thn (he pins s σ H _ I h) fun u s1 ⟨x, H1, I1, rx, a, C, dx, fs, g, ex, ea, c, k, l, q⟩ => ?_) ht
 subst ex
 obtain rfl : u = Value.ref a := rx
 exact vF I1 ea c k l (q s1 I1)
end
section
variable {X : Cx} {pins : List (Addr × Obj)} {σ : St} {H : Hp} {s : Shared} {A : Around} {E : Value → Shared → Prop} {Q : Value → Shared → Prop} {c : Value} {b : Bool}
inductive TyOf (K : W.Frag) (H : Hp) : V → Value → Prop where
 | non : TyOf K H .non (.type "NoneType")
 | bl (x : Bool) : TyOf K H (.bl x) (.type "bool")
 | int (i : Int) : TyOf K H (.int i) (.type "int")
 | str (x : Str) : TyOf K H (.str x) (.type "str")
 | flt (x : UInt64) : TyOf K H (.flt x) (.type "float")
 | lst {a : Addr} {xs : List V} (e : H a = some (.lst xs)) : TyOf K H (.ref a) (.type "list")
 | frz {a : Addr} {o : Obj} {xs : List V} (e : H a = some (.frz o (.lst xs))) : TyOf K H (.ref a) (.type "list")
 | tup {a : Addr} {xs : List V} (e : H a = some (.tup xs)) : TyOf K H (.ref a) (.type "tuple")
 | dK {a : Addr} {kvs : List (fJ × V)} (e : H a = some (.dK kvs)) : TyOf K H (.ref a) (.type "dict")
 | dT {a : Addr} {kvs : List (List fJ × V)} (e : H a = some (.dT kvs)) : TyOf K H (.ref a) (.type "dict")
 | ins {a C dx : Addr} {fs : List (Str × V)} (e : H a = some (.ins C dx fs)) (cl : Cls K C) (ha : W.findIn K (.ref C) "__class__" = some (some (.builtin "object.__class__")))
  (hn : PySem.W.specialIn K (.builtin "object.__class__") "__get__" = some (some (.builtin "getset_descriptor.__get__"))) (htk : PySem.W.takesIn K (.builtin "object.__class__") = some true)
  (hm : PySem.W.mroIn K C (.type "object") = some true) : TyOf K H (.ref a) (.ref C)
end
end L2
namespace L2
open PySem PySem.Spec PyProof.Rows
structure Room (k : Nat) (A : Around) : Prop where
 hd : A.handled = none
 dp : A.depth + 3 * k + 5 < recursionLimit
 un : A.units + 16 * k + 200 < cLine
theorem Room.mono {j k : Nat} {A : Around} (r : Room k A) (h : j ≤ k) : Room j A := ⟨r.hd, by have := r.dp; omega, by have := r.un; omega⟩
theorem Room.deeper {k : Nat} {A : Around} (r : Room (k + 1) A) (env : Env) : Room k (A.deeper env) :=
 ⟨r.hd, by have := r.dp; show A.depth + 1 + 3 * k + 5 < _; omega, by have := r.un; show A.units + 3 + 16 * k + 200 < _; omega⟩
theorem zlk {A : Around} {C : Addr} {us : List Value} {kw : List (Str × Value)} : (A.under (.builtin "type.__call__" ⟨.ref C :: us, kw⟩)).depth = A.depth + 1 := by
 first | rfl | simp [Around.under, Code.weight, Code.isCreation, Code.isGuard, Code.isCaller, Code.frames, Code.isFrame, guardIds]
theorem zll {A : Around} {C : Addr} {us : List Value} {kw : List (Str × Value)} : (A.under (.builtin "type.__call__" ⟨.ref C :: us, kw⟩)).units = A.units + 1 := by
 first | rfl | simp [Around.under, Code.cUnits, Code.frames, Code.isFrame]
theorem Room.make {k : Nat} {A : Around} (r : Room (k + 1) A) (C : Addr) (us : List Value) (kw : List (Str × Value)) : Room k (A.under (.builtin "type.__call__" ⟨.ref C :: us, kw⟩)) :=
 ⟨r.hd, by have := r.dp; rw [zlk]; omega, by have := r.un; rw [zll]; omega⟩
theorem Room.depth {k : Nat} {A : Around} (r : Room k A) : A.depth < recursionLimit := by have := r.dp; omega
theorem Room.units {k : Nat} {A : Around} (r : Room k A) : A.units + 64 < cLine := by have := r.un; omega
noncomputable def zq2 : TA := fun _ H Q => Q [] H
noncomputable def znb (ta : TE) (tr : TA) : TA := fun σ H Q => ta σ H fun x H1 => tr σ H1 fun xs H2 => Q (x :: xs) H2
section
variable {X : Cx} {e : Expr} {es : List Expr} {te : TE} {t : TA} {pos : Pos}
theorem zfu : PA X [] zq2 := fun _ _ _ _ H Q I h => Calls.spliced_nil ⟨[], H, I, .nil, h⟩
theorem qI (ha : PE X e te) (hr : PA X es t) (hs : starEach (e :: es) X.env = (false, eval e X.env) :: starEach es X.env := by rfl) : PA X (e :: es) (znb te t) := by
 intro pos pins s σ H Q I h
 rw [hs]
 show wpAny _ _ (spliced ((false, eval e X.env) :: backTo pos (starEach es X.env))) _ _ s
 refine Calls.spliced_cons (thn (ha pins s σ H _ I h) fun u s1 ⟨x, H1, I1, r1, q1⟩ => ?_)
 exact thn (hr pos pins s1 σ H1 _ I1 q1) fun us s2 ⟨xs, H2, I2, r2, q2⟩ => ⟨x :: xs, H2, I2, .cons r1 r2, q2⟩
noncomputable def tTup (t : TA) : TE := fun σ H Q => t σ H fun xs H1 => xs.length ≤ sizeLine ∧ ∀ p, H1 p = none → Q (.ref p) (upd H1 p (.tup xs))
noncomputable def tLst (t : TA) : TE := fun σ H Q => t σ H fun xs H1 => xs.length ≤ sizeLine ∧ ∀ p, H1 p = none → Q (.ref p) (upd H1 p (.lst xs))
theorem zq3 {x1} (h : PA X es t) : PE X (.Tuple es x1 pos) (tTup t) := by
 intro pins s σ H Q I hq
 refine wpAny_Tuple_spliced (thn (h pos pins s σ H _ I hq) fun us s1 ⟨xs, H1, I1, r, z, q⟩ => ⟨by rw [← r.length]; exact z, ?_⟩)
 have hf : H1 s1.heap.objs.size = none := I1.hok.fresh (Nat.le_refl _)
 refine ⟨.ref s1.heap.objs.size, upd H1 s1.heap.objs.size (.tup xs), I1.laid (t' := s1.toks) (fun b u e => Heap.get?_push_of_some _ e) (Nat.le_refl _) ?_, rfl, q _ hf⟩
 exact ⟨z, us, r, ⟨_, Heap.get?_push_size _ rfl, rfl, _, rfl⟩⟩
theorem zq4 (h : PA X es t) : PE X (.List es pos) (tLst t) := by
 intro pins s σ H Q I hq
 refine wpAny_List_spliced (thn (h pos pins s σ H _ I hq) fun us s1 ⟨xs, H1, I1, r, z, q⟩ => ⟨by rw [← r.length]; exact z, ?_⟩)
 have hf : H1 s1.heap.objs.size = none := I1.hok.fresh (Nat.le_refl _)
 refine ⟨.ref s1.heap.objs.size, upd H1 s1.heap.objs.size (.lst xs), I1.laid (t' := s1.toks) (fun b u e => Heap.get?_push_of_some _ e) (Nat.le_refl _) ?_, rfl, q _ hf⟩
 exact ⟨z, us, 0, r, Heap.get?_push_size _ rfl⟩
end
noncomputable abbrev Sp := List V → Hp → VK → XK → Prop
noncomputable abbrev CXT := List Env → Hp → Shared → XK → Value → Shared → Prop
structure Env0 (P : Program) (w : World) (K : W.Frag) (mg : Str → Option Value) (base : Heap) (A : Around) (outer : List Env) (s : Shared) (H : Hp) : Prop where
 frames : A.frames = some outer
 mod : Mod K mg base
 bs : ∀ b o, base.get? b = some o → s.heap.get? b = some o ∧ H b = none
 bsz : base.objs.size ≤ s.heap.objs.size
 funs : s.heap.FunFrames base outer
 frf : ∀ b ∈ frs outer, H b = none
 hok : uQ P w H s.heap
 bare : AllBare s.gens
inductive CE (outer : List Env) (P : Program) (w : World) (H : Hp) (s : Shared) (Q : VK) (u : Value) (s' : Shared) : Prop
 | mk (v : V) (H' : Hp) (os : s'.os = s.os) (bare : AllBare s'.gens) (un : Un (frs outer) [] H H' s.heap s'.heap) (hok : uQ P w H' s'.heap) (rel : dG v u) (q : Q v H') : CE outer P w H s Q u s'
noncomputable def CR (CX : CXT) (outer : List Env) (P : Program) (w : World) (H : Hp) (s : Shared) (Q : VK) (E : XK) (r : Result) (s' : Shared) : Prop :=
 match r with
 | .ok (.ret u) => CE outer P w H s Q u s'
 | .ok _ => False
 | .error e => CX outer H s E e s'
structure FnOk (P : Program) (w : World) (K : W.Frag) (mg : Str → Option Value) (base : Heap) (CX : CXT) (k : Nat) (f : Addr) (fd : FuncData) (ps : List Str) (sp : Sp) : Prop where
 len : ∀ vs H Q E, sp vs H Q E → vs.length = ps.length
 run : ∀ (A : Around) (outer : List Env) (s : Shared) (H : Hp) (args : Args) (us : List Value) (vs : List V) (Q : VK) (E : XK), Room k A → Env0 P w K mg base A outer s H → BindsTo s fd args (ps.zip us) → bU vs us → sp vs H Q E →
  codeAny (model P w) A (.call (.ref f) args) (CR CX outer P w H s Q E) s
theorem Env0.make {P : Program} {w : World} {K : W.Frag} {mg : Str → Option Value} {base : Heap} {A : Around} {outer : List Env} {s : Shared} {H : Hp} (e : Env0 P w K mg base A outer s H) (C : Addr) (us : List Value) (kw : List (Str × Value)) :
 Env0 P w K mg base (A.under (.builtin "type.__call__" ⟨.ref C :: us, kw⟩)) outer s H := ⟨by first | exact e.frames | (simpa [Around.under, Code.envs, Code.isFrame, pushEnvs] using e.frames), e.mod, e.bs, e.bsz, e.funs, e.frf, e.hok, e.bare⟩
section
variable {X : Cx} {pins : List (Addr × Obj)} {σ : St} {H : Hp} {s s' : Shared}
theorem Inv.env0 (I : Inv X pins σ H s) : Env0 X.prog X.w X.K X.mg X.base X.A X.stack s H :=
 ⟨I.ok.frames, I.ok.mod, I.bs, Nat.le_trans I.ok.bsz I.sz, I.stack, I.stkFree, I.hok, I.bare⟩
theorem Inv.after {Q : VK} {u : Value} (I : Inv X pins σ H s) (h : CE X.stack X.prog X.w H s Q u s') : EP X pins σ Q u s' := by
 obtain ⟨v, H', os, bare, un, hok, r, q⟩ := h
 obtain ⟨hh, g, d, t, os'⟩ := s'
 obtain rfl : os' = s.os := os
 exact ⟨v, H', I.call (h' := hh) (g' := g) (d' := d) (t' := t) (ch := []) un hok bare (fun b z => absurd z (by simp)), r, q⟩
end
noncomputable def zq5 (sp : Sp) (dvs : List V) (E : XK) (t : TA) : TE := fun σ H Q => t σ H fun vs H1 => sp (vs ++ dvs) H1 Q E
noncomputable def zaa7 (C : Addr) (m : Str) (sp : Sp) (dvs : List V) (E : XK) (ta : TE) (t : TA) : TE := fun σ H Q => ta σ H fun x H1 => ∃ a dx fs, x = .ref a ∧ H1 a = some (.ins C dx fs) ∧ fs.lookup m = none ∧
 t σ H1 fun vs H2 => sp (x :: (vs ++ dvs)) H2 Q E
noncomputable def zaa8 (C : Addr) (sp : Sp) (dvs : List V) (E : XK) (t : TA) : TE := fun σ H Q => t σ H fun vs H1 => ∀ x dx, H1 x = none → H1 dx = none → dx ≠ x →
 sp (.ref x :: (vs ++ dvs)) (upd (upd H1 dx (.own x)) x (.ins C dx [])) (fun v H2 => v = .non ∧ Q (.ref x) H2) E
noncomputable def iB (K : W.Frag) (fd : FuncData) (ps : List Str) (ds : List Value) : Prop :=
 ∀ (s : Shared) (us : List Value), K.In s.heap → (us ++ ds).length = ps.length → BindsTo s fd ⟨us, []⟩ (ps.zip (us ++ ds))
theorem iB.all {K : W.Frag} {fd : FuncData} {ps : List Str} (h : ∀ us : List Value, us.length = ps.length → bindArgs fd ⟨us, []⟩ = pure (ps.zip us)) : iB K fd ps [] := fun s us _ hl => by
 rw [List.append_nil] at hl ⊢
 exact .of_eq (h us hl)
noncomputable def vG (CX : CXT) (X : Cx) (E : XK) : Prop := ∀ (pins : List (Addr × Obj)) (σ : St) (H : Hp) (s : Shared) (e : Value) (s' : Shared), Inv X pins σ H s → CX X.stack H s E e s' → X.xe e s'
section
variable {X : Cx} {CX : CXT} {k : Nat} {f C : Addr} {fd : FuncData} {ps : List Str} {sp : Sp} {dvs : List V} {ds : List Value} {E : XK} {x m : Str} {p pos apos : Pos} {e o : Expr} {es : List Expr} {ta : TE} {t : TA}
theorem zlm {pins : List (Addr × Obj)} {σ : St} {H : Hp} {s : Shared} {Q : VK} {us : List Value} {vs : List V} (F : FnOk X.prog X.w X.K X.mg X.base CX k f fd ps sp) (hr : Room k X.A) (hb : iB X.K fd ps ds) (hd : bU dvs ds) (hx : vG CX X E)
 (I : Inv X pins σ H s) (r : bU vs us) (h : sp (vs ++ dvs) H Q E) : wpAny (model X.prog X.w) X.A (call (.ref f) us) (EP X pins σ Q) X.xe s := by
 have r2 : bU (vs ++ dvs) (us ++ ds) := r.append hd
 have hl : (us ++ ds).length = ps.length := by rw [← r2.length]; exact F.len _ _ _ _ h
 refine wpAny_call (codeAny_mono (F.run X.A X.stack s H ⟨us, []⟩ (us ++ ds) (vs ++ dvs) Q E hr I.env0 (hb s us I.kIn hl) r2 h) fun r s' hq => ?_)
 cases r with
 | error e => exact hx pins σ H s e s' I hq
 | ok fl =>
   cases fl with
   | ret u => exact I.after hq
   | next => exact False.elim hq
   | brk => exact False.elim hq
   | cont => exact False.elim hq
theorem zva (F : FnOk X.prog X.w X.K X.mg X.base CX k f fd ps sp) (hr : Room k X.A) (hg : Gl X x) (hm : X.mg x = some (.ref f)) (hk : W.keepIn X.K (.ref f) = true) (hb : iB X.K fd ps ds) (hd : bU dvs ds) (hx : vG CX X E)
 (ha : PA X (e :: es) t) (hdb : (x == ("__debug__" : Str)) = false := by decide) (he : starEach (e :: es) X.env = (false, eval e X.env) :: starEach es X.env := by rfl) (hpl : (backTo pos (starEach es X.env)).any (·.1) = false := by rfl) :
 PE X (.Call (.Name x p) (e :: es) [] pos) (zq5 sp dvs E t) := by
 intro pins s σ H Q I h
 refine wpAny_Call_Name_kw (qG I hg hm ?_ hdb)
 refine PySem.W.callWith_K (h₀ := X.base) I.ok.mod.kin hk (thn (ha pos pins s σ H _ I h) fun us s1 ⟨vs, H1, I1, r, q⟩ => ⟨I1.kIn, ?_⟩) he hpl
 exact zlm F hr hb hd hx I1 r q
theorem zq6 (F : FnOk X.prog X.w X.K X.mg X.base CX k f fd ps sp) (hr : Room k X.A) (hg : Gl X x) (hm : X.mg x = some (.ref f)) (hk : W.keepIn X.K (.ref f) = true) (hb : iB X.K fd ps ds) (hd : bU dvs ds) (hx : vG CX X E)
 (hdb : (x == ("__debug__" : Str)) = false := by decide) : PE X (.Call (.Name x p) [] [] pos) (zq5 sp dvs E zq2) := by
 intro pins s σ H Q I h
 refine wpAny_Call_Name_kw (qG I hg hm ?_ hdb)
 exact PySem.W.callWith_K0 I.kIn hk (zlm (us := []) F hr hb hd hx I .nil h)
theorem zvb {pl : Sem Bool} (he : PE X o ta) (c : Cls X.K C) (hm : Meth X.K C m f) (F : FnOk X.prog X.w X.K X.mg X.base CX k f fd ps sp) (hr : Room k X.A) (hb : iB X.K fd ps ds) (hd : bU dvs ds) (hx : vG CX X E) (ha : PA X (e :: es) t)
 (hst : starEach (e :: es) X.env = (false, eval e X.env) :: starEach es X.env := by rfl) (hpl : (backTo pos (starEach es X.env)).any (·.1) = false := by rfl)
 (ht : eval (.Call (.Attribute o m apos) (e :: es) [] pos) X.env = (do
   let ov ← eval o X.env
   standAt apos.atName
   let (f, first) ← holding [ov] (getMethod ov m pl)
   callWith pos f first (backTo pos (starEach (e :: es) X.env)) (backToKw pos (keywordEach [] X.env))) := by rfl) :
 PE X (.Call (.Attribute o m apos) (e :: es) [] pos) (zaa7 C m sp dvs E ta t) := by
 intro pins s σ H Q I h
 refine PySem.W.methodCall_KW (pl := pl) (thn (he pins s σ H _ I h) fun u s1 ⟨x, H1, I1, rx, a, dx, fs, ex, ea, l, q⟩ => ?_) ht
 subst ex
 obtain rfl : u = Value.ref a := rx
 refine vF I1 ea c hm l ?_
 refine PySem.W.callWith_K (first := [.ref a]) (h₀ := X.base) I.ok.mod.kin hm.kp (thn (ha pos pins s1 σ H1 _ I1 q) fun us s2 ⟨vs, H2, I2, r, q2⟩ => ⟨I2.kIn, ?_⟩) hst hpl
 exact zlm (us := .ref a :: us) (vs := .ref a :: vs) F hr hb hd hx I2 (.cons rfl r) q2
structure Mk (K : W.Frag) (C f : Addr) : Prop where
 makes : PySem.W.makesIn K C = true
 init : W.findIn K (.ref C) "__init__" = some (some (.ref f))
 fn : W.isFn K (.ref f) = true
 kp : W.keepIn K (.ref C) = true
theorem zq7 {pins : List (Addr × Obj)} {σ : St} {H : Hp} {s : Shared} {Q : VK} {us : List Value} {vs : List V} (M : Mk X.K C f) (F : FnOk X.prog X.w X.K X.mg X.base CX k f fd ps sp) (hr : Room (k + 1) X.A) (hb : iB X.K fd ps ds) (hd : bU dvs ds)
 (hx : vG CX X E) (I : Inv X pins σ H s) (r : bU vs us)
 (h : ∀ x dx, H x = none → H dx = none → dx ≠ x → sp (.ref x :: (vs ++ dvs)) (upd (upd H dx (.own x)) x (.ins C dx [])) (fun v H2 => v = .non ∧ Q (.ref x) H2) E) :
 wpAny (model X.prog X.w) X.A (call (.ref C) us) (EP X pins σ Q) X.xe s := by
 have hq := h (s.heap.objs.size + 1) s.heap.objs.size (I.hok.fresh (Nat.le_succ _)) (I.hok.fresh (Nat.le_refl _)) (Nat.ne_of_lt (Nat.lt_succ_self _))
 have I2 := Inv.made (C := C) I
 have r2 : bU (V.ref (s.heap.objs.size + 1) :: (vs ++ dvs)) (Value.ref (s.heap.objs.size + 1) :: (us ++ ds)) := .cons rfl (r.append hd)
 have hl : (Value.ref (s.heap.objs.size + 1) :: us ++ ds).length = ps.length := by
  have e := r2.length
  rw [F.len _ _ _ _ hq] at e
  exact e.symm
 refine wpAny_call (zq0 (f := f) I.kIn M.makes M.init (beq_iff_eq.mp M.fn) (codeAny_mono (F.run _ X.stack _ _ ⟨Value.ref (s.heap.objs.size + 1) :: us, []⟩ (Value.ref (s.heap.objs.size + 1) :: (us ++ ds)) _ _ E (hr.make C us [])
  (I2.env0.make C us []) (hb _ (Value.ref (s.heap.objs.size + 1) :: us) I2.kIn hl) r2 hq) fun r s' hq' => ?_))
 cases r with
 | error e => exact hx pins σ _ _ e s' I2 hq'
 | ok fl =>
   cases fl with
   | ret u =>
     obtain ⟨v, H', I3, rv, ev, q3⟩ := I2.after hq'
     subst ev
     exact ⟨rv, ⟨V.ref (s.heap.objs.size + 1), H', I3, rfl, q3⟩⟩
   | next => exact False.elim hq'
   | brk => exact False.elim hq'
   | cont => exact False.elim hq'
theorem zvc (M : Mk X.K C f) (F : FnOk X.prog X.w X.K X.mg X.base CX k f fd ps sp) (hr : Room (k + 1) X.A) (hg : Gl X x) (hm : X.mg x = some (.ref C)) (hb : iB X.K fd ps ds) (hd : bU dvs ds) (hx : vG CX X E)
 (ha : PA X (e :: es) t) (hdb : (x == ("__debug__" : Str)) = false := by decide) (he : starEach (e :: es) X.env = (false, eval e X.env) :: starEach es X.env := by rfl) (hpl : (backTo pos (starEach es X.env)).any (·.1) = false := by rfl) :
 PE X (.Call (.Name x p) (e :: es) [] pos) (zaa8 C sp dvs E t) := by
 intro pins s σ H Q I h
 refine wpAny_Call_Name_kw (qG I hg hm ?_ hdb)
 refine PySem.W.callWith_K (h₀ := X.base) I.ok.mod.kin M.kp (thn (ha pos pins s σ H _ I h) fun us s1 ⟨vs, H1, I1, r, q⟩ => ⟨I1.kIn, ?_⟩) he hpl
 exact zq7 M F hr hb hd hx I1 r q
end
noncomputable def PK (X : Cx) (kws : List Keyword) (t : TA) : Prop :=
 ∀ (pos : Pos) (pins : List (Addr × Obj)) (s : Shared) (σ : St) (H : Hp) (Q : List V → Hp → Prop), Inv X pins σ H s → t σ H Q → wpAny (model X.prog X.w) X.A (evalAll ((backToKw pos (keywordEach kws X.env)).map (·.2))) (AP X pins σ Q) X.xe s
section
variable {X : Cx} {CX : CXT} {k : Nat} {f C : Addr} {fd : FuncData} {ps ks : List Str} {sp : Sp} {E : XK} {x m : Str} {p pos apos kpos : Pos} {e o : Expr} {es : List Expr} {kws : List Keyword} {te ta : TE} {t tk : TA} {nm : Option Str}
theorem zyt : PK X [] zq2 := fun _ _ _ _ H Q I h => wpAny_evalAll_nil ⟨[], H, I, .nil, h⟩
theorem zvd (ha : PE X e te) (hr : PK X kws t) : PK X (⟨nm, e, kpos⟩ :: kws) (znb te t) := by
 intro pos pins s σ H Q I h
 show wpAny _ _ (evalAll ((do let v ← eval e X.env; standAt pos; pure v) :: (backToKw pos (keywordEach kws X.env)).map (·.2))) _ _ s
 refine wpAny_evalAll_cons (wpAny_bind (thn (ha pins s σ H _ I h) fun u s1 ⟨x, H1, I1, r1, q1⟩ => wpAny_bind (wpAny_standAt (wpAny_pure ?_))))
 exact thn (hr pos pins s1 σ H1 _ I1 q1) fun us s2 ⟨xs, H2, I2, r2, q2⟩ => ⟨x :: xs, H2, I2, .cons r1 r2, q2⟩
structure KBinds (K : W.Frag) (fd : FuncData) (ps ks : List Str) (g : List Value → List Value → List Value) (gV : List V → List V → List V) : Prop where
 to : ∀ (s : Shared) (us ws : List Value), K.In s.heap → (g us ws).length = ps.length → BindsTo s fd ⟨us, ks.zip ws⟩ (ps.zip (g us ws))
 rel : ∀ {vs : List V} {us : List Value} {zs : List V} {ws : List Value}, bU vs us → bU zs ws → bU (gV vs zs) (g us ws)
variable {g : List Value → List Value → List Value} {gV : List V → List V → List V}
end
structure FnScope (N P : List Str) (sc : Scope) : Prop where
 kind : sc.kind = .function
 co : sc.isCoroutine = false
 gen : sc.isGenerator = false
 nd : N.Nodup
 pre : N.take P.length = P
 par : ∀ x ∈ P, sc.names.lookup x = some .local ∨ sc.names.lookup x = some .cell
 nofree : ∀ y ∈ sc.names, y.2 ≠ .free
theorem mR {N P : List Str} {sc : Scope} (a : sc.kind = .function := by rfl) (b : sc.isCoroutine = false := by rfl) (c : sc.isGenerator = false := by rfl) (d : N.Nodup := by decide +kernel) (e : N.take P.length = P := by rfl) (f : ∀ x ∈ P, sc.names.lookup x = some .local ∨ sc.names.lookup x = some .cell := by decide +kernel) (g : ∀ y ∈ sc.names, y.2 ≠ .free := by decide +kernel) : FnScope N P sc := ⟨a, b, c, d, e, f, g⟩
theorem zel {kindOf : Str → Option NameKind} {x : Str} : ∀ {binds : List (Str × Value)} {m : Str → Option Value}, (∀ v, (x, v) ∉ binds) → bindL kindOf binds m x = m x
 | [], _, _ => rfl
 | (n, v) :: r, m, h => by
   unfold bindL
   rw [zel fun w hw => h w (List.mem_cons_of_mem _ hw)]
   split
   · have : x ≠ n := by rintro rfl; exact h v List.mem_cons_self
     simp [this]
   · rfl
theorem zem {kindOf : Str → Option NameKind} {x : Str} : ∀ {binds : List (Str × Value)} {m : Str → Option Value}, (∀ v, (x, v) ∉ binds) → bindC kindOf binds m x = m x
 | [], _, _ => rfl
 | (n, v) :: r, m, h => by
   unfold bindC
   rw [zem fun w hw => h w (List.mem_cons_of_mem _ hw)]
   split
   · rfl
   · have : x ≠ n := by rintro rfl; exact h v List.mem_cons_self
     simp [this]
theorem zen {kindOf : Str → Option NameKind} {x : Str} {v : Value} : ∀ {P : List Str} {vs : List Value} {i : Nat} {m : Str → Option Value}, P.Nodup → P[i]? = some x → vs[i]? = some v → kindOf x = some .local →
 bindL kindOf (P.zip vs) m x = some v
 | [], _, _, _, _, h, _, _ => by simp at h
 | _ :: _, [], _, _, _, _, h, _ => by simp at h
 | p :: P, w :: vs, 0, m, nd, h1, h2, hk => by
   simp at h1 h2; subst h1; subst h2
   show bindL kindOf ((p, w) :: P.zip vs) m p = _
   unfold bindL
   rw [zel fun v hv => (List.nodup_cons.mp nd).1 (List.of_mem_zip hv).1, if_pos hk]
   simp
 | p :: P, w :: vs, i + 1, m, nd, h1, h2, hk => by
   show bindL kindOf ((p, w) :: P.zip vs) m x = _
   unfold bindL
   exact zen (i := i) (List.nodup_cons.mp nd).2 (by simpa using h1) (by simpa using h2) hk
theorem zeo {kindOf : Str → Option NameKind} {x : Str} {v : Value} : ∀ {P : List Str} {vs : List Value} {i : Nat} {m : Str → Option Value}, P.Nodup → P[i]? = some x → vs[i]? = some v → kindOf x ≠ some .local →
 bindC kindOf (P.zip vs) m x = some v
 | [], _, _, _, _, h, _, _ => by simp at h
 | _ :: _, [], _, _, _, _, h, _ => by simp at h
 | p :: P, w :: vs, 0, m, nd, h1, h2, hk => by
   simp at h1 h2; subst h1; subst h2
   show bindC kindOf ((p, w) :: P.zip vs) m p = _
   unfold bindC
   rw [zem fun v hv => (List.nodup_cons.mp nd).1 (List.of_mem_zip hv).1, if_neg hk]
   simp
 | p :: P, w :: vs, i + 1, m, nd, h1, h2, hk => by
   show bindC kindOf ((p, w) :: P.zip vs) m x = _
   unfold bindC
   exact zeo (i := i) (List.nodup_cons.mp nd).2 (by simpa using h1) (by simpa using h2) hk
noncomputable def start (N : List Str) (vs : List V) : St := vs.map some ++ List.replicate (N.length - vs.length) none
noncomputable def cxOf (CX : CXT) (P : Program) (w : World) (K : W.Frag) (mg : Str → Option Value) (base : Heap) (N : List Str) (qual : Str) (scope : Scope) (f : Addr) (cd : Value) (A : Around) (outer : List Env) (s : Shared) (H : Hp) (E : XK) : Cx where
 prog := P
 w := w
 K := K
 mg := mg
 base := base
 A := A.deeper (envOfC qual scope s.heap.objs.size f cd)
 N := N
 s₀ := s
 H₀ := H
 env := envOfC qual scope s.heap.objs.size f cd
 outer := outer
 stack := envOfC qual scope s.heap.objs.size f cd :: outer
 ex := []
 calm := true
 fn := fun _ => true
 pn := []
 xe := fun e s' => wpAny (model P w) (A.deeper (envOfC qual scope s.heap.objs.size f cd)) (leaving (envOfC qual scope s.heap.objs.size f cd) e) (fun _ s'' => CX outer H s E e s'') (fun e' s'' => CX outer H s E e' s'') s'
theorem zh8 {sc : Scope} {n : Nat} {x : Str} (h : sc.names.lookup x = some .cell) : ∃ c, (cellsFrom n sc.names []).lookup x = some c := by
 have q := PySem.W.cellsFrom_some sc.names n [] (.inl h)
 exact Option.isSome_iff_exists.mp q
theorem zo4 {CX : CXT} {P : Program} {w : World} {K : W.Frag} {mg : Str → Option Value} {base : Heap} {N ps : List Str} {qual : Str} {scope : Scope} {f : Addr} {cd : Value} {A : Around} {outer : List Env} {s s1 : Shared} {H : Hp} {E : XK} {us : List Value} {vs : List V}
 (S : FnScope N ps scope) (hd : A.handled = none) (e0 : Env0 P w K mg base A outer s H) (hl : vs.length = ps.length) (r : bU vs us)
 (x : InCallC s s.heap.objs.size (bindL (envOfC qual scope s.heap.objs.size f cd).kindOf (ps.zip us) fun _ => none) (cellsFrom (s.heap.objs.size + 1) scope.names []) (bindC (envOfC qual scope s.heap.objs.size f cd).kindOf (ps.zip us) fun _ => none) s1) :
 Inv (cxOf CX P w K mg base N qual scope f cd A outer s H E) [] (start N vs) H s1 := by
 have hpl : ps.length ≤ N.length := by have := congrArg List.length S.pre; rw [List.length_take] at this; omega
 obtain ⟨h1, tk, rfl, hk⟩ := x.done
 have noA : ∀ b : Addr, b ∉ (cxOf CX P w K mg base N qual scope f cd A outer s H E).ex := fun b z => absurd (show b ∈ ([] : List Addr) from z) (by simp)
 refine ⟨⟨e0.mod, S.kind, rfl, rfl, Nat.le_refl _, fun y z c h1 h2 => ?_, fun y hy => ?_, fun y c _ h => ?_, fun _ => hd, Around.frames_deeper e0.frames, .inr ⟨rfl, rfl⟩, fun b z => absurd z (noA b), e0.bs, e0.bsz, fun b _ _ => noA b, fun b z => absurd z (noA b), e0.funs, e0.frf⟩,
  rfl, e0.bare, Un.kept hk, ⟨_, x.toInCall.ns, fun i y v h1 h2 h3 => ?_⟩, fun y c h => ⟨_, x.cell y c h⟩, e0.hok.fresh (Nat.le_refl _), fun y c h => ?_, fun p hp => absurd (show p ∈ ([] : List (Addr × Obj)) from hp) (by simp), e0.hok.kept hk, ?_⟩
 · exact name_of_addr x.apart (PySem.mem_of_lookup h1) (PySem.mem_of_lookup h2)
 · have hy : scope.names.lookup y = some .cell ∨ scope.names.lookup y = some .free := hy
   rcases hy with hy | hy
   · exact zh8 hy
   · exact absurd rfl (S.nofree _ (PySem.mem_of_lookup hy))
 · exact Nat.le_of_lt (x.above y c (PySem.mem_of_lookup h))
 · have hi : i < vs.length := by
    unfold start at h2
    by_cases hi : i < vs.length
    · exact hi
    · rw [List.getElem?_append_right (by simpa using hi)] at h2
      rw [List.getElem?_replicate] at h2
      split at h2 <;> cases h2
   have ha : vs[i]? = some v := by
    unfold start at h2
    rw [List.getElem?_append_left (by simpa using hi), List.getElem?_map] at h2
    cases e : vs[i]? with
    | none => rw [e] at h2; cases h2
    | some a => rw [e] at h2; cases h2; rfl
   obtain ⟨u, hu, rv⟩ := r.get ha
   have hp : ps[i]? = some y := by
    rw [← S.pre, List.getElem?_take_of_lt (by omega)]; exact h1
   have ndP : ps.Nodup := by rw [← S.pre]; exact S.nd.sublist (List.take_sublist _ _)
   refine ⟨u, rv, ?_⟩
   rcases S.par y (List.mem_of_getElem? hp) with k | k
   · exact .inl ⟨k, zen ndP hp hu k⟩
   · obtain ⟨c, e⟩ := zh8 (n := s.heap.objs.size + 1) k
     refine .inr ⟨.inl k, c, e, ?_⟩
     have q := x.cell y c e
     rw [zeo ndP hp hu (by show scope.names.lookup y ≠ _; rw [k]; decide)] at q
     exact q
 · exact e0.hok.fresh (Nat.le_of_lt (x.above y c (PySem.mem_of_lookup h)))
 · unfold start
   show _ = N.length
   rw [List.length_append, List.length_map, List.length_replicate]
   omega
theorem zxn {CX : CXT} {P : Program} {w : World} {K : W.Frag} {mg : Str → Option Value} {base : Heap} {k : Nat} {f : Addr} {name qual : Str} {params : Arguments} {body : List Stmt} {scope : Scope} {dV kV doc pm cdv ct oc : Value} {an od : Option Addr}
 {osl : Array (Option Value)} {N ps : List Str} {sp : Sp} (lk : K.lookup f = some ⟨oc, od, .func (W.fnOf name qual params body scope dV kV doc pm an cdv ct), osl⟩) (hcd : W.codeIn K cdv qual = true) (S : FnScope N ps scope)
 (len : ∀ vs H Q E, sp vs H Q E → vs.length = ps.length)
 (hbody : ∀ (A : Around) (outer : List Env) (s : Shared) (H : Hp) (vs : List V) (Q : VK) (E : XK), Room k (A.deeper (envOfC qual scope s.heap.objs.size f cdv)) → sp vs H Q E →
   ∃ t, PSs (cxOf CX P w K mg base N qual scope f cdv A outer s H E) body t ∧ t { nx := fun _ H' => Q .non H', rt := Q } (start N vs) H) :
 FnOk P w K mg base CX (k + 1) f (W.fnOf name qual params body scope dV kV doc pm an cdv ct) ps sp := by
 refine ⟨len, fun A outer s H args us vs Q E hr e0 hb r hsp => ?_⟩
 have hl := len _ _ _ _ hsp
 have KX : K.In s.heap := e0.mod.kin.keeps fun b o e => (e0.bs b o e).1
 have mT : s.heap.NoLimit := e0.mod.nolimit.keeps fun b o e => (e0.bs b o e).1
 have hkind : ∀ y ∈ ps.zip us, scope.names.lookup y.1 = some .local ∨ (scope.names.lookup y.1 = some .cell ∧ ((cellsFrom (s.heap.objs.size + 1) scope.names []).lookup y.1).isSome = true) := fun ⟨n, v⟩ hy => by
  rcases S.par n (List.of_mem_zip hy).1 with q | q
  · exact .inl q
  · exact .inr ⟨q, PySem.W.cellsFrom_some _ _ _ (.inl q)⟩
 refine codeAny_call_function hr.depth (KX _ _ lk) rfl S.co S.gen rfl (PySem.W.codeRec_of KX hcd) (hb _ _ _ _ ?_)
 refine wpAny_newFunctionEnv_cells S.kind hkind fun env he s1 x => ?_
 subst he
 refine ⟨mT.keeps x.toInCall.keep, codeAny_func ?_⟩
 obtain ⟨t, ht, hq⟩ := hbody A outer s H vs Q E (hr.deeper _) hsp
 have I : Inv (cxOf CX P w K mg base N qual scope f cdv A outer s H E) [] (start N vs) H s1 := zo4 S hr.hd e0 hl r x
 refine wpAny_mono (ht [] s1 (start N vs) H _ I hq) (fun fl s' hs => ?_) fun e s' hs => hs
 have fin : ∀ {σ' : St} {H' : Hp} {v : V} {u : Value}, Inv (cxOf CX P w K mg base N qual scope f cdv A outer s H E) [] σ' H' s' → dG v u → Q v H' → CE outer P w H s Q u s' :=
  fun {σ' H' v u} J rv q => ⟨v, H', J.os, J.bare, J.base, J.hok, rv, q⟩
 cases fl with
 | ret u =>
   obtain ⟨v, σ', H', J, rv, q⟩ := hs
   exact fin J rv q
 | next =>
   obtain ⟨σ', H', J, q⟩ := hs
   exact fin (v := V.non) (u := Value.none) J rfl q
 | brk =>
   obtain ⟨_, _, _, q⟩ := hs
   exact False.elim q
 | cont =>
   obtain ⟨_, _, _, q⟩ := hs
   exact False.elim q
end L2
namespace L2
open PySem PySem.Spec PyProof.Rows
section
variable {X : Cx} {x : Str} {p pos : Pos} {e : Expr} {es : List Expr} {t : TA} {id T : String} {r : List V → Hp → VK → Prop}
noncomputable def tCB (r : List V → Hp → VK → Prop) (t : TA) : TE := fun σ H Q => t σ H fun vs H1 => r vs H1 Q
theorem zbt (hc : nE X (.builtin id) r) (hg : Gl X x) (hm : X.mg x = none) (hv : bootBuiltins x = some (.builtin id)) (ha : PA X (e :: es) t) (hn : x ≠ "__name__" := by decide) (hdb : (x == ("__debug__" : Str)) = false := by decide)
 (he : starEach (e :: es) X.env = (false, eval e X.env) :: starEach es X.env := by rfl) (hpl : (backTo pos (starEach es X.env)).any (·.1) = false := by rfl) : PE X (.Call (.Name x p) (e :: es) [] pos) (tCB r t) := by
 intro pins s σ H Q I h
 refine wpAny_Call_Name_kw (vE I hg hm hv ?_ hn hdb)
 exact PyProof.Rows.callWith_builtin1 (thn (ha pos pins s σ H _ I h) fun us s1 ⟨vs, H1, I1, r1, q1⟩ => hc pins s1 σ H1 vs us Q I1 r1 q1) he hpl
theorem zo5 (hc : nE X (.type T) r) (hg : Gl X x) (hm : X.mg x = none) (hv : bootBuiltins x = some (.type T)) (ha : PA X (e :: es) t) (hn : x ≠ "__name__" := by decide) (hdb : (x == ("__debug__" : Str)) = false := by decide)
 (he : starEach (e :: es) X.env = (false, eval e X.env) :: starEach es X.env := by rfl) (hpl : (backTo pos (starEach es X.env)).any (·.1) = false := by rfl) : PE X (.Call (.Name x p) (e :: es) [] pos) (tCB r t) := by
 intro pins s σ H Q I h
 refine wpAny_Call_Name_kw (vE I hg hm hv ?_ hn hdb)
 exact PyProof.Rows.callWith_type1 (thn (ha pos pins s σ H _ I h) fun us s1 ⟨vs, H1, I1, r1, q1⟩ => hc pins s1 σ H1 vs us Q I1 r1 q1) he hpl
end
end L2
namespace HT
open PySem PyProof.Rows
section
open PySem.SeqAt
open PySem.AutoSeq1 (wpAny_loadPart')
open PySem.MeetsSeq PySem.MeetsSeq2 PySem.MeetsSeq3
end
section
variable {prog : Program} {w : World} {A : Around} {E : Value → Shared → Prop} {s : Shared}
noncomputable def sIx (n d : Nat) : Option Int → Nat
 | none => d
 | some v => if v < 0 then (v + (n : Int)).toNat else min v.toNat n
theorem sIx_none (n d : Nat) : sIx n d none = d := rfl
theorem sIx_nat (n d k : Nat) : sIx n d (some (k : Int)) = min k n := by
 show (if (k : Int) < 0 then ((k : Int) + (n : Int)).toNat else min (k : Int).toNat n) = min k n
 rw [if_neg (by omega), Int.toNat_natCast]
theorem sIx_le (n d : Nat) (hd : d ≤ n) (o : Option Int) : sIx n d o ≤ n := by
 cases o with
 | none => exact hd
 | some v =>
   show (if v < 0 then (v + (n : Int)).toNat else min v.toNat n) ≤ n
   by_cases hv : v < 0
   · rw [if_pos hv]; omega
   · rw [if_neg hv]; exact Nat.min_le_right _ _
end
end HT
namespace L2
open PySem PySem.Spec PyProof.Rows
noncomputable abbrev TO := St → Hp → (Option Int → Hp → Prop) → Prop
noncomputable def PO (X : Cx) (e : Option Expr) (t : TO) : Prop :=
 ∀ (pins : List (Addr × Obj)) (s : Shared) (σ : St) (H : Hp) (Q : Option Int → Hp → Prop), Inv X pins σ H s → t σ H Q →
   wpAny (model X.prog X.w) X.A (evalPart e X.env) (fun u s' => ∃ o H', Inv X pins σ H' s' ∧ IsPart u o ∧ Q o H') X.xe s
noncomputable def zve : TO := fun _ H Q => Q none H
noncomputable def zaa9 (t : TE) : TO := fun σ H Q => t σ H fun x H1 => ∃ i, x = .int i ∧ Q (some i) H1
section
variable {X : Cx} {e : Expr} {te : TE} {lo hi : Option Expr} {tl th : TO} {pos p2 : Pos}
theorem zvf : PO X none zve := by
 intro pins s σ H Q I h
 rw [evalPart_none]
 exact wpAny_pure ⟨none, H, I, .none, h⟩
theorem zvg (h : PE X e te) : PO X (some e) (zaa9 te) := by
 intro pins s σ H Q I hw
 rw [evalPart_some]
 refine thn (h pins s σ H _ I hw) fun u s1 ⟨x, H1, I1, r1, q1⟩ => ?_
 obtain ⟨i, rfl, q⟩ := q1
 obtain ⟨t, rfl⟩ := r1
 exact ⟨some i, H1, I1, .int i t, q⟩
noncomputable def SlR (X : Cx) (r : V → Option Int → Option Int → Hp → VK → Prop) : Prop :=
 ∀ (pins : List (Addr × Obj)) (s : Shared) (σ : St) (H : Hp) (x : V) (v vl vu : Value) (lo hi : Option Int) (sl : Addr) (Q : VK), Inv X pins σ H s → dG x v → s.heap.IsSliceOf sl vl vu .none → IsPart vl lo → IsPart vu hi → r x lo hi H Q →
   ∃ T id, typeLookup (.type T) "__getitem__" = pure (some (.builtin id)) ∧ s.TypeIs v T ∧ wpAny (model X.prog X.w) X.A (getItem v (.ref sl)) (EP X pins σ Q) X.xe s
noncomputable def tSl (r : V → Option Int → Option Int → Hp → VK → Prop) (te : TE) (tl th : TO) : TE := fun σ H Q => te σ H fun x H1 => tl σ H1 fun l H2 => th σ H2 fun u H3 => r x l u H3 Q
theorem zh9 {r : V → Option Int → Option Int → Hp → VK → Prop} (hr : SlR X r) (he : PE X e te) (hl : PO X lo tl) (hu : PO X hi th) : PE X (.Subscript e (.Slice lo hi none p2) pos) (tSl r te tl th) := by
 intro pins s σ H Q I h
 refine Subscript_ (thn (he pins s σ H _ I h) fun v s1 ⟨x, H1, I1, r1, q1⟩ => ?_)
 refine wpAny_Slice (thn (hl pins s1 σ H1 _ I1 q1) fun vl s2 ⟨l, H2, I2, pl, q2⟩ => thn (hu pins s2 σ H2 _ I2 q2) fun vu s3 ⟨u, H3, I3, pu, q3⟩ => ?_)
 rw [evalPart_none]
 refine wpAny_pure ?_
 have I4 : Inv X pins σ H3 { s3 with heap := s3.heap.push { cls := .type "slice", data := .fields #[vl, vu, .none] } } := I3.kept (t' := s3.toks) fun b ob q => Heap.get?_push_of_some _ q
 obtain ⟨T, id, hT, ht, hg⟩ := hr pins { s3 with heap := s3.heap.push { cls := .type "slice", data := .fields #[vl, vu, .none] } } σ H3 x v vl vu l u s3.heap.objs.size Q I4 r1 (Heap.IsSliceOf.new ..) pl pu q3
 show wpAny (model X.prog X.w) X.A (subscriptTail e (.Slice lo hi none p2) v (.ref s3.heap.objs.size)) (EP X pins σ Q) X.xe { s3 with heap := s3.heap.push { cls := .type "slice", data := .fields #[vl, vu, .none] } }
 exact tail_any (ops := [.ref s3.heap.objs.size, v]) ht hT hg (by with_unfolding_all rfl)
noncomputable def zdg (xs : List V) (lo hi : Option Int) : List V := (xs.drop (HT.sIx xs.length 0 lo)).take (HT.sIx xs.length xs.length hi - HT.sIx xs.length 0 lo)
theorem zia (xs : List V) (lo hi : Option Int) : (zdg xs lo hi).length ≤ xs.length := by
 unfold zdg
 rw [List.length_take, List.length_drop]
 omega
end
end L2
namespace L2
open PySem PySem.Spec PyProof.Rows
noncomputable def ixN (n : Nat) (i : Int) : Option Nat := if 0 ≤ i then (if i < n then some i.toNat else none) else if -(n : Int) ≤ i then some (i + n).toNat else none
noncomputable def atI {α : Type} (xs : List α) (i : Int) : Option α := (ixN xs.length i).bind fun j => xs[j]?
theorem zvi {n : Nat} {i : Int} {j : Nat} (h : ixN n i = some j) : seqIndex? i n = some j ∧ j < n ∧ -(n : Int) ≤ i ∧ i < n := by
 unfold ixN at h
 by_cases h0 : 0 ≤ i
 · rw [if_pos h0] at h
   by_cases h1 : i < n
   · rw [if_pos h1] at h
     have e : i.toNat = j := Option.some.inj h
     exact ⟨by rw [seqIndex_of h0 h1, e], by omega, by omega, h1⟩
   · rw [if_neg h1] at h; cases h
 · rw [if_neg h0] at h
   by_cases h1 : -(n : Int) ≤ i
   · rw [if_pos h1] at h
     have e : (i + n).toNat = j := Option.some.inj h
     exact ⟨by rw [seqIndex_neg (by omega) h1, e], by omega, h1, by omega⟩
   · rw [if_neg h1] at h; cases h
theorem zfv {α : Type} {xs : List α} {i : Int} {v : α} (h : atI xs i = some v) : ∃ j, seqIndex? i xs.length = some j ∧ xs[j]? = some v ∧ j < xs.length ∧ -(xs.length : Int) ≤ i ∧ i < xs.length := by
 unfold atI at h
 cases e : ixN xs.length i with
 | none => rw [e] at h; cases h
 | some j =>
   rw [e] at h
   obtain ⟨h1, h2, h3, h4⟩ := zvi e
   exact ⟨j, h1, h, h2, h3, h4⟩
noncomputable def znc (b : Expr) : Prop := ∀ o i, subscripted b false o i = operate [o, i] (getItem o i)
noncomputable def IxR (X : Cx) (r : R2) : Prop :=
 ∀ (value slice : Expr) (pins : List (Addr × Obj)) (s : Shared) (σ : St) (H : Hp) (x y : V) (v u : Value) (Q : VK), Inv X pins σ H s → dG x v → dG y u → r x y H Q →
   subscripted slice false v u = operate [v, u] (getItem v u) → wpAny (model X.prog X.w) X.A (subscriptTail value slice v u) (EP X pins σ Q) X.xe s
noncomputable def MtR (X : Cx) (id : String) (r : V → List V → Hp → VK → Prop) : Prop :=
 ∀ (pins : List (Addr × Obj)) (s : Shared) (σ : St) (H : Hp) (x : V) (xs : List V) (v : Value) (us : List Value) (Q : VK), Inv X pins σ H s → dG x v → bU xs us → r x xs H Q →
   wpAny (model X.prog X.w) X.A (call (.builtin id) (v :: us)) (EP X pins σ Q) X.xe s
section
variable {X : Cx} {a b : Expr} {ta tb : TE} {pos : Pos}
theorem zaba {r : R2} (hr : IxR X r) (ha : PE X a ta) (hb : PE X b tb) (hs : znc b) : PE X (.Subscript a b pos) (tOp r ta tb) := by
 intro pins s σ H Q I h
 exact Subscript_ (zyj ha hb I h fun v u s2 x y H2 I2 rx ry q => hr a b pins s2 σ H2 x y v u Q I2 rx ry q (hs _ _))
noncomputable def rIxL (K : W.Frag) : R2 := fun x y H Q => ∃ p xs i v, x = .ref p ∧ y = .int i ∧ uR K H p xs ∧ atI xs i = some v ∧ Q v H
noncomputable def rIxT (K : W.Frag) : R2 := fun x y H Q => ∃ p xs i v, x = .ref p ∧ y = .int i ∧ SqT K H p xs ∧ atI xs i = some v ∧ Q v H
noncomputable def rIxS : R2 := fun x y H Q => ∃ z i c, x = .str z ∧ y = .int i ∧ z.length ≤ sizeLine ∧ atI z.cps.toList i = some c ∧ Q (.str ⟨#[c]⟩) H
theorem zvj : IxR X (rIxL X.K) := by
 intro value slice pins s σ H x y v u Q I rx ry h hs
 obtain ⟨p, xs, i, z, rfl, rfl, hq, he, q⟩ := h
 cases rx
 obtain ⟨t, rfl⟩ := ry
 obtain ⟨its, r, pl, hz⟩ := I.list hq
 obtain ⟨j, h1, h2, h3, h4, h5⟩ := zfv he
 obtain ⟨w, ew, rw'⟩ := r.get h2
 have hl := r.length
 have hn := yH
 have fin : EP X pins σ Q w s := ⟨z, H, I, rw', q⟩
 by_cases h0 : 0 ≤ i
 · have hj : i.toNat = j := by
    rw [seqIndex_of h0 h5] at h1
    exact Option.some.inj h1
   exact item_listR pl.isList h0 (by omega) (by rw [hj]; simpa using ew) fin hs
 · have hj : (i + (its.toArray.size : Int)).toNat = j := by
    rw [seqIndex_neg (by omega) h4] at h1
    rw [List.size_toArray, ← hl]
    exact Option.some.inj h1
   exact subscriptTail_builtinR (x := w) pl.isList.typeIs slot_list_getitem.lookup
    (wpAny_getItem_list_neg (Q := fun r s' => r = w ∧ EP X pins σ Q r s') pl.isList (by omega) (by rw [List.size_toArray] <;> omega) (by omega) (by rw [hj]; simpa using ew) ⟨rfl, fin⟩) hs
theorem zyu : IxR X (rIxT X.K) := by
 intro value slice pins s σ H x y v u Q I rx ry h hs
 obtain ⟨p, xs, i, z, rfl, rfl, hq, he, q⟩ := h
 cases rx
 obtain ⟨t, rfl⟩ := ry
 obtain ⟨its, r, pl, hz⟩ := I.tuple hq
 obtain ⟨j, h1, h2, h3, h4, h5⟩ := zfv he
 obtain ⟨w, ew, rw'⟩ := r.get h2
 have hl := r.length
 have hn := yH
 have fin : EP X pins σ Q w s := ⟨z, H, I, rw', q⟩
 exact subscriptTail_builtinR (x := w) pl.typeIs slot_tuple_getitem.lookup
  (getItem_tuple (j := j) (Q := fun r s' => r = w ∧ EP X pins σ Q r s') pl (by omega) (by omega) (by rw [List.size_toArray, ← hl]; exact h1) (by simpa using ew) ⟨rfl, fin⟩) hs
theorem zyv : IxR X rIxS := by
 intro value slice pins s σ H x y v u Q I rx ry h hs
 obtain ⟨z, i, c, rfl, rfl, hz, he, q⟩ := h
 obtain ⟨t, rfl⟩ := rx
 obtain ⟨t', rfl⟩ := ry
 obtain ⟨j, h1, h2, h3, h4, h5⟩ := zfv he
 have hl : z.cps.toList.length = z.length := by simp [Str.length]
 rw [hl] at h1 h4 h5
 have hn := yH
 exact tail_any (typeIs_str s z t) slot_str_getitem.lookup (getItem_str (c := c) (by
  have e1 : decide (i < -(2 ^ 63 : Int)) = false := decide_eq_false (by omega)
  have e2 : decide (i ≥ 2 ^ 63) = false := decide_eq_false (by omega)
  rw [e1, e2, Bool.or_false]) (by rw [h1]; simpa using h2) ⟨.str ⟨#[c]⟩, H, I.tok _, ⟨_, rfl⟩, q⟩) hs
theorem zfw (lo hi : Option Int) (n : Nat) : (sliceBounds lo hi none n).1 = ((HT.sIx n 0 lo : Nat) : Int) ∧ (sliceBounds lo hi none n).2.1 = ((HT.sIx n n hi : Nat) : Int) ∧ (sliceBounds lo hi none n).2.2 = 1 := by
 refine ⟨?_, ?_, rfl⟩
 · cases lo with
   | none => simp [sliceBounds, HT.sIx]
   | some i =>
     simp only [sliceBounds, HT.sIx, Option.getD_none, show (1 : Int) > 0 by decide, if_true]
     by_cases h : i < 0
     · simp only [h, if_true] <;> omega
     · simp only [h, if_false] <;> omega
 · cases hi with
   | none => simp [sliceBounds, HT.sIx]
   | some i =>
     simp only [sliceBounds, HT.sIx, Option.getD_none, show (1 : Int) > 0 by decide, if_true]
     by_cases h : i < 0
     · simp only [h, if_true] <;> omega
     · simp only [h, if_false] <;> omega
theorem zdh (its : List Value) (lo hi : Option Int) : slicePick its.toArray lo hi none = ((its.drop (HT.sIx its.length 0 lo)).take (HT.sIx its.length its.length hi - HT.sIx its.length 0 lo)).toArray := by
 obtain ⟨h1, h2, h3⟩ := zfw lo hi its.toArray.size
 unfold slicePick
 rw [h1, h2, h3]
 simp only [sliceRange_one, pick_run, List.size_toArray] <;> rfl
noncomputable def rSlL (K : W.Frag) : V → Option Int → Option Int → Hp → VK → Prop := fun x lo hi H Q => ∃ a xs, x = .ref a ∧ uR K H a xs ∧ ∀ p, H p = none → Q (.ref p) (upd H p (.lst (zdg xs lo hi)))
theorem zvk : SlR X (rSlL X.K) := by
 intro pins s σ H x v vl vu lo hi sl Q I rx hs pl pu h
 obtain ⟨a, xs, rfl, hx, q⟩ := h
 cases rx
 obtain ⟨its, r, ht, hz⟩ := I.list hx
 have hlen := r.length
 refine ⟨"list", _, slot_list_getitem.lookup, ht.isList.typeIs, ?_⟩
 refine wpAny_getItem_list_slice ht.isList hs pl pu .none (by simp) ?_ (by rw [List.size_toArray] <;> omega)
 rw [zdh, ← hlen]
 refine ⟨.ref s.heap.objs.size, _, I.laid (t' := s.toks) (o := .lst (zdg xs lo hi)) (fun b ob q => Heap.get?_push_of_some _ q) (Nat.le_refl _) ?_, rfl, q _ (I.hok.fresh (Nat.le_refl _))⟩
 exact ⟨Nat.le_trans (zia xs lo hi) hz, _, 0, (r.drop (HT.sIx xs.length 0 lo)).take (HT.sIx xs.length xs.length hi - HT.sIx xs.length 0 lo), Heap.get?_push_size _ rfl⟩
theorem wU : nE X (.builtin "len") (fun xs H Q => ∃ p ys, xs = [.ref p] ∧ (uR X.K H p ys ∨ SqT X.K H p ys) ∧ Q (.int ys.length) H) := by
 intro pins s σ H xs us Q I r h
 obtain ⟨p, ys, rfl, hq, q⟩ := h
 obtain ⟨u, rfl, rx⟩ := zqy r
 cases rx
 have hn := yH
 rcases hq with hq | hq
 · obtain ⟨its, r', pl, hz⟩ := I.list hq
   have hlen := r'.length
   exact Calls.call_len_list pl.isList (by simp only [List.size_toArray] <;> omega) ⟨.int ys.length, H, I.tok _, ⟨s.toks + 1, by rw [List.size_toArray, hlen]⟩, q⟩
 · obtain ⟨its, r', pl, hz⟩ := I.tuple hq
   have hlen := r'.length
   exact len_tuple pl (by simp only [List.size_toArray] <;> omega) ⟨.int ys.length, H, I.tok _, ⟨s.toks + 1, by rw [List.size_toArray, hlen]⟩, q⟩
theorem zfx : nE X (.builtin "len") (fun xs H Q => ∃ z, xs = [.str z] ∧ z.length ≤ sizeLine ∧ Q (.int z.length) H) := by
 intro pins s σ H xs us Q I r h
 obtain ⟨z, rfl, hz, q⟩ := h
 obtain ⟨u, rfl, t, rfl⟩ := zqy r
 have hn := yH
 exact len_str (by omega) ⟨.int z.length, H, I.tok _, ⟨_, rfl⟩, q⟩
theorem zfy : nE X (.type "list") (fun xs H Q => ∃ p ys, xs = [.ref p] ∧ (uR X.K H p ys ∨ SqT X.K H p ys) ∧ ∀ l, H l = none → Q (.ref l) (upd H l (.lst ys))) := by
 intro pins s σ H xs us Q I r h
 obtain ⟨p, ys, rfl, hq, q⟩ := h
 obtain ⟨u, rfl, rx⟩ := zqy r
 cases rx
 have fin : ∀ (its : List Value), bU ys its → ys.length ≤ sizeLine → ∀ (h' : Heap) (c' : Nat), (∀ b o', s.heap.get? b = some o' → h'.get? b = some o') →
  h'.get? s.heap.objs.size = some { cls := .type "list", dict := none, data := .seq its.toArray c', slots := #[] } → EP X pins σ Q (.ref s.heap.objs.size) { s with heap := h' } := fun its r' hz h' c' kp e =>
  ⟨.ref s.heap.objs.size, _, I.laid (t' := s.toks) kp (Nat.le_refl _) (show gI X.prog X.w _ h' _ (.lst ys) from ⟨hz, its, c', r', e⟩), rfl, q _ (I.hok.fresh (Nat.le_refl _))⟩
 rcases hq with hq | hq
 · obtain ⟨its, r', pl, hz⟩ := I.list hq
   have hlen := r'.length
   obtain ⟨o, ho, hc, n, hd⟩ := pl.isList
   exact call_list_seq p (.inl rfl) ho hc hd (fun h' c' kp e => fin its r' hz h' c' kp e) (by simp only [List.size_toArray] <;> omega)
 · obtain ⟨its, r', pl, hz⟩ := I.tuple hq
   have hlen := r'.length
   obtain ⟨o, ho, hc, n, hd⟩ := pl
   exact call_list_seq p (.inr rfl) ho hc hd (fun h' c' kp e => fin its r' hz h' c' kp e) (by simp only [List.size_toArray] <;> omega)
noncomputable def tyV (K : W.Frag) (T : String) (x : V) (H : Hp) : Prop := match x with
 | .str _ => T = "str"
 | .int _ => T = "int"
 | .ref p => (T = "list" ∧ ∃ xs, uR K H p xs) ∨ (T = "tuple" ∧ ∃ o, K.lookup p = some o ∧ o.cls = .type "tuple" ∧ o.dict = none) ∨
  (T = "dict" ∧ ((∃ kvs, H p = some (.dK kvs)) ∨ ∃ kvs, H p = some (.dT kvs))) ∨ (T = "set" ∧ ∃ S n, H p = some (.set S n))
 | _ => False
theorem zq8 {pins : List (Addr × Obj)} {σ : St} {H : Hp} {s : Shared} {T : String} {x : V} {v : Value} (I : Inv X pins σ H s) (r : dG x v) (ty : tyV X.K T x H) :
 s.TypeIs v T ∧ ∀ a, v = .ref a → ∃ ob, s.heap.get? a = some ob ∧ ob.dict = none := by
 cases x with
 | str z =>
   obtain ⟨t, rfl⟩ := r
   cases (show T = "str" from ty)
   exact ⟨typeIs_str s z t, fun _ e => nomatch e⟩
 | int i =>
   obtain ⟨t, rfl⟩ := r
   cases (show T = "int" from ty)
   exact ⟨typeIs_int s i t, fun _ e => nomatch e⟩
 | ref p =>
   cases r
   rcases ty with ⟨rfl, xs, hq⟩ | ⟨rfl, o, hk, hc, hd⟩ | ⟨rfl, hk⟩ | ⟨rfl, S, n, hk⟩
   · obtain ⟨its, _, pl, _⟩ := I.list hq
     refine ⟨pl.isList.typeIs, fun a e => ?_⟩
     cases e
     obtain ⟨o, n, e, c, hd, _⟩ := pl
     exact ⟨o, e, hd⟩
   · refine ⟨⟨o, I.kIn p o hk, hc⟩, fun a e => ?_⟩
     cases e
     exact ⟨o, I.kIn _ o hk, hd⟩
   · have z : ∃ o, s.heap.get? p = some o ∧ o.ExactDict := by
      rcases hk with ⟨kvs, hk⟩ | ⟨kvs, hk⟩
      · obtain ⟨_, _, _, _, o, _, _, e, ex, _⟩ := I.hok p _ hk
        exact ⟨o, e, ex⟩
      · obtain ⟨_, _, _, _, o, _, _, e, ex, _⟩ := I.hok p _ hk
        exact ⟨o, e, ex⟩
     obtain ⟨o, e, ex⟩ := z
     refine ⟨⟨o, e, ex.1⟩, fun a e2 => ?_⟩
     cases e2
     exact ⟨o, e, ex.2.1⟩
   · obtain ⟨o, _, _, _, e, ex, _⟩ := I.hok p _ hk
     refine ⟨⟨o, e, ex.1⟩, fun a e2 => ?_⟩
     cases e2
     exact ⟨o, e, ex.2.1⟩
 | _ => exact False.elim ty
noncomputable def tBM0 (K : W.Frag) (T : String) (r : V → List V → Hp → VK → Prop) (to : TE) : TE := fun σ H Q => to σ H fun x H1 => tyV K T x H1 ∧ r x [] H1 Q
noncomputable def tBM (K : W.Frag) (T : String) (r : V → List V → Hp → VK → Prop) (to : TE) (t : TA) : TE := fun σ H Q => to σ H fun x H1 => tyV K T x H1 ∧ t σ H1 fun xs H2 => r x xs H2 Q
variable {o e : Expr} {es : List Expr} {to : TE} {t : TA} {name : Str} {apos cpos : Pos} {T id : String} {r : V → List V → Hp → VK → Prop}
theorem zyw (pa : PlainAttrs T) (slot : Slot T name id) (hty : typeOf (.builtin id) = pure (.type "method_descriptor")) (hm : MtR X id r) (ho : PE X o to)
 (hbase : attributeBase o name X.env (eval o X.env) = eval o X.env := by rfl) (hline : (apos.endLine == cpos.line) = true := by rfl) : PE X (.Call (.Attribute o name apos) [] [] cpos) (tBM0 X.K T r to) := by
 intro pins s σ H Q I h
 refine wpAny_Call_method0_late hbase hline (thn (ho pins s σ H _ I h) fun v s1 ⟨x, H1, I1, r1, ty, q1⟩ => ?_)
 obtain ⟨h1, h2⟩ := zq8 I1 r1 ty
 exact ⟨T, id, pa, slot, hty, h1, h2, Calls.callWith_builtin rfl (PySem.evalArgs_none (hm pins s1 σ H1 x [] v [] Q I1 r1 .nil q1))⟩
theorem zq9 (pa : PlainAttrs T) (slot : Slot T name id) (hty : typeOf (.builtin id) = pure (.type "method_descriptor")) (hm : MtR X id r) (ho : PE X o to) (ha : PA X (e :: es) t)
 (hbase : attributeBase o name X.env (eval o X.env) = eval o X.env := by rfl)
 (hfew : ((backTo cpos (starEach (e :: es) X.env)).all (fun x => !x.1) && (backToKw cpos (keywordEach [] X.env)).all (fun x => x.1.isSome)
   && decide ((e :: es).length + ([] : List Keyword).length + (if ([] : List Keyword).isEmpty then 0 else 1) < 30)) = true := by rfl)
 (hline : (apos.endLine == cpos.line) = true := by rfl) (hs : starEach (e :: es) X.env = (false, eval e X.env) :: starEach es X.env := by rfl) (hplain : (backTo cpos (starEach es X.env)).any (·.1) = false := by rfl) :
 PE X (.Call (.Attribute o name apos) (e :: es) [] cpos) (tBM X.K T r to t) := by
 intro pins s σ H Q I h
 refine wpAny_Call_method_late hbase hfew hline rfl (thn (ho pins s σ H _ I h) fun v s1 ⟨x, H1, I1, r1, ty, q1⟩ => ?_)
 obtain ⟨h1, h2⟩ := zq8 I1 r1 ty
 refine ⟨T, id, pa, slot, hty, h1, h2, ?_⟩
 have hA := ha cpos pins s1 σ H1 _ I1 q1
 rw [hs] at hA ⊢
 refine Calls.callWith_builtin (by show (false || (backTo cpos (starEach es X.env)).any (·.1)) = false; rw [hplain] <;> rfl) (Calls.evalArgs_plain ?_)
 exact thn hA fun us s2 ⟨vs, H2, I2, r2, q2⟩ => hm pins s2 σ H2 x vs v us Q I2 r1 r2 q2
end
end L2
namespace L2
open PySem PySem.Spec PyProof.Rows
noncomputable def MtM (X : Cx) (id : String) (r : V → List V → Hp → VK → Prop) : Prop :=
 ∀ (pins : List (Addr × Obj)) (s : Shared) (σ : St) (H : Hp) (x : V) (xs : List V) (v : Value) (us : List Value) (Q : VK), Inv X pins σ H s → dG x v → bU xs us → r x xs H Q →
   wpAny (model X.prog X.w) X.A (call (.builtin id) (v :: us)) (EP X pins σ Q) X.xe s
theorem bU.one : ∀ {x : V} {us : List Value}, bU [x] us → ∃ u, us = [u] ∧ dG x u
 | _, _, .cons r .nil => ⟨_, rfl, r⟩
theorem bU.two : ∀ {x y : V} {us : List Value}, bU [x, y] us → ∃ u v, us = [u, v] ∧ dG x u ∧ dG y v
 | _, _, _, .cons r (.cons q .nil) => ⟨_, _, rfl, r, q⟩
theorem bU.zero : ∀ {us : List Value}, bU [] us → us = []
 | _, .nil => rfl
theorem bU.dropLast {xs : List V} {us : List Value} (h : bU xs us) : bU xs.dropLast us.dropLast := by
 induction h with
 | nil => exact .nil
 | cons r t ih =>
   cases t with
   | nil => exact .nil
   | cons q t' => exact .cons r ih
theorem zln {α : Type} (l : List α) : l.eraseIdx (l.length - 1) = l.dropLast := by
 induction l with
 | nil => rfl
 | cons a r ih =>
   cases r with
   | nil => rfl
   | cons b r =>
     have e : (a :: b :: r).length - 1 = ((b :: r).length - 1) + 1 := by
      have h1 : (a :: b :: r).length = r.length + 2 := rfl
      have h2 : (b :: r).length = r.length + 1 := rfl
      omega
     rw [e, List.eraseIdx_cons_succ, ih]
     all_goals rfl
section
variable {X : Cx} {pins : List (Addr × Obj)} {σ : St} {H : Hp} {s : Shared} {l b : Addr} {xs ys zs : List V}
theorem Inv.lset {its its' : List Value} {n : Nat} {f : Array Value → Array Value} {t' : Nat} (I : Inv X pins σ H s) (hH : H l = some (.lst xs))
 (e : s.heap.get? l = some { cls := .type "list", data := .seq its.toArray n }) (hf : f its.toArray = its'.toArray) (hv : bU ys its') (hz : ys.length ≤ sizeLine) :
 Inv X pins σ (upd H l (.lst ys)) { s with heap := s.heap.update l (Obj.mapSeq f), toks := t' } := by
 have q := PySem.IsL.update e f
 rw [hf] at q
 refine I.write (x := l) (e := l) (by rw [hH]; exact trivial) (.inl rfl) (fun b' u hb hu => (Heap.get?_update_other s.heap (Obj.mapSeq f) (Ne.symm hb)).trans hu) ⟨_, q⟩ ?_
 exact ⟨hz, its', _, hv, q⟩
theorem Inv.lnew {its : List Value} {t' : Nat} (I : Inv X pins σ H s) (hv : bU ys its) (hz : ys.length ≤ sizeLine) :
 Inv X pins σ (upd H s.heap.objs.size (.lst ys)) { s with heap := s.heap.push { cls := .type "list", data := .seq its.toArray }, toks := t' } :=
 I.laid (fun _ _ q => Heap.get?_push_of_some _ q) (Nat.le_refl _) ⟨hz, its, 0, hv, Heap.get?_push_size _ rfl⟩
theorem Inv.fresh (I : Inv X pins σ H s) : H s.heap.objs.size = none := I.hok.fresh (Nat.le_refl _)
theorem Inv.lstM (I : Inv X pins σ H s) (hH : H l = some (.lst xs)) : xs.length ≤ sizeLine ∧ ∃ (its : List Value) (n : Nat), bU xs its ∧ xs.length = its.length ∧ s.heap.get? l = some { cls := .type "list", data := .seq its.toArray n } := by
 obtain ⟨z, its, n, r, e⟩ := I.hok l _ hH
 exact ⟨z, its, n, r, r.length, e⟩
end
section
variable {X : Cx}
noncomputable def zvl : V → List V → Hp → VK → Prop := fun x vs H Q => ∃ l xs y, x = .ref l ∧ vs = [y] ∧ H l = some (.lst xs) ∧ xs.length < sizeLine ∧ Q .non (upd H l (.lst (xs ++ [y])))
theorem zo6 : MtM X "list.append" zvl := by
 intro pins s σ H x vs v us Q I rx rv h
 obtain ⟨l, xs, y, rfl, rfl, hH, hz, q⟩ := h
 cases rx
 obtain ⟨u, rfl, ru⟩ := rv.one
 obtain ⟨z, its, n, r, hl, e⟩ := I.lstM hH
 refine call_meets F.slot_list_append ⟨_, e, rfl⟩ F.entry_list_append (F.args_list_append_2 _ _) (PySem.list_append l its.toArray n u (by rw [List.size_toArray]; omega)) ⟨e, ?_⟩
 refine ⟨.non, _, I.lset (its' := its ++ [u]) hH e (by simp) (r.append (.cons ru .nil)) ?_, rfl, q⟩
 rw [List.length_append, List.length_singleton]
 omega
noncomputable def rPop : V → List V → Hp → VK → Prop := fun x vs H Q => ∃ l xs y, x = .ref l ∧ vs = [] ∧ H l = some (.lst xs) ∧ xs[xs.length - 1]? = some y ∧ Q y (upd H l (.lst xs.dropLast))
theorem zyx : MtM X "list.pop" rPop := by
 intro pins s σ H x vs v us Q I rx rv h
 obtain ⟨l, xs, y, rfl, rfl, hH, hy, q⟩ := h
 cases rx
 have hus := rv.zero
 subst hus
 obtain ⟨z, its, n, r, hl, e⟩ := I.lstM hH
 obtain ⟨u, hu, ru⟩ := r.get hy
 have hy' : its.toArray[its.toArray.size - 1]? = some u := by
  show its.toArray[its.length - 1]? = some u
  rw [← Array.getElem?_toList, ← hl]
  exact hu
 refine call_meets F.slot_list_pop ⟨_, e, rfl⟩ F.entry_list_pop (F.args_list_pop_1 _) (MeetsSeq.list_pop_last l its.toArray n u hy' (by rw [List.size_toArray]; omega)) ⟨e, ?_⟩
 refine ⟨y, _, I.lset (its' := its.dropLast) hH e ?_ r.dropLast ?_, ru, q⟩
 · show its.toArray.eraseIdxIfInBounds (its.toArray.size - 1) = its.dropLast.toArray
   rw [List.size_toArray, List.eraseIdxIfInBounds_toArray, zln]
 · rw [List.length_dropLast]
   omega
end
section
variable {prog : Program} {w : World} {A : Around} {E : Value → Shared → Prop} {s : Shared}
end
section
variable {X : Cx}
end
end L2
namespace Att
open PySem PySem.W PySem.Calls PyProof.Rows
theorem zay {P : Params} {h : Heap} : ∀ (ns : List Int) (vs : List Value), WellAll P h vs (ns.map WData.int) → IntsAre vs ns := by
 intro ns
 induction ns with
 | nil =>
   intro vs w
   rw [List.map_nil] at w
   cases w
   exact .nil
 | cons n ns ih =>
   intro vs w
   rw [List.map_cons] at w
   cases w with
   | cons a b =>
     cases a
     exact .cons _ _ (ih _ b)
theorem zo7 {l : OpenLaw} {n : Nat} (hn : l.most = some n) {P : Params} {h : Heap} {args : List WData} {vals : List Value}
 (hpre : l.row.toRowW.claim.pre args = true) (hwl : WellAll P h vals args) :
 ∃ a vs ns, vals = [Value.ref a] ∧ args = [WData.list (ns.map WData.int)] ∧ h.get? a = some { cls := .type "list", data := .seq vs.toArray } ∧ IntsAre vs ns ∧ ns.length ≤ n := by
 have hsh : WShape.hasAll [] args [.list .int] = true := (pre_splitW hpre).1
 have hc : l.pre.holds [] { args := args } = true := (pre_splitW hpre).2
 obtain ⟨d, r, rfl, h1, h2⟩ := hasAllW_cons hsh
 obtain rfl := hasAllW_nil h2
 obtain ⟨xs, rfl, h3⟩ := hasW_list h1
 obtain ⟨ns, rfl⟩ := items_int h3
 have hlen : ns.length ≤ n := by
  unfold OpenLaw.pre at hc
  have h4 : (WTm.not (.lt (.lit (.int (n : Int))) (.len (.arg 0)))).holds [] { args := [.list (ns.map .int)] } = true := by
   have h4 := (holds_andW hc).1
   rw [hn] at h4
   exact h4
  have h5 := condW_of h4 (w_not (w_lt w_lit (w_len_list (w_arg rfl))))
  rw [List.length_map] at h5
  refine Nat.le_of_not_lt fun q => ?_
  have q' : (n : Int) < ((ns.length : Nat) : Int) := by omega
  first
   | (rw [decide_eq_true q'] at h5; exact absurd h5 (by decide))
   | (simp at h5; omega)
 cases hwl with
 | cons w1 w2 =>
   cases w2
   cases w1 with
   | list ho hall => exact ⟨_, _, ns, rfl, rfl, ho, zay ns _ hall, hlen⟩
theorem zo8 (l : OpenLaw) (args : List WData) : l.row.toRowW.claim.post args (.bool true) args = true :=
 postW_of (r := l.row.toRowW) (X := (true == true))
  (show WShape.has [] (.bool true) .bool = true by first | rfl | decide | simp [WShape.has, WShape.arms, WShape.armsAll])
  (show (WTm.eq .res (.lit (.bool true))).value [] { args := args, res := some (.bool true), after := args } = some (.bool (true == true)) from w_eq_bool (w_res rfl) w_lit) rfl
theorem attach_call {l : OpenLaw} {n : Nat} {q : Program} {loose : List Str} {XP : (Str → Option Value) → Heap → Prop} {YP : World → Heap → Prop} {d : DefRec}
 (hn : l.most = some n) (hdf : d.params.defaults = [])
 (call : ∀ (w : World) (s₀ s₁ : Shared) (mg mb : Str → Option Value) (fa : Addr) (o : Obj) (pm cd doc : Value) (a : Addr) (vs : List Value) (ns : List Int),
   Ground q loose [] XP w s₀ mg mb s₁.heap → YP w s₁.heap →
   s₁.heap.get? fa = some o → o.data = .func (docDef d.name d.params d.body d.scope pm cd doc) → s₁.heap.CodeRec cd d.name → mg d.name = some (.ref fa) →
   s₁.heap.get? a = some { cls := .type "list", data := .seq vs.toArray } → IntsAre vs ns → ns.length ≤ n → s₁.gens = #[] →
   codeAny (model l.prog w) callerA (.call (.ref fa) ⟨[.ref a], []⟩) (fun r s' => r = .ok (.ret (.bool true)) ∧ OldK s₁.heap s'.heap ∧ s'.os = s₁.os ∧ AllBare s'.gens) s₁) :
 WalkO q loose XP YP l.row.toRowW d [] (fun f vs => PySem.call f vs) := by
 intro w s₀ s₁ mg mb G Y fa o pm cd doc dV kV ho hd hcd hD hmg hg args vals as hpre hlay hrd hwl hlo
 obtain rfl : dV = .none := Dflts.none hD hdf
 obtain rfl : kV = .none := Dflts.noKw hD
 obtain ⟨a, vs, ns, rfl, rfl, hobj, hints, hlen⟩ := zo7 hn hpre hwl
 refine enter_call (codeAny_mono (call w s₀ s₁ mg mb fa o pm cd doc a vs ns G Y ho (fd_plain hd) hcd hmg hobj hints hlen hg) fun r s' hq => ?_)
 obtain ⟨rfl, h2, h3, h4⟩ := hq
 exact ⟨.inl ⟨.bool true, .bool true, [], rfl, fun _ => rfl, .bool true, zo8 l _, fun _ => ⟨List.Pairwise.nil, fun _ hm => (nomatch hm)⟩⟩, h2, h3, h4⟩
section
variable {prog : Program} {w : World} {A : Around} {E : Value → Shared → Prop} {s : Shared} {K : Frag}
end
end Att
namespace L2
open PySem PySem.Spec PyProof.Rows
theorem zep : ∀ {vs : List Value} {ns : List Int}, IntsAre vs ns → bU (ns.map V.int) vs
 | _, _, .nil => .nil
 | _, _, .cons n t h => .cons ⟨t, rfl⟩ (zep h)
noncomputable def zvm (H : Hp) : Prop := ∀ b, H b = none ∨ ∃ o xs, H b = some (.frz o (.lst xs))
theorem zra {P : Program} {w : World} {K : W.Frag} {mg mb : Str → Option Value} {CX : CXT} {k : Nat} {fa a : Addr} {fd : FuncData} {x : Str} {sp : Sp} {s₁ : Shared} {vs : List Value} {ns : List Int}
 (KX : K.In s₁.heap) (hns : s₁.heap.Ns mainGlobals mg) (hb : s₁.heap.Ns builtinsNs mb) (hbb : ∀ x : Str, x ≠ "__name__" → mb x = bootBuiltins x) (hlim : s₁.heap.NoLimit) (hg : s₁.gens = #[])
 (ha : s₁.heap.get? a = some { cls := .type "list", data := .seq vs.toArray }) (hi : IntsAre vs ns) (hl : ns.length ≤ sizeLine) (hr : Room k callerA)
 (F : ∀ base : Heap, K.In base → base.Ns mainGlobals mg → FnOk P w K mg base CX k fa fd [x] sp) (hbind : ∀ (s : Shared) (u : Value), BindsTo s fd ⟨[u], []⟩ [(x, u)])
 (hsp : ∀ H : Hp, zvm H → uR K H a (ns.map V.int) → sp [.ref a] H (fun v _ => v = .bl true) fun _ _ _ => False)
 (hCX : ∀ H e s', CX [] H s₁ (fun _ _ _ => False) e s' → False) :
 codeAny (model P w) callerA (.call (.ref fa) ⟨[.ref a], []⟩) (fun r s' => r = .ok (.ret (.bool true)) ∧ OldK s₁.heap s'.heap ∧ s'.os = s₁.os ∧ AllBare s'.gens) s₁ := by
 have rv := zep hi
 have lenV := hi.length
 have core : ∀ H : Hp, zvm H → uR K H a (ns.map V.int) → uQ P w H s₁.heap → (∀ b, H b ≠ none → b = a) → (H a ≠ none → K.lookup a = none) →
  codeAny (model P w) callerA (.call (.ref fa) ⟨[.ref a], []⟩) (fun r s' => r = .ok (.ret (.bool true)) ∧ OldK s₁.heap s'.heap ∧ s'.os = s₁.os ∧ AllBare s'.gens) s₁ := by
  intro H hO hS hok hA hK
  have base_of : ∀ {b : Addr} {o : Obj}, s₁.heap.get? b = some o → H b = none → (zfr s₁.heap H).get? b = some o := fun e n => zql e n
  have noA : ∀ {b : Addr} {o : Obj} {es : Array DictEntry} {ep : Nat}, s₁.heap.get? b = some o → o.data = .dict es ep → H b = none := fun {b o es ep} e d => by
   cases q : H b with
   | none => rfl
   | some u =>
     have e' : b = a := hA b (by rw [q]; simp)
     subst e'
     rw [ha] at e; cases e
     have d' : Data.seq vs.toArray _ = Data.dict es ep := d
     cases d'
  have nsK : ∀ {b : Addr} {m : Str → Option Value}, s₁.heap.Ns b m → (zfr s₁.heap H).Ns b m := fun {b m} ⟨o, es, ep, e, d, r⟩ => ⟨o, es, ep, base_of e (noA e d), d, r⟩
  have hKb : K.In (zfr s₁.heap H) := fun b o e => base_of (KX b o e) (by
   cases q : H b with
   | none => rfl
   | some u =>
     have e' : b = a := hA b (by rw [q]; simp)
     subst e'
     rw [hK (by rw [q]; simp)] at e; cases e)
  have hM : Mod K mg (zfr s₁.heap H) := ⟨hKb, nsK hns, ⟨mb, nsK hb, hbb⟩, let ⟨mc, h1, h2⟩ := hlim; ⟨mc, nsK h1, h2⟩⟩
  have e0 : Env0 P w K mg (zfr s₁.heap H) callerA [] s₁ H := ⟨rfl, hM, fun b o e => zuv e, Nat.le_of_eq (zou _ _), trivial, fun b hb => absurd (show b ∈ ([] : List Addr) from hb) (by simp), hok, .of_eq hg⟩
  refine codeAny_mono ((F _ hKb (nsK hns)).run callerA [] s₁ H ⟨[.ref a], []⟩ [.ref a] [.ref a] _ _ hr e0 (hbind s₁ (.ref a)) (.cons rfl .nil) (hsp H hO hS)) fun r s' h => ?_
  cases r with
  | error e => exact (hCX H e s' h).elim
  | ok fl =>
    cases fl with
    | next => exact False.elim h
    | brk => exact False.elim h
    | cont => exact False.elim h
    | ret u =>
      obtain ⟨v, H', os, bare, un, hok', r', q⟩ := h
      have q' : v = .bl true := q
      subst q'
      obtain rfl : u = Value.bool true := r'
      refine ⟨rfl, OldK.of_keep fun b o e => ?_, os, bare⟩
      cases q : H b with
      | none => exact un.keep b o e q (by intro z; exact absurd (show b ∈ ([] : List Addr) from z) (by simp)) (by simp)
      | some u =>
        rcases hO b with z | ⟨ob, xs, z⟩
        · rw [q] at z; cases z
        · have z2 := un.frzs b ob _ z
          obtain ⟨e1, _⟩ := hok b _ z
          obtain ⟨e2, _⟩ := hok' b _ z2
          rw [e] at e1; cases e1
          exact e2
 cases hk : K.lookup a with
 | some o =>
   have e := KX a o hk
   rw [ha] at e
   cases e
   refine core (fun _ => none) (fun _ => .inl rfl) (.inr ⟨_, vs.toArray, _, hk, rfl, rfl, rfl, by rw [List.size_toArray, lenV]; exact hl, by simpa using rv⟩) (fun b u z => by have z' : (none : Option HO) = some u := z; cases z') (fun b z => absurd rfl z) fun z => absurd rfl z
 | none =>
   refine core (fun b => if b = a then some (.frz { cls := .type "list", data := .seq vs.toArray } (.lst (ns.map V.int))) else none) (fun b => ?_) (.inl (.inr ⟨{ cls := .type "list", data := .seq vs.toArray }, if_pos rfl⟩)) (fun b u z => ?_) (fun b z => ?_) fun _ => hk
   · by_cases hb : b = a
     · exact .inr ⟨_, _, if_pos hb⟩
     · exact .inl (if_neg hb)
   · by_cases hb : b = a
     · have z' := (if_pos hb).symm.trans z
       cases z'
       subst hb
       exact ⟨ha, by rw [List.length_map]; exact hl, vs, _, rv, ha⟩
     · have z' := (if_neg hb).symm.trans z
       cases z'
   · by_cases hb : b = a
     · exact hb
     · exact absurd (if_neg hb) z
end L2
namespace L2
open PySem PySem.Spec PyProof.Rows
theorem zvn {l : PySem.W.OpenLaw} {n k : Nat} {q : Program} {loose : List Str} {XP : (Str → Option Value) → Heap → Prop} {YP : World → Heap → Prop} {d : DefRec} {K : Params → W.Frag} {CX : World → CXT} {sp : World → Sp} {x : Str}
 (hn : l.most = some n) (hn2 : n ≤ sizeLine) (hdf : d.params.defaults = []) (hr : Room k callerA)
 (hY : ∀ (w : World) (h : Heap), YP w h → (K w.params).In h)
 (F : ∀ (w : World) (mg : Str → Option Value) (fa : Addr) (h : Heap), (K w.params).In h → h.Ns mainGlobals mg → mg d.name = some (.ref fa) →
   ∃ fd : FuncData, (∀ (s : Shared) (u : Value), BindsTo s fd ⟨[u], []⟩ [(x, u)]) ∧
     ∀ base : Heap, (K w.params).In base → base.Ns mainGlobals mg → FnOk l.prog w (K w.params) mg base (CX w) k fa fd [x] (sp w))
 (hsp : ∀ (w : World) (H : Hp) (a : Addr) (ns : List Int), ns.length ≤ n → zvm H → uR (K w.params) H a (ns.map V.int) → sp w [.ref a] H (fun v _ => v = .bl true) fun _ _ _ => False)
 (hCX : ∀ (w : World) (H : Hp) (s : Shared) (e : Value) (s' : Shared), CX w [] H s (fun _ _ _ => False) e s' → False) :
 PySem.W.WalkO q loose XP YP l.row.toRowW d [] (fun f vs => PySem.call f vs) := by
 refine Att.attach_call hn hdf fun w s₀ s₁ mg mb fa o pm cd doc a vs ns G Y ho hd hcd hmg hobj hints hlen hg => ?_
 have KX := hY w _ Y
 obtain ⟨fd, hb, hF⟩ := F w mg fa _ KX G.T.g hmg
 exact zra KX G.T.g G.T.b G.T.builtins G.T.nolimit hg hobj hints (Nat.le_trans hlen hn2) hr hF hb (fun H hO hS => hsp w H a ns hlen hO hS) fun H e s' => hCX w H s₁ e s'
end L2
namespace L2
open PySem PySem.Spec PyProof.Rows
noncomputable def wV (s : Stmt) (j : Nat) : Stmt := match s with
 | .ClassDef _ _ _ body _ _ _ _ _ _ _ => body.getD j (.Pass ⟨0, 0, 0, 0⟩)
 | _ => .Pass ⟨0, 0, 0, 0⟩
noncomputable def aX (s : Stmt) : Arguments := match s with
 | .FunctionDef _ a _ _ _ _ _ _ _ _ => a
 | _ => { posonlyargs := [], args := [], vararg := none, kwonlyargs := [], kw_defaults := [], kwarg := none, defaults := [] }
noncomputable def aQ (s : Stmt) : List Stmt := match s with
 | .FunctionDef _ _ b _ _ _ _ _ _ _ => b
 | _ => []
noncomputable def aK (s : Stmt) : Scope := match s with
 | .FunctionDef _ _ _ _ _ _ sc _ _ _ => sc
 | _ => { kind := .function, names := [], isGenerator := false, isCoroutine := false }
noncomputable abbrev CX0 : CXT := fun _ _ _ _ _ _ => False
noncomputable abbrev E0 : XK := fun _ _ _ => False
theorem znd {X : Cx} : vG CX0 X E0 := fun _ _ _ _ _ _ _ h => h.elim
structure Fun (K : W.Frag) (x qual : Str) (st : Stmt) (f : Addr) (fd : FuncData) : Prop where
 ex : ∃ (oc : Value) (od : Option Addr) (kV doc pm : Value) (an : Option Addr) (cdv ct : Value) (osl : Array (Option Value)),
  fd = W.fnOf x qual (aX st) (aQ st) (aK st) .none kV doc pm an cdv ct ∧ K.lookup f = some ⟨oc, od, .func fd, osl⟩ ∧ W.codeIn K cdv qual = true
 kp : W.keepIn K (.ref f) = true
section
variable {P : Program} {w : World} {K : W.Frag} {mg : Str → Option Value} {base : Heap}
theorem Fun.ok {x qual : Str} {st : Stmt} {f : Addr} {fd : FuncData} {N ps : List Str} {k : Nat} {sp : Sp} (F : Fun K x qual st f fd) (S : FnScope N ps (aK st)) (len : ∀ vs H Q E, sp vs H Q E → vs.length = ps.length)
 (hbody : ∀ (cdv : Value) (A : Around) (outer : List Env) (s : Shared) (H : Hp) (vs : List V) (Q : VK) (E : XK), Room k (A.deeper (envOfC qual (aK st) s.heap.objs.size f cdv)) → sp vs H Q E →
   ∃ t, PSs (cxOf CX0 P w K mg base N qual (aK st) f cdv A outer s H E).nox (aQ st) t ∧ t { nx := fun _ H' => Q .non H', rt := Q } (start N vs) H) : FnOk P w K mg base CX0 (k + 1) f fd ps sp := by
 obtain ⟨oc, od, kV, doc, pm, an, cdv, ct, osl, rfl, lk, hcd⟩ := F.ex
 refine zxn lk hcd S len fun A outer s H vs Q E hr hsp => ?_
 obtain ⟨t, h, q⟩ := hbody cdv A outer s H vs Q E hr hsp
 exact ⟨t, h.nox, q⟩
theorem Fun.binds {x qual : Str} {st : Stmt} {f : Addr} {fd : FuncData} {ps : List Str} (F : Fun K x qual st f fd)
 (h : ∀ (kV doc pm : Value) (an : Option Addr) (cdv ct : Value) (us : List Value), us.length = ps.length → bindArgs (W.fnOf x qual (aX st) (aQ st) (aK st) .none kV doc pm an cdv ct) ⟨us, []⟩ = pure (ps.zip us)) : iB K fd ps [] := by
 obtain ⟨oc, od, kV, doc, pm, an, cdv, ct, osl, rfl, lk, hcd⟩ := F.ex
 exact .all (h kV doc pm an cdv ct)
theorem bO {x qual : Str} {st : Stmt} {f : Addr} {oc : Value} {od an : Option Addr} {osl : Array (Option Value)} {kV doc pm cdv ct : Value} (l : K.lookup f = some ⟨oc, od, .func (W.fnOf x qual (aX st) (aQ st) (aK st) .none kV doc pm an cdv ct), osl⟩)
 (c : W.codeIn K cdv qual = true) (k : W.keepIn K (.ref f) = true) : Fun K x qual st f (W.fnOf x qual (aX st) (aQ st) (aK st) .none kV doc pm an cdv ct) := ⟨⟨oc, od, kV, doc, pm, an, cdv, ct, osl, rfl, l, c⟩, k⟩
end
theorem zo9 {n : Nat} (h : n ≤ 1000) : n < sizeLine := Nat.lt_of_le_of_lt h (by decide)
section
variable {X : Cx}
end
noncomputable def eW (H H' : Hp) : Prop := ∀ b o, H b = some o → H' b = some o
theorem eW.refl (H : Hp) : eW H H := fun _ _ h => h
theorem eW.trans {H H1 H2 : Hp} (a : eW H H1) (b : eW H1 H2) : eW H H2 := fun c o h => b c o (a c o h)
end L2
namespace L2
open PySem PySem.Spec PyProof.Rows
section
variable {κ : Type} [DecidableEq κ]
noncomputable def zib (kvs : List (κ × V)) (k : κ) : Option V := (kvs.find? fun kv => decide (kv.1 = k)).map (·.2)
noncomputable def wW (kvs : List (κ × V)) (k : κ) (v : V) : List (κ × V) :=
 if (kvs.any fun kv => decide (kv.1 = k)) = true then kvs.map (fun kv => if kv.1 = k then (kv.1, v) else kv) else kvs ++ [(k, v)]
theorem zic {p : κ × V} {r : List (κ × V)} {k : κ} (e : p.1 = k) : zib (p :: r) k = some p.2 := by simp [zib, List.find?_cons, e]
theorem zid {p : κ × V} {r : List (κ × V)} {k : κ} (e : ¬ p.1 = k) : zib (p :: r) k = zib r k := by simp [zib, List.find?_cons, e]
theorem wX (k : κ) : ∀ kvs : List (κ × V), (kvs.any fun kv => decide (kv.1 = k)) = (zib kvs k).isSome
 | [] => rfl
 | p :: r => by
   rw [List.any_cons]
   by_cases e : p.1 = k
   · simp only [zic e, decide_eq_true e, Bool.true_or, Option.isSome_some]
   · rw [zid e, decide_eq_false e, Bool.false_or]; exact wX k r
theorem zae (kvs : List (κ × V)) (k : κ) (v : V) : (wW kvs k v).length ≤ kvs.length + 1 := by
 unfold wW
 split
 · rw [List.length_map]; omega
 · rw [List.length_append, List.length_cons, List.length_nil]; omega
theorem yF.isSome_eq {o : Option V} {u : Option Value} (r : yF o u) : o.isSome = u.isSome := by
 cases o with
 | none => cases u with
   | none => rfl
   | some _ => exact (show False from r).elim
 | some _ => cases u with
   | none => exact (show False from r).elim
   | some _ => rfl
theorem KV.any {kvs : List (κ × V)} {vs : List (κ × Value)} (r : KV kvs vs) (k : κ) : (kvs.any fun kv => decide (kv.1 = k)) = vs.any fun kv => decide (kv.1 = k) := by
 unfold KV at r
 induction r with
 | nil => rfl
 | cons h t ih => rw [List.any_cons, List.any_cons, ih, h.1]
theorem KV.repl {kvs : List (κ × V)} {vs : List (κ × Value)} (r : KV kvs vs) (k : κ) {y : V} {u : Value} (ry : dG y u) :
 KV (kvs.map fun kv => if kv.1 = k then (kv.1, y) else kv) (vs.map fun kv => if kv.1 = k then (kv.1, u) else kv) := by
 unfold KV at r ⊢
 induction r with
 | nil => exact .nil
 | @cons p q ps qs h t ih =>
   rw [List.map_cons, List.map_cons]
   refine .cons ?_ ih
   obtain ⟨h1, h2⟩ := h
   by_cases e : p.1 = k
   · rw [if_pos e, if_pos (h1.symm.trans e)]; exact ⟨h1, ry⟩
   · rw [if_neg e, if_neg (fun z => e (h1.trans z))]; exact ⟨h1, h2⟩
theorem KV.put {kvs : List (κ × V)} {vs : List (κ × Value)} (r : KV kvs vs) (k : κ) {y : V} {u : Value} (ry : dG y u) : KV (wW kvs k y) (stored vs k u) := by
 unfold wW stored
 rw [r.any k]
 by_cases e : (vs.any fun kv => decide (kv.1 = k)) = true
 · rw [if_pos e, if_pos e]; exact r.repl k ry
 · rw [if_neg e, if_neg e]; exact Paired.snoc r ⟨rfl, ry⟩
theorem KV.length {kvs : List (κ × V)} {vs : List (κ × Value)} (r : KV kvs vs) : kvs.length = vs.length := Paired.length r
end
theorem zxo {P : Program} {w : World} {k : fJ} {u : Value} (r : dG (kV k) u) : (fY P w).is k u = true := by
 cases k with
 | inl i => obtain ⟨t, e⟩ := (show ∃ t, u = Value.int i t from r); subst e; exact zh1 P w i t
 | inr x => obtain ⟨t, e⟩ := (show ∃ t, u = Value.str x t from r); subst e; exact zh2 P w x t
theorem yJ {P : Program} {w : World} : ∀ {ks : List fJ} {us : List Value}, bU (ks.map kV) us → ItemsAre (fY P w) ks us
 | [], _, r => by rw [List.map_nil] at r; cases r; exact .nil
 | k :: ks, _, r => by
   rw [List.map_cons] at r
   cases r with
   | cons h t => exact .cons (zxo h) (yJ t)
noncomputable abbrev KT (H : Hp) : List (List fJ × V) → List (List fJ × Addr × Value) → Prop := Paired fun p q => p.1 = q.1 ∧ H q.2.1 = some (.tup (p.1.map kV)) ∧ dG p.2 q.2.2
theorem KT.val {H : Hp} {kvs : List (List fJ × V)} {xs : List (List fJ × Addr × Value)} (r : KT H kvs xs) (k : List fJ) : yF (zib kvs k) ((atKey xs k).map (·.2)) := by
 induction r with
 | nil => exact True.intro
 | @cons p q ps qs h t ih =>
   obtain ⟨h1, _, h2⟩ := h
   by_cases e : p.1 = k
   · have e' : q.1 = k := h1.symm.trans e
     have b : atKey (q :: qs) k = some q.2 := by simp [atKey, List.find?_cons, e']
     rw [zic e, b]; exact h2
   · have e' : ¬ q.1 = k := fun z => e (h1.trans z)
     have b : atKey (q :: qs) k = atKey qs k := by simp [atKey, List.find?_cons, e']
     rw [zid e, b]; exact ih
theorem KT.repl {H : Hp} {kvs : List (List fJ × V)} {xs : List (List fJ × Addr × Value)} (r : KT H kvs xs) (k : List fJ) {y : V} {u : Value} (ry : dG y u) :
 KT H (kvs.map fun kv => if kv.1 = k then (kv.1, y) else kv) (xs.map (putAt k u)) := by
 induction r with
 | nil => exact .nil
 | @cons p q ps qs h t ih =>
   rw [List.map_cons, List.map_cons]
   refine .cons ?_ ih
   obtain ⟨h1, h2, h3⟩ := h
   unfold putAt
   by_cases e : p.1 = k
   · rw [if_pos e, if_pos (h1.symm.trans e)]; exact ⟨h1, h2, ry⟩
   · rw [if_neg e, if_neg (fun z => e (h1.trans z))]; exact ⟨h1, h2, h3⟩
theorem KT.put {H : Hp} {kvs : List (List fJ × V)} {xs : List (List fJ × Addr × Value)} (r : KT H kvs xs) (k : List fJ) {b : Addr} {y : V} {u : Value} (hb : H b = some (.tup (k.map kV))) (ry : dG y u) :
 KT H (wW kvs k y) (storedH xs k b u) := by
 have e : (kvs.any fun kv => decide (kv.1 = k)) = (atKey xs k).isSome := by
  rw [wX, (r.val k).isSome_eq, Option.isSome_map]
 unfold wW storedH
 rw [e]
 by_cases q : (atKey xs k).isSome = true
 · rw [if_pos q, if_pos q]; exact r.repl k ry
 · rw [if_neg q, if_neg q]; exact Paired.snoc r ⟨rfl, hb, ry⟩
theorem KT.keeps {H H' : Hp} {kvs : List (List fJ × V)} {xs : List (List fJ × Addr × Value)} (r : KT H kvs xs) (ht : ∀ b ys, H b = some (.tup ys) → H' b = some (.tup ys)) : KT H' kvs xs :=
 Paired.mapP r fun _ _ z => ⟨z.1, ht _ _ z.2.1, z.2.2⟩
section
variable {P : Program} {w : World} {H : Hp} {h : Heap} {a : Addr}
theorem zxp {u : HO} (ok : uQ P w H h) (e : Rd H a u) : gI P w H h a u := e.ok ok
theorem zabb {kvs : List (fJ × V)} (ok : uQ P w H h) (e : Rd H a (.dK kvs)) : kvs.length ≤ sizeLine ∧ (a == sysModules) = false ∧ ∃ vs, KV kvs vs ∧ h.DictOf (fY P w) a vs :=
 show gI P w H h a (.dK kvs) from zxp ok e
theorem zabc {kvs : List (fJ × V)} (ok : uQ P w H h) (e : H a = some (.dK kvs)) : kvs.length ≤ sizeLine ∧ (a == sysModules) = false ∧ ∃ vs, KV kvs vs ∧ h.DictOf (fY P w) a vs := zabb ok (.inl e)
theorem zrc {ks : List fJ} (ok : uQ P w H h) (e : H a = some (.tup (ks.map kV))) : (tupleKind (fY P w)).is h ks a := by
 obtain ⟨_, its, r, o, h1, h2, n, h3⟩ := (show gI P w H h a (.tup (ks.map kV)) from ok a _ e)
 exact ⟨o, its.toArray, n, h1, h2, h3, by simpa using yJ r⟩
theorem zabd {kvs : List (List fJ × V)} (ok : uQ P w H h) (e : Rd H a (.dT kvs)) : kvs.length ≤ sizeLine ∧ (a == sysModules) = false ∧
 ∃ xs, KT H kvs xs ∧ h.DictOfH (tupleKind (fY P w)) a xs := by
 obtain ⟨z, y, xs, r, o, es, ep, h1, h2, h3, h4, h5⟩ := (show gI P w H h a (.dT kvs) from zxp ok e)
 refine ⟨z, y, xs, r, o, es, ep, h1, h2, h3, h4, fun x hx => ?_, h5⟩
 have all : ∀ {l : List (List fJ × V)} {m : List (List fJ × Addr × Value)}, KT H l m → ∀ x ∈ m, (tupleKind (fY P w)).is h x.1 x.2.1 := by
  intro l m q
  induction q with
  | nil => intro x hx; exact nomatch hx
  | @cons p q ps qs hq t ih =>
    intro x hx
    rcases List.mem_cons.mp hx with e | hx
    · subst e
      exact zrc ok (by rw [← hq.1]; exact hq.2.1)
    · exact ih x hx
 exact all r x hx
theorem zrd {kvs : List (List fJ × V)} (ok : uQ P w H h) (e : H a = some (.dT kvs)) : kvs.length ≤ sizeLine ∧ (a == sysModules) = false ∧
 ∃ xs, KT H kvs xs ∧ h.DictOfH (tupleKind (fY P w)) a xs := zabd ok (.inl e)
end
noncomputable def zre (H : Hp) (a : Addr) (y v : V) (H' : Hp) : Prop :=
 (∃ kvs k, H a = some (.dK kvs) ∧ y = kV k ∧ kvs.length < sizeLine ∧ H' = upd H a (.dK (wW kvs k v))) ∨
 ∃ kvs k b, H a = some (.dT kvs) ∧ y = .ref b ∧ H b = some (.tup (k.map kV)) ∧ kvs.length < sizeLine ∧ H' = upd H a (.dT (wW kvs k v))
theorem zre.t {H : Hp} {a b : Addr} {kvs : List (List fJ × V)} {k : List fJ} {v : V} (e : H a = some (.dT kvs)) (eb : H b = some (.tup (k.map kV))) (hl : kvs.length < sizeLine) :
 zre H a (.ref b) v (upd H a (.dT (wW kvs k v))) := .inr ⟨kvs, k, b, e, rfl, eb, hl, rfl⟩
section
variable {X : Cx} {pins : List (Addr × Obj)} {σ : St} {H : Hp} {s : Shared} {a : Addr} {y v : V} {u r : Value} {o : Option V} {A : Around} {E : Value → Shared → Prop}
theorem Inv.big (I : Inv X pins σ H s) : sysModules < s.heap.objs.size := by
 have h : mainGlobals < s.heap.objs.size := (I.mod.glob.keeps I.bk).lt
 exact Nat.lt_trans (by decide) h
theorem zne {h' : Heap} {t' : Nat} {ob : HO} (I : Inv X pins σ H s) (mu : Mut (H a)) (hs : Heap.SameBut a s.heap h') (he : ∃ q, h'.get? a = some q) (new : gI X.prog X.w (upd H a ob) h' a ob) :
 Inv X pins σ (upd H a ob) { s with heap := h', toks := t' } :=
 I.write (x := a) (e := a) mu (.inl rfl) (fun b q hb z => (hs.2 b hb).trans z) he new
theorem zyy {P : Program} {w : World} {H' : Hp} {h' : Heap} {kvs : List (fJ × V)} {vs : List (fJ × Value)} (z : kvs.length ≤ sizeLine) (hd : (a == sysModules) = false) (rel : KV kvs vs) (dd : h'.DictOf (fY P w) a vs) :
 gI P w H' h' a (.dK kvs) := ⟨z, hd, vs, rel, dd⟩
theorem zpa {H' : Hp} {Q : Unit → Shared → Prop} (hu : A.units + 1 < cLine) (I : Inv X pins σ H s) (g : zre H a y v H') (ry : dG y u) (rv : dG v r) (h : ∀ s', Inv X pins σ H' s' → Q () s') :
 wpAny (model X.prog X.w) A (setItem (.ref a) u r) Q E s := by
 rcases g with ⟨kvs, k, e, ey, l, eH⟩ | ⟨kvs, k, b, e, ey, eb, l, eH⟩
 · subst ey eH
   obtain ⟨z, hd, vs, rel, dd⟩ := zabc I.hok e
   have hz : vs.length ≤ sizeLine := by rw [← rel.length]; exact z
   have hl : (wW kvs k v).length ≤ sizeLine := by have := zae kvs k v; omega
   refine wpAny_setItem_pairs (hsz := hz) (zxo ry) dd fun h' dd' hs => h _ ?_
   have he : ∃ q, h'.get? a = some q := let ⟨q, _, _, hq, _⟩ := dd'; ⟨q, hq⟩
   exact zne I (by rw [e]; exact True.intro) hs he (zyy hl hd (rel.put k rv) dd')
 · subst ey eH
   cases (show u = Value.ref b from ry)
   obtain ⟨z, hd, xs, rel, dd⟩ := zrd I.hok e
   have hz : xs.length ≤ sizeLine := by rw [← Paired.length rel]; exact z
   have hl : (wW kvs k v).length ≤ sizeLine := by have := zae kvs k v; omega
   refine wpAny_setItem_heap (hsz := hz) (tupleKind_room_in1 hu) (zrc I.hok eb) dd fun h' dd' hs => h _ ?_
   obtain ⟨q, es, ep, hq, h2, h3, h4, _, h5⟩ := dd'
   refine zne I (by rw [e]; exact True.intro) hs ⟨q, hq⟩ ⟨hl, hd, _, (rel.put k eb rv).keeps fun c ys ec => ?_, q, es, ep, hq, h2, h3, h4, h5⟩
   rw [bD (mK ec e (fun z => nomatch z))]
   exact ec
end
section
variable {X : Cx} {pins : List (Addr × Obj)} {σ : St} {H : Hp} {s : Shared} {a : Addr} {kvs : List (fJ × V)} {k : fJ} {u : Value} {A : Around} {E : Value → Shared → Prop}
end
noncomputable def zabe (td ty tv : TE) : TS := fun D σ H => tv σ H fun v H1 => td σ H1 fun x H2 => ty σ H2 fun y H3 => ∃ a H4, x = .ref a ∧ zre H3 a y v H4 ∧ D.nx σ H4
section
variable {X : Cx} {o i e value : Expr} {pos pos' tpos : Pos} {td ty tv : TE}
theorem zvo (hu : X.A.units + 1 < cLine) (ho : PE X o td) (hi : PE X i ty) (hv : PE X value tv) (hs : swapsWith value (some (.Subscript o i pos')) pos.line X.env = pure false) :
 PS X (.Assign [.Subscript o i pos'] value pos) (zabe td ty tv) := by
 intro pins s σ H D I h
 refine wpAny_Assign_Subscript (thn (hv pins s σ H _ I h) fun r s1 ⟨v, H1, I1, rv, q1⟩ => thn (ho pins s1 σ H1 _ I1 q1) fun u s2 ⟨x, H2, I2, rx, q2⟩ => thn (hi pins s2 σ H2 _ I2 q2) fun iv s3 ⟨y, H3, I3, ry, a, H4, ex, g, q3⟩ => ?_) hs
 subst ex
 obtain rfl : u = Value.ref a := rx
 exact zpa hu I3 g ry rv fun s4 I4 => ⟨σ, H4, I4, q3⟩
end
theorem zrf {P : Program} {w : World} {H : Hp} (h : Heap) (hb : sysModules < h.objs.size) : gI P w H (h.push { cls := .type "dict", data := .dict #[] }) h.objs.size (.dT []) :=
 ⟨Nat.zero_le _, beq_eq_false_iff_ne.mpr (Ne.symm (Nat.ne_of_lt hb)), [], .nil, _, #[], 0, Heap.get?_push_size _ rfl, ⟨rfl, rfl, rfl⟩, rfl, rfl, List.nodup_nil⟩
noncomputable def zyz : TE := fun _ H Q => ∀ p, H p = none → Q (.ref p) (upd H p (.dT []))
section
variable {X : Cx} {pos : Pos}
theorem zrg : PE X (.Dict [] [] pos) zyz := fun pins s σ H Q I h =>
 wpAny_Dict_empty ⟨.ref s.heap.objs.size, _, I.laid (a := s.heap.objs.size) (o := .dT []) (t' := s.toks) (fun _ _ q => Heap.get?_push_of_some _ q) (Nat.le_refl _) (zrf s.heap I.big), rfl, h _ (I.hok.fresh (Nat.le_refl _))⟩
end
end L2
namespace MQ
open PySem PySem.Spec PyProof.Rows L2
inductive Dv where
 | non | bl (b : Bool) | int (i : Int) | str (x : Str) | tup (ds : List Dv) | lst (ds : List Dv) | scr (ns : List Int) | ref (a : Addr)
noncomputable def SqR (K : W.Frag) (H : Hp) (a : Addr) (xs : List V) : Prop :=
 (∃ o, H a = some (.frz o (.lst xs))) ∨
   ∃ (o : Obj) (its : Array Value) (n : Nat), K.lookup a = some o ∧ o.cls = .type "list" ∧ o.dict = none ∧ o.data = .seq its n ∧ its.size ≤ sizeLine ∧ bU xs its.toList
theorem SqR.sq {K : W.Frag} {H : Hp} {a : Addr} {xs : List V} (h : SqR K H a xs) : uR K H a xs := by
 rcases h with ⟨o, h⟩ | h
 · exact .inl (.inr ⟨o, h⟩)
 · exact .inr h
noncomputable def wY (K : W.Frag) (H : Hp) (a : Addr) (vs : List V) : Prop := H a = some (.tup vs) ∨ (SqT K H a vs ∧ vs = [.int 0, .int 0])
theorem wY.sq {K : W.Frag} {H : Hp} {a : Addr} {vs : List V} (h : wY K H a vs) : SqT K H a vs := h.elim (fun z => .inl (.inl z)) fun z => z.1
mutual
noncomputable def gN (K : W.Frag) (H : Hp) : Dv → V → Prop
 | .non, v => v = .non
 | .bl b, v => v = .bl b
 | .int i, v => v = .int i
 | .str x, v => v = .str x
 | .tup ds, v => ∃ a vs, v = .ref a ∧ wY K H a vs ∧ bM K H ds vs
 | .lst ds, v => ∃ a o vs, v = .ref a ∧ H a = some (.frz o (.lst vs)) ∧ bM K H ds vs
 | .scr ns, v => ∃ a, v = .ref a ∧ SqR K H a (ns.map V.int)
 | .ref a, v => v = .ref a
noncomputable def bM (K : W.Frag) (H : Hp) : List Dv → List V → Prop
 | [], vs => vs = []
 | d :: ds, vs => ∃ v r, vs = v :: r ∧ gN K H d v ∧ bM K H ds r
end
structure Ext (H H' : Hp) : Prop where
 tup : ∀ a xs, H a = some (.tup xs) → H' a = some (.tup xs)
 frz : ∀ a o u, H a = some (.frz o u) → H' a = some (.frz o u)
theorem Ext.refl (H : Hp) : Ext H H := ⟨fun _ _ h => h, fun _ _ _ h => h⟩
theorem Ext.trans {H H1 H2 : Hp} (a : Ext H H1) (b : Ext H1 H2) : Ext H H2 := ⟨fun c xs h => b.tup c xs (a.tup c xs h), fun c o u h => b.frz c o u (a.frz c o u h)⟩
theorem bF {H H' : Hp} (s : eW H H') : Ext H H' := ⟨fun a xs h => s a _ h, fun a o u h => s a _ h⟩
theorem Ext.sqT {K : W.Frag} {H H' : Hp} {a : Addr} {xs : List V} (e : Ext H H') (h : SqT K H a xs) : SqT K H' a xs := by
 rcases h with (h | ⟨o, h⟩) | h
 · exact .inl (.inl (e.tup _ _ h))
 · exact .inl (.inr ⟨o, e.frz _ _ _ h⟩)
 · exact .inr h
theorem Ext.tupAt {K : W.Frag} {H H' : Hp} {a : Addr} {xs : List V} (e : Ext H H') (h : wY K H a xs) : wY K H' a xs := h.elim (fun z => .inl (e.tup _ _ z)) fun z => .inr ⟨e.sqT z.1, z.2⟩
theorem Ext.sqR {K : W.Frag} {H H' : Hp} {a : Addr} {xs : List V} (e : Ext H H') (h : SqR K H a xs) : SqR K H' a xs := by
 rcases h with ⟨o, h⟩ | h
 · exact .inl ⟨o, e.frz _ _ _ h⟩
 · exact .inr h
mutual
theorem dJ {K : W.Frag} {H H' : Hp} (e : Ext H H') : ∀ (d : Dv) (v : V), gN K H d v → gN K H' d v
 | .non, _, h => h
 | .bl _, _, h => h
 | .int _, _, h => h
 | .str _, _, h => h
 | .tup ds, v, h => by
   obtain ⟨a, vs, h1, h2, h3⟩ := (show ∃ a vs, v = .ref a ∧ wY K H a vs ∧ bM K H ds vs from h)
   exact (show ∃ a vs, v = .ref a ∧ wY K H' a vs ∧ bM K H' ds vs from ⟨a, vs, h1, e.tupAt h2, cA e ds vs h3⟩)
 | .lst ds, v, h => by
   obtain ⟨a, o, vs, h1, h2, h3⟩ := (show ∃ a o vs, v = .ref a ∧ H a = some (.frz o (.lst vs)) ∧ bM K H ds vs from h)
   exact (show ∃ a o vs, v = .ref a ∧ H' a = some (.frz o (.lst vs)) ∧ bM K H' ds vs from ⟨a, o, vs, h1, e.frz _ _ _ h2, cA e ds vs h3⟩)
 | .scr ns, v, h => by
   obtain ⟨a, h1, h2⟩ := (show ∃ a, v = .ref a ∧ SqR K H a (ns.map V.int) from h)
   exact (show ∃ a, v = .ref a ∧ SqR K H' a (ns.map V.int) from ⟨a, h1, e.sqR h2⟩)
 | .ref _, _, h => h
theorem cA {K : W.Frag} {H H' : Hp} (e : Ext H H') : ∀ (ds : List Dv) (vs : List V), bM K H ds vs → bM K H' ds vs
 | [], _, h => h
 | d :: ds, vs, h => by
   obtain ⟨v, r, h1, h2, h3⟩ := (show ∃ v r, vs = v :: r ∧ gN K H d v ∧ bM K H ds r from h)
   exact (show ∃ v r, vs = v :: r ∧ gN K H' d v ∧ bM K H' ds r from ⟨v, r, h1, dJ e d v h2, cA e ds r h3⟩)
end
section
variable {K : W.Frag} {H : Hp}
theorem dR : bM K H [] [] := rfl
theorem dE {d : Dv} {ds : List Dv} {v : V} {vs : List V} (h : gN K H d v) (hs : bM K H ds vs) : bM K H (d :: ds) (v :: vs) := ⟨v, vs, rfl, h, hs⟩
theorem bX : ∀ {ds : List Dv} {vs : List V}, bM K H ds vs → vs.length = ds.length
 | [], vs, h => by rw [show vs = [] from h]; rfl
 | d :: ds, vs, h => by
   obtain ⟨v, r, rfl, _, h3⟩ := (show ∃ v r, vs = v :: r ∧ gN K H d v ∧ bM K H ds r from h)
   rw [List.length_cons, List.length_cons, bX h3]
theorem nF : ∀ {ds : List Dv} {vs : List V} {i : Nat} {d : Dv}, bM K H ds vs → ds[i]? = some d → ∃ v, vs[i]? = some v ∧ gN K H d v
 | [], _, _, _, _, e => by simp at e
 | d :: ds, vs, i, x, h, e => by
   obtain ⟨v, r, rfl, h2, h3⟩ := (show ∃ v r, vs = v :: r ∧ gN K H d v ∧ bM K H ds r from h)
   cases i with
   | zero => simp at e; subst e; exact ⟨v, rfl, h2⟩
   | succ i => simpa using nF (i := i) h3 (by simpa using e)
theorem mY : ∀ {ds : List Dv} {vs : List V} {i : Nat} {v : V}, bM K H ds vs → vs[i]? = some v → ∃ d, ds[i]? = some d ∧ gN K H d v
 | [], vs, i, v, h, e => by rw [show vs = [] from h] at e; simp at e
 | d :: ds, vs, i, x, h, e => by
   obtain ⟨v, r, rfl, h2, h3⟩ := (show ∃ v r, vs = v :: r ∧ gN K H d v ∧ bM K H ds r from h)
   cases i with
   | zero => simp at e; subst e; exact ⟨d, rfl, h2⟩
   | succ i => simpa using mY (i := i) h3 (by simpa using e)
theorem jF : ∀ {ds es : List Dv} {vs us : List V}, bM K H ds vs → bM K H es us → bM K H (ds ++ es) (vs ++ us)
 | [], es, vs, us, h, g => by rw [show vs = [] from h]; exact g
 | d :: ds, es, vs, us, h, g => by
   obtain ⟨v, r, rfl, h2, h3⟩ := (show ∃ v r, vs = v :: r ∧ gN K H d v ∧ bM K H ds r from h)
   exact dE h2 (jF h3 g)
theorem yK : ∀ {ds : List Dv} {vs : List V} (n : Nat), bM K H ds vs → bM K H (ds.take n) (vs.take n)
 | ds, vs, 0, _ => by simp only [List.take_zero]; exact dR
 | [], vs, n + 1, h => by rw [show vs = [] from h]; exact dR
 | d :: ds, vs, n + 1, h => by
   obtain ⟨v, r, rfl, h2, h3⟩ := (show ∃ v r, vs = v :: r ∧ gN K H d v ∧ bM K H ds r from h)
   exact dE h2 (yK n h3)
theorem zeq : ∀ {ds : List Dv} {vs : List V} (n : Nat), bM K H ds vs → bM K H (ds.drop n) (vs.drop n)
 | ds, vs, 0, h => h
 | [], vs, n + 1, h => by rw [show vs = [] from h]; exact dR
 | d :: ds, vs, n + 1, h => by
   obtain ⟨v, r, rfl, h2, h3⟩ := (show ∃ v r, vs = v :: r ∧ gN K H d v ∧ bM K H ds r from h)
   exact zeq n h3
theorem yL : ∀ (ns : List Int), bM K H (ns.map Dv.int) (ns.map V.int)
 | [] => rfl
 | n :: ns => dE (show gN K H (.int n) (.int n) from rfl) (yL ns)
end
inductive Ob where
 | lst (ds : List Dv)
 | dic (kvs : List (List fJ × Dv))
 | ins (fs : List (Str × Dv))
noncomputable abbrev aN := Addr → Option Ob
noncomputable def cB (S : aN) (p : Addr) (o : Ob) : aN := fun b => if b = p then some o else S b
noncomputable def zaz (S : aN) (p : Addr) : aN := fun b => if b = p then none else S b
theorem cF {S : aN} {p : Addr} {o : Ob} : cB S p o p = some o := if_pos rfl
theorem gU {S : aN} {p q : Addr} {o : Ob} (h : q ≠ p) : cB S p o q = S q := if_neg h
theorem dF {S : aN} {p : Addr} {o u : Ob} : cB (cB S p o) p u = cB S p u := by
 funext b; unfold cB; split <;> rfl
theorem zpb {S : aN} {p : Addr} {o : Ob} (h : S p = none) : zaz (cB S p o) p = S := by
 funext b; unfold zaz cB
 by_cases e : b = p
 · rw [if_pos e, e, h]
 · rw [if_neg e, if_neg e]
noncomputable def zf0 (K : W.Frag) (H : Hp) : List (List fJ × Dv) → List (List fJ × V) → Prop := Paired fun p q => p.1 = q.1 ∧ gN K H p.2 q.2
noncomputable def zbu (K : W.Frag) (H : Hp) : List (Str × Dv) → List (Str × V) → Prop := Paired fun p q => p.1 = q.1 ∧ gN K H p.2 q.2
noncomputable def zlo (K : W.Frag) (H : Hp) (a : Addr) : Ob → Prop
 | .lst ds => ∃ vs, H a = some (.lst vs) ∧ bM K H ds vs
 | .dic kvs => ∃ ks, H a = some (.dT ks) ∧ zf0 K H kvs ks
 | .ins fs => ∃ C dx vs, W.nsIn K mainGlobals "Hand" = some (some (.ref C)) ∧ H a = some (.ins C dx vs) ∧ zbu K H fs vs
noncomputable def cG (K : W.Frag) (H : Hp) (S : aN) : Prop := ∀ a o, S a = some o → zlo K H a o
theorem zie {K : W.Frag} {H H' : Hp} (e : Ext H H') {x : List (List fJ × Dv)} {y : List (List fJ × V)} (h : zf0 K H x y) : zf0 K H' x y :=
 Paired.mapP h fun _ _ z => ⟨z.1, dJ e _ _ z.2⟩
theorem zif {K : W.Frag} {H H' : Hp} (e : Ext H H') {x : List (Str × Dv)} {y : List (Str × V)} (h : zbu K H x y) : zbu K H' x y :=
 Paired.mapP h fun _ _ z => ⟨z.1, dJ e _ _ z.2⟩
theorem zlo.same {K : W.Frag} {H H' : Hp} {a : Addr} {o : Ob} (h : zlo K H a o) (e : Ext H H') (k : ∀ u, H a = some u → H' a = some u) : zlo K H' a o := by
 cases o with
 | lst ds => obtain ⟨vs, h1, h2⟩ := h; exact ⟨vs, k _ h1, cA e _ _ h2⟩
 | dic kvs => obtain ⟨ks, h1, h2⟩ := h; exact ⟨ks, k _ h1, zie e h2⟩
 | ins fs => obtain ⟨C, dx, vs, hc, h1, h2⟩ := h; exact ⟨C, dx, vs, hc, k _ h1, zif e h2⟩
theorem zlo.some {K : W.Frag} {H : Hp} {a : Addr} {o : Ob} (h : zlo K H a o) : H a ≠ none := by
 cases o with
 | lst ds => obtain ⟨vs, h1, h2⟩ := h; rw [h1]; exact fun z => nomatch z
 | dic kvs => obtain ⟨ks, h1, h2⟩ := h; rw [h1]; exact fun z => nomatch z
 | ins fs => obtain ⟨C, dx, vs, hc, h1, h2⟩ := h; rw [h1]; exact fun z => nomatch z
theorem cG.same {K : W.Frag} {H H' : Hp} {S : aN} (h : cG K H S) (s : eW H H') : cG K H' S := fun a o e => (h a o e).same (bF s) fun u q => s a u q
theorem cG.free {K : W.Frag} {H : Hp} {S : aN} (h : cG K H S) {p : Addr} (e : H p = none) : S p = none := by
 cases q : S p with
 | none => rfl
 | some o => exact absurd e (h p o q).some
theorem cG.put {K : W.Frag} {H : Hp} {S : aN} {p : Addr} {u : HO} {o : Ob} (h : cG K H S) (e : Ext H (upd H p u)) (ok : zlo K (upd H p u) p o) : cG K (upd H p u) (cB S p o) := fun a ob q => by
 unfold cB at q
 by_cases z : a = p
 · rw [if_pos z] at q; cases q; rw [z]; exact ok
 · rw [if_neg z] at q; exact (h a ob q).same e fun v hv => by rw [bD z]; exact hv
theorem fP {H : Hp} {p : Addr} (h : H p = none) (o : HO) : eW H (upd H p o) := fun b u q => by rw [bD (iW q h)]; exact q
theorem znf {H : Hp} {p : Addr} {xs ys : List V} (h : H p = some (.lst xs)) : Ext H (upd H p (.lst ys)) :=
 ⟨fun a zs q => by rw [bD (mK q h (by intro z; cases z))]; exact q, fun a o u q => by rw [bD (mK q h (by intro z; cases z))]; exact q⟩
theorem zy0 {H : Hp} {p : Addr} {xs ys : List (List fJ × V)} (h : H p = some (.dT xs)) : Ext H (upd H p (.dT ys)) :=
 ⟨fun a zs q => by rw [bD (mK q h (by intro z; cases z))]; exact q, fun a o u q => by rw [bD (mK q h (by intro z; cases z))]; exact q⟩
theorem zvp {H : Hp} {p C dx : Addr} {xs ys : List (Str × V)} (h : H p = some (.ins C dx xs)) : Ext H (upd H p (.ins C dx ys)) :=
 ⟨fun a zs q => by rw [bD (mK q h (by intro z; cases z))]; exact q, fun a o u q => by rw [bD (mK q h (by intro z; cases z))]; exact q⟩
noncomputable abbrev Ev := List (Option Dv)
structure EnvOk (K : W.Frag) (H : Hp) (ρ : Ev) (σ : L2.St) : Prop where
 len : ρ.length = σ.length
 at_ : ∀ (i : Nat) d, ρ[i]? = some (some d) → ∃ v, σ[i]? = some (some v) ∧ gN K H d v
theorem EnvOk.ext {K : W.Frag} {H H' : Hp} {ρ : Ev} {σ : L2.St} (h : EnvOk K H ρ σ) (e : Ext H H') : EnvOk K H' ρ σ :=
 ⟨h.len, fun i d q => let ⟨v, h1, h2⟩ := h.at_ i d q; ⟨v, h1, dJ e _ _ h2⟩⟩
theorem EnvOk.set {K : W.Frag} {H : Hp} {ρ : Ev} {σ : L2.St} {i : Nat} {d : Dv} {v : V} (h : EnvOk K H ρ σ) (hd : gN K H d v) : EnvOk K H (ρ.set i (some d)) (σ.set i (some v)) := by
 refine ⟨by rw [List.length_set, List.length_set]; exact h.len, fun j e q => ?_⟩
 rw [List.getElem?_set] at q ⊢
 by_cases z : i = j
 · rw [if_pos z] at q ⊢
   rw [← h.len]
   by_cases z2 : i < ρ.length
   · rw [if_pos z2] at q ⊢
     cases q
     exact ⟨v, rfl, hd⟩
   · rw [if_neg z2] at q; cases q
 · rw [if_neg z] at q ⊢
   exact h.at_ j e q
noncomputable abbrev QE := Dv → aN → Prop
noncomputable abbrev WE := Ev → aN → QE → Prop
noncomputable abbrev WT := Ev → aN → (Bool → aN → Prop) → Prop
noncomputable abbrev WA := Ev → aN → (List Dv → aN → Prop) → Prop
structure Dn where
 nx : Ev → aN → Prop
 rt : QE
 bk : Ev → aN → Prop := fun _ _ => False
 ct : Ev → aN → Prop := fun _ _ => False
noncomputable abbrev WS := Dn → Ev → aN → Prop
inductive lE (K : W.Frag) (w : WE) (σ : L2.St) (H : Hp) (Q : VK) : Prop
 | mk (ρ : Ev) (S : aN) (Q' : QE) (env : EnvOk K H ρ σ) (st : cG K H S) (hw : w ρ S Q') (post : ∀ d S' v H', Q' d S' → Ext H H' → cG K H' S' → gN K H' d v → Q v H') : lE K w σ H Q
inductive lT (K : W.Frag) (w : WT) (σ : L2.St) (H : Hp) (Q : Bool → Hp → Prop) : Prop
 | mk (ρ : Ev) (S : aN) (Q' : Bool → aN → Prop) (env : EnvOk K H ρ σ) (st : cG K H S) (hw : w ρ S Q') (post : ∀ b S' H', Q' b S' → Ext H H' → cG K H' S' → Q b H') : lT K w σ H Q
inductive lA (K : W.Frag) (w : WA) (σ : L2.St) (H : Hp) (Q : List V → Hp → Prop) : Prop
 | mk (ρ : Ev) (S : aN) (Q' : List Dv → aN → Prop) (env : EnvOk K H ρ σ) (st : cG K H S) (hw : w ρ S Q') (post : ∀ ds S' vs H', Q' ds S' → Ext H H' → cG K H' S' → bM K H' ds vs → Q vs H') : lA K w σ H Q
structure DnOk (K : W.Frag) (H : Hp) (D' : Dn) (D : Ends) : Prop where
 nx : ∀ ρ S σ H', D'.nx ρ S → Ext H H' → EnvOk K H' ρ σ → cG K H' S → D.nx σ H'
 rt : ∀ d S v H', D'.rt d S → Ext H H' → cG K H' S → gN K H' d v → D.rt v H'
 bk : ∀ ρ S σ H', D'.bk ρ S → Ext H H' → EnvOk K H' ρ σ → cG K H' S → D.bk σ H'
 ct : ∀ ρ S σ H', D'.ct ρ S → Ext H H' → EnvOk K H' ρ σ → cG K H' S → D.ct σ H'
theorem DnOk.ext {K : W.Frag} {H H1 : Hp} {D' : Dn} {D : Ends} (h : DnOk K H D' D) (e : Ext H H1) : DnOk K H1 D' D :=
 ⟨fun ρ S σ H' a b c d => h.nx ρ S σ H' a (e.trans b) c d, fun d S v H' a b c q => h.rt d S v H' a (e.trans b) c q,
  fun ρ S σ H' a b c d => h.bk ρ S σ H' a (e.trans b) c d, fun ρ S σ H' a b c d => h.ct ρ S σ H' a (e.trans b) c d⟩
inductive lS (K : W.Frag) (w : WS) (D : Ends) (σ : L2.St) (H : Hp) : Prop
 | mk (ρ : Ev) (S : aN) (D' : Dn) (env : EnvOk K H ρ σ) (st : cG K H S) (hw : w D' ρ S) (ends : DnOk K H D' D) : lS K w D σ H
noncomputable abbrev DE (X : Cx) (e : Expr) (w : WE) : Prop := PE X e (lE X.K w)
noncomputable abbrev DT (X : Cx) (e : Expr) (w : WT) : Prop := PT X e (lT X.K w)
noncomputable abbrev DA (X : Cx) (es : List Expr) (w : WA) : Prop := PA X es (lA X.K w)
noncomputable abbrev DS (X : Cx) (st : Stmt) (w : WS) : Prop := PS X st (lS X.K w)
noncomputable abbrev DSs (X : Cx) (sts : List Stmt) (w : WS) : Prop := PSs X sts (lS X.K w)
section
variable {X : Cx}
theorem PE.weak {e : Expr} {t t' : TE} (h : PE X e t) (k : ∀ σ H Q, t' σ H Q → t σ H Q) : PE X e t' := fun pins s σ H Q I hw => h pins s σ H Q I (k _ _ _ hw)
theorem PT.weak {e : Expr} {t t' : TT} (h : PT X e t) (k : ∀ σ H Q, t' σ H Q → t σ H Q) : PT X e t' := fun pins s σ H Q I hw => h pins s σ H Q I (k _ _ _ hw)
theorem PW.weak {e : Expr} {t t' : TT} (h : PW X e t) (k : ∀ σ H Q, t' σ H Q → t σ H Q) : PW X e t' := fun wh pins s σ H Q I hw => h wh pins s σ H Q I (k _ _ _ hw)
theorem PA.weak {e : List Expr} {t t' : TA} (h : PA X e t) (k : ∀ σ H Q, t' σ H Q → t σ H Q) : PA X e t' := fun pos pins s σ H Q I hw => h pos pins s σ H Q I (k _ _ _ hw)
theorem PS.weak {e : Stmt} {t t' : TS} (h : PS X e t) (k : ∀ D σ H, t' D σ H → t D σ H) : PS X e t' := fun pins s σ H Q I hw => h pins s σ H Q I (k _ _ _ hw)
theorem PSs.weak {e : List Stmt} {t t' : TS} (h : PSs X e t) (k : ∀ D σ H, t' D σ H → t D σ H) : PSs X e t' := fun pins s σ H Q I hw => h pins s σ H Q I (k _ _ _ hw)
end
noncomputable def ev? (ρ : Ev) (i : Nat) : Option Dv := match ρ[i]? with
 | some (some d) => some d
 | _ => none
noncomputable def go (o : Option Dv) (S : aN) (Q : QE) : Prop := match o with
 | some d => Q d S
 | none => False
noncomputable def aD (i : Nat) : WE := fun ρ S Q => go (ev? ρ i) S Q
noncomputable def wC (d : Dv) : WE := fun _ S Q => Q d S
theorem ev?_at {ρ : Ev} {i : Nat} {d : Dv} (h : ev? ρ i = some d) : ρ[i]? = some (some d) := by
 unfold ev? at h
 split at h
 · rename_i d' e; cases h; exact e
 · cases h
theorem vH {o : Option Dv} {S : aN} {Q : QE} (h : go o S Q) : ∃ d, o = some d ∧ Q d S := by
 cases o with
 | none => exact h.elim
 | some d => exact ⟨d, rfl, h⟩
section
variable {X : Cx}
theorem aA (i : Nat) {x : Str} {pos : Pos} (hN : X.N[i]? = some x := by rfl) (hv : Vis X.env.scope x := by first | exact Or.inl rfl | exact Or.inr (Or.inl rfl) | exact Or.inr (Or.inr rfl)) (hd : (x == ("__debug__" : Str)) = false := by decide)
 (hcd : (x == ("__classdict__" : Str)) = false := by decide) : DE X (.Name x pos) (aD i) :=
 PE.weak (zx8 hN hv hd hcd) fun σ H Q ⟨ρ, S, Q', env, st, hw, post⟩ => by
  obtain ⟨d, e, q⟩ := vH hw
  obtain ⟨v, h1, h2⟩ := env.at_ i d (ev?_at e)
  exact ⟨v, h1, post d S v H q (Ext.refl H) st h2⟩
theorem de_c {e : Expr} {v : V} {d : Dv} (h : PE X e (tC v)) (hd : ∀ H, gN X.K H d v) : DE X e (wC d) :=
 PE.weak h fun σ H Q ⟨ρ, S, Q', env, st, hw, post⟩ => post d S v H hw (Ext.refl H) st (hd H)
theorem aF {i j pos} : DE X (.Constant (.int i) j pos) (wC (.int i)) := de_c zqm fun _ => rfl
theorem cH {b j pos} : DE X (.Constant (.bool b) j pos) (wC (.bl b)) := de_c zaap fun _ => rfl
theorem jW {j pos} : DE X (.Constant .none j pos) (wC .non) := de_c zx9 fun _ => rfl
theorem cL {x j pos} : DE X (.Constant (.str x) j pos) (wC (.str x)) := de_c zya fun _ => rfl
end
noncomputable abbrev F2 := aN → Dv → Dv → Option Dv
noncomputable def aU (f : F2) (a b : WE) : WE := fun ρ S Q => a ρ S fun x S1 => b ρ S1 fun y S2 => go (f S2 x y) S2 Q
inductive rD (K : W.Frag) (f : F2) (x y : V) (H : Hp) (Q : VK) : Prop
 | mk (S : aN) (dx dy d : Dv) (st : cG K H S) (hx : gN K H dx x) (hy : gN K H dy y) (hf : f S dx dy = some d) (post : ∀ z H', eW H H' → gN K H' d z → Q z H') : rD K f x y H Q
theorem zf1 {K : W.Frag} {f : F2} {wa wb : WE} (σ : L2.St) (H : Hp) (Q : VK) (h : lE K (aU f wa wb) σ H Q) : tOp (rD K f) (lE K wa) (lE K wb) σ H Q := by
 obtain ⟨ρ, S, Q', env, st, hw, post⟩ := h
 refine ⟨ρ, S, _, env, st, hw, fun dx S1 x H1 q1 e1 st1 d1 => ?_⟩
 refine ⟨ρ, S1, _, env.ext e1, st1, q1, fun dy S2 y H2 q2 e2 st2 d2 => ?_⟩
 obtain ⟨d, hf, q⟩ := vH q2
 exact ⟨S2, dx, dy, d, st2, dJ e2 _ _ d1, d2, hf, fun z H' sm dz => post d S2 z H' q ((e1.trans e2).trans (bF sm)) (st2.same sm) dz⟩
section
variable {X : Cx} {a b : Expr} {wa wb : WE} {pos : Pos} {f : F2}
theorem aZ {op : Operator} (ho : qH X (binaryOp op) (rD X.K f)) (ha : DE X a wa) (hb : DE X b wb) : DE X (.BinOp a op b pos) (aU f wa wb) := PE.weak (zxj ho ha hb) zf1
theorem aL (hr : IxR X (rD X.K f)) (ha : DE X a wa) (hb : DE X b wb) (hs : znc b := by exact fun _ _ => rfl) : DE X (.Subscript a b pos) (aU f wa wb) := PE.weak (zaba hr ha hb hs) zf1
end
noncomputable abbrev F2b := aN → Dv → Dv → Option Bool
noncomputable def mS (f : F2b) : F2 := fun S x y => (f S x y).map .bl
noncomputable def goB (o : Option Bool) (S : aN) (Q : Bool → aN → Prop) : Prop := match o with
 | some b => Q b S
 | none => False
theorem zng {o : Option Bool} {S : aN} {Q : Bool → aN → Prop} (h : goB o S Q) : ∃ b, o = some b ∧ Q b S := by
 cases o with
 | none => exact h.elim
 | some b => exact ⟨b, rfl, h⟩
noncomputable def bN (f : F2b) (a b : WE) : WT := fun ρ S Q => a ρ S fun x S1 => b ρ S1 fun y S2 => goB (f S2 x y) S2 Q
theorem zrh {K : W.Frag} {f : F2b} {wa wb : WE} (σ : L2.St) (H : Hp) (Q : Bool → Hp → Prop) (h : lT K (bN f wa wb) σ H Q) : zxk (tOp (rD K (mS f)) (lE K wa) (lE K wb)) σ H Q := by
 obtain ⟨ρ, S, Q', env, st, hw, post⟩ := h
 refine ⟨ρ, S, _, env, st, hw, fun dx S1 x H1 q1 e1 st1 d1 => ?_⟩
 refine ⟨ρ, S1, _, env.ext e1, st1, q1, fun dy S2 y H2 q2 e2 st2 d2 => ?_⟩
 obtain ⟨b, hf, q⟩ := zng q2
 refine ⟨S2, dx, dy, .bl b, st2, dJ e2 _ _ d1, d2, by unfold mS; rw [hf]; rfl, fun z H' sm dz => ⟨b, dz, ?_⟩⟩
 exact post b S2 H' q ((e1.trans e2).trans (bF sm)) (st2.same sm)
noncomputable def tru (S : aN) : Dv → Option Bool
 | .non => some false
 | .bl b => some b
 | .int i => some (i != 0)
 | .tup ds => some !ds.isEmpty
 | .lst ds => some !ds.isEmpty
 | .scr ds => some !ds.isEmpty
 | .ref a => match S a with
   | some (.lst ds) => some !ds.isEmpty
   | _ => none
 | _ => none
noncomputable def bZ (w : WE) : WT := fun ρ S Q => w ρ S fun d S1 => goB (tru S1 d) S1 Q
theorem zlp {K : W.Frag} {H : Hp} {ds : List Dv} {vs : List V} (h : bM K H ds vs) : (!ds.isEmpty) = !vs.isEmpty := by
 have e := bX h
 cases ds <;> cases vs <;> simp_all
theorem tru_ok {K : W.Frag} {H : Hp} {S : aN} {d : Dv} {v : V} {b : Bool} (st : cG K H S) (hd : gN K H d v) (e : tru S d = some b) : zyr K v H b := by
 cases d with
 | non => cases (show v = .non from hd); cases e; rfl
 | bl c => cases (show v = .bl c from hd); cases e; rfl
 | int i => cases (show v = .int i from hd); cases e; rfl
 | str x => cases e
 | tup ds =>
   obtain ⟨a, vs, rfl, h1, h2⟩ := (show ∃ a vs, v = .ref a ∧ wY K H a vs ∧ bM K H ds vs from hd)
   have h1 := h1.sq
   have e' : (!ds.isEmpty) = b := Option.some.inj e
   exact .inr (.inl ⟨vs, h1, by rw [← e', zlp h2]⟩)
 | lst ds =>
   obtain ⟨a, o, vs, rfl, h1, h2⟩ := (show ∃ a o vs, v = .ref a ∧ H a = some (.frz o (.lst vs)) ∧ bM K H ds vs from hd)
   have e' : (!ds.isEmpty) = b := Option.some.inj e
   exact .inl ⟨vs, .inl (.inr ⟨o, h1⟩), by rw [← e', zlp h2]⟩
 | scr ns =>
   obtain ⟨a, rfl, h1⟩ := (show ∃ a, v = .ref a ∧ SqR K H a (ns.map V.int) from hd)
   have e' : (!ns.isEmpty) = b := Option.some.inj e
   exact .inl ⟨_, h1.sq, by rw [← e']; cases ns <;> rfl⟩
 | ref a =>
   cases (show v = .ref a from hd)
   have e2 : (match S a with
    | some (.lst ds) => some !ds.isEmpty
    | _ => none) = some b := e
   split at e2
   · rename_i ds hs
     obtain ⟨vs, h1, h2⟩ := st a _ hs
     have e' : (!ds.isEmpty) = b := Option.some.inj e2
     exact .inl ⟨vs, .inl (.inl h1), by rw [← e', zlp h2]⟩
   · cases e2
noncomputable def uJ (a b : WT) : WT := fun ρ S Q => a ρ S fun c S1 => if c = true then b ρ S1 Q else Q false S1
noncomputable def yM (a b : WT) : WT := fun ρ S Q => a ρ S fun c S1 => if c = true then Q true S1 else b ρ S1 Q
noncomputable def eN (a : WT) : WT := fun ρ S Q => a ρ S fun c S1 => Q (!c) S1
noncomputable abbrev DW (X : Cx) (e : Expr) (w : WT) : Prop := PW X e (lT X.K w)
section
variable {X : Cx} {a b : Expr} {wa wb : WE} {pos : Pos} {f : F2b} {ta tb : WT} {rest : List Expr}
theorem fZ {op : CmpOp} (ho : qH X (compareOp op) (rD X.K (mS f))) (ha : DE X a wa) (hb : DE X b wb) (hm : behindInMarks op b = false := by first | exact zh5 _ (by decide) (by decide) | rfl) : DE X (.Compare a [op] [b] pos) (aU (mS f) wa wb) :=
 PE.weak (zu5 ho ha hb hm) zf1
theorem aV {op : CmpOp} (ho : qH X (compareOp op) (rD X.K (mS f))) (ha : DE X a wa) (hb : DE X b wb) (hm : behindInMarks op b = false := by first | exact zh5 _ (by decide) (by decide) | rfl) : DT X (.Compare a [op] [b] pos) (bN f wa wb) :=
 PT.weak (zu6 ho ha hb hm) zrh
theorem bV (ha : DE X a wa) (he : ∀ whole, isTrue a X.env whole = (do let v ← whole; standAt a.pos; holding [v] (truthy v)) := by intro _; rfl) : DT X a (bZ wa) :=
 PT.weak (zqx ha he) fun σ H Q ⟨ρ, S, Q', env, st, hw, post⟩ => ⟨ρ, S, _, env, st, hw, fun d S' v H' q e st' hd => by
  obtain ⟨b, h1, h2⟩ := zng q
  exact ⟨b, tru_ok st' hd h1, post b S' H' h2 e st'⟩⟩
theorem zri {K : W.Frag} (σ : L2.St) (H : Hp) (Q : Bool → Hp → Prop) (h : lT K (uJ ta tb) σ H Q) : tAnd (lT K ta) (lT K tb) σ H Q := by
 obtain ⟨ρ, S, Q', env, st, hw, post⟩ := h
 refine ⟨ρ, S, _, env, st, hw, fun c S1 H1 q e st1 => ?_⟩
 cases c with
 | true => exact ⟨ρ, S1, Q', env.ext e, st1, q, fun b S2 H2 q2 e2 st2 => post b S2 H2 q2 (e.trans e2) st2⟩
 | false => exact post false S1 H1 q e st1
theorem zvq {K : W.Frag} (σ : L2.St) (H : Hp) (Q : Bool → Hp → Prop) (h : lT K (yM ta tb) σ H Q) : tOr (lT K ta) (lT K tb) σ H Q := by
 obtain ⟨ρ, S, Q', env, st, hw, post⟩ := h
 refine ⟨ρ, S, _, env, st, hw, fun c S1 H1 q e st1 => ?_⟩
 cases c with
 | false => exact ⟨ρ, S1, Q', env.ext e, st1, q, fun b S2 H2 q2 e2 st2 => post b S2 H2 q2 (e.trans e2) st2⟩
 | true => exact post true S1 H1 q e st1
theorem oC (ha : DT X a ta) : DW X (.BoolOp .And [a] pos) ta := zux ha
theorem fK (ha : DT X a ta) : DW X (.BoolOp .Or [a] pos) ta := zyb ha
theorem rS (ha : DT X a ta) (hb : DW X (.BoolOp .And (b :: rest) pos) tb) : DW X (.BoolOp .And (a :: b :: rest) pos) (uJ ta tb) := PW.weak (zyc ha hb) zri
theorem iM (ha : DT X a ta) (hb : DW X (.BoolOp .Or (b :: rest) pos) tb) : DW X (.BoolOp .Or (a :: b :: rest) pos) (yM ta tb) := PW.weak (zaar ha hb) zvq
theorem jX (h : DW X a ta) : DT X a ta := h _
theorem cD (ha : DT X a ta) : DT X (.UnaryOp .Not a pos) (eN ta) :=
 PT.weak (zyd ha) fun σ H Q ⟨ρ, S, Q', env, st, hw, post⟩ => ⟨ρ, S, _, env, st, hw, fun c S1 H1 q e st1 => post (!c) S1 H1 q e st1⟩
noncomputable def kW (a b : WE) : WE := fun ρ S Q => a ρ S fun x S1 => match x with
 | .bl true => b ρ S1 Q
 | .bl false => Q (.bl false) S1
 | _ => False
noncomputable def zvr (a b : WE) : WE := fun ρ S Q => a ρ S fun x S1 => match x with
 | .bl true => Q (.bl true) S1
 | .bl false => b ρ S1 Q
 | _ => False
noncomputable def zer (a : WE) : WE := fun ρ S Q => a ρ S fun x S1 => match x with
 | .bl c => Q (.bl !c) S1
 | _ => False
theorem oT {op} (h : DE X a wa) : DE X (.BoolOp op [a] pos) wa := zye h
theorem oU (ha : DE X a wa) (hb : DE X (.BoolOp .And (b :: rest) pos) wb) : DE X (.BoolOp .And (a :: b :: rest) pos) (kW wa wb) :=
 PE.weak (zyf ha hb) fun σ H Q ⟨ρ, S, Q', env, st, hw, post⟩ => ⟨ρ, S, _, env, st, hw, fun d S1 v H1 q e st1 hd => by
  cases d with
  | bl c =>
    cases (show v = .bl c from hd)
    cases c with
    | true => exact ⟨true, rfl, ρ, S1, Q', env.ext e, st1, q, fun d2 S2 v2 H2 q2 e2 st2 hd2 => post d2 S2 v2 H2 q2 (e.trans e2) st2 hd2⟩
    | false => exact ⟨false, rfl, post (.bl false) S1 _ H1 q e st1 rfl⟩
  | _ => exact (show False from q).elim⟩
theorem zabf (ha : DE X a wa) (hb : DE X (.BoolOp .Or (b :: rest) pos) wb) : DE X (.BoolOp .Or (a :: b :: rest) pos) (zvr wa wb) :=
 PE.weak (zaau ha hb) fun σ H Q ⟨ρ, S, Q', env, st, hw, post⟩ => ⟨ρ, S, _, env, st, hw, fun d S1 v H1 q e st1 hd => by
  cases d with
  | bl c =>
    cases (show v = .bl c from hd)
    cases c with
    | false => exact ⟨false, rfl, ρ, S1, Q', env.ext e, st1, q, fun d2 S2 v2 H2 q2 e2 st2 hd2 => post d2 S2 v2 H2 q2 (e.trans e2) st2 hd2⟩
    | true => exact ⟨true, rfl, post (.bl true) S1 _ H1 q e st1 rfl⟩
  | _ => exact (show False from q).elim⟩
theorem zrj (ha : DE X a wa) : DE X (.UnaryOp .Not a pos) (zer wa) :=
 PE.weak (zyg ha) fun σ H Q ⟨ρ, S, Q', env, st, hw, post⟩ => ⟨ρ, S, _, env, st, hw, fun d S1 v H1 q e st1 hd => by
  cases d with
  | bl c =>
    cases (show v = .bl c from hd)
    exact ⟨c, rfl, post (.bl !c) S1 _ H1 q e st1 rfl⟩
  | _ => exact (show False from q).elim⟩
end
noncomputable def aO : WA := fun _ S Q => Q [] S
noncomputable def aE (a : WE) (r : WA) : WA := fun ρ S Q => a ρ S fun x S1 => r ρ S1 fun xs S2 => Q (x :: xs) S2
noncomputable def oV (t : WA) : WE := fun ρ S Q => t ρ S fun ds S1 => ds.length ≤ 1000 ∧ Q (.tup ds) S1
noncomputable def zf3 (t : WA) : WE := fun ρ S Q => t ρ S fun ds S1 => ds.length ≤ 1000 ∧ Q (.lst ds) S1
noncomputable def wZ (t : WA) : WE := fun ρ S Q => t ρ S fun ds S1 => ds.length ≤ 1000 ∧ ∀ p, S1 p = none → Q (.ref p) (cB S1 p (.lst ds))
theorem zbv {n : Nat} (h : n ≤ 1000) : n ≤ sizeLine := Nat.le_of_lt (zo9 h)
section
variable {X : Cx} {e : Expr} {es : List Expr} {we : WE} {wr : WA} {pos : Pos}
theorem aI : DA X [] aO := PA.weak zfu fun σ H Q ⟨ρ, S, Q', env, st, hw, post⟩ => post [] S [] H hw (Ext.refl H) st dR
theorem aB (ha : DE X e we) (hr : DA X es wr) (hs : starEach (e :: es) X.env = (false, eval e X.env) :: starEach es X.env := by rfl) : DA X (e :: es) (aE we wr) :=
 PA.weak (qI ha hr hs) fun σ H Q ⟨ρ, S, Q', env, st, hw, post⟩ => ⟨ρ, S, _, env, st, hw, fun d S1 v H1 q e st1 hd =>
  ⟨ρ, S1, _, env.ext e, st1, q, fun ds S2 vs H2 q2 e2 st2 hds => post (d :: ds) S2 (v :: vs) H2 q2 (e.trans e2) st2 (dE (dJ e2 _ _ hd) hds)⟩⟩
theorem gG {x1} (h : DA X es wr) : DE X (.Tuple es x1 pos) (oV wr) :=
 PE.weak (zq3 h) fun σ H Q ⟨ρ, S, Q', env, st, hw, post⟩ => ⟨ρ, S, _, env, st, hw, fun ds S1 vs H1 q e st1 hds => by
  obtain ⟨hl, q⟩ := q
  refine ⟨by rw [bX hds]; exact zbv hl, fun p hp => ?_⟩
  have sm := fP hp (.tup vs)
  exact post (.tup ds) S1 (.ref p) _ q (e.trans (bF sm)) (st1.same sm) ⟨p, vs, rfl, .inl bP, cA (bF sm) _ _ hds⟩⟩
theorem Inv.freeze {pins : List (Addr × Obj)} {σ : L2.St} {H : Hp} {s : Shared} {a : Addr} {xs : List V} (I : Inv X pins σ H s) (h : H a = some (.lst xs)) :
 ∃ o, Inv X pins σ (upd H a (.frz o (.lst xs))) s := by
 obtain ⟨z, its, n, r, e⟩ := (show gI X.prog X.w H s.heap a (.lst xs) from I.hok a _ h)
 refine ⟨{ cls := .type "list", data := .seq its.toArray n }, I.un (h' := s.heap) (t' := s.toks) ⟨fun b o q _ _ _ => q, fun b o q _ _ _ => ⟨_, q⟩, fun b o q n _ => ?_, fun b o q _ => ⟨_, q⟩, fun b ys q => ?_, fun b o u q => ?_, fun b ps q => ⟨#[], ?_⟩⟩ ?_⟩
 · rw [bD (fun z => by rw [z, h] at n; cases n)]; exact n
 · rw [bD (mK q h (by intro z; cases z))]; exact q
 · rw [bD (mK q h (by intro z; cases z))]; exact q
 · rw [bD (mK q h (by intro z; cases z)), Array.append_empty]; exact q
 · intro b u q
   by_cases hb : b = a
   · subst hb
     rw [bP] at q
     cases q
     exact ⟨e, z, its, n, r, e⟩
   · rw [bD hb] at q
     refine (I.hok b u q).stay (fun c w _ hc => hc) (fun c hc => ?_) fun c ys hc => ?_
     · rw [bD (mK hc h (by intro z; cases z))]; exact hc
     · rw [bD (mK hc h (by intro z; cases z))]; exact hc
theorem PE.freeze {e : Expr} {t : TE} (h : PE X e t) : PE X e (fun σ H Q => t σ H fun v H1 => ∃ a xs, v = .ref a ∧ H1 a = some (.lst xs) ∧ ∀ o, Q v (upd H1 a (.frz o (.lst xs)))) := by
 intro pins s σ H Q I hw
 refine thn (h pins s σ H _ I hw) fun u s1 ⟨v, H1, I1, r1, a, xs, ev, ha, q⟩ => ?_
 obtain ⟨o, I2⟩ := Inv.freeze I1 ha
 exact ⟨v, _, I2, r1, q o⟩
theorem xA {H : Hp} {p : Addr} {xs : List V} {o : Obj} (hp : H p = none) : eW H (upd (upd H p (.lst xs)) p (.frz o (.lst xs))) := by
 rw [zuu]; exact fP hp _
theorem vI (h : DA X es wr) : DE X (.List es pos) (zf3 wr) :=
 PE.weak (PE.freeze (zq4 h)) fun σ H Q ⟨ρ, S, Q', env, st, hw, post⟩ => ⟨ρ, S, _, env, st, hw, fun ds S1 vs H1 q e st1 hds => by
  obtain ⟨hl, q⟩ := q
  refine ⟨by rw [bX hds]; exact zbv hl, fun p hp => ⟨p, vs, rfl, bP, fun o => ?_⟩⟩
  have sm : eW H1 (upd (upd H1 p (.lst vs)) p (.frz o (.lst vs))) := xA hp
  exact post (.lst ds) S1 (.ref p) _ q (e.trans (bF sm)) (st1.same sm) ⟨p, o, vs, rfl, bP, cA (bF sm) _ _ hds⟩⟩
theorem tN (h : DA X es wr) : DE X (.List es pos) (wZ wr) :=
 PE.weak (zq4 h) fun σ H Q ⟨ρ, S, Q', env, st, hw, post⟩ => ⟨ρ, S, _, env, st, hw, fun ds S1 vs H1 q e st1 hds => by
  obtain ⟨hl, q⟩ := q
  refine ⟨by rw [bX hds]; exact zbv hl, fun p hp => ?_⟩
  have sm := fP hp (.lst vs)
  exact post (.ref p) _ (.ref p) _ (q p (st1.free hp)) (e.trans (bF sm)) (st1.put (bF sm) ⟨vs, bP, cA (bF sm) _ _ hds⟩) rfl⟩
noncomputable def zy1 (w : WE) : WE := fun ρ S Q => w ρ S fun d S1 => match d with
 | .ref a => match S1 a with
   | some (.lst ds) => Q (.lst ds) (zaz S1 a)
   | _ => False
 | _ => False
theorem zy2 (h : DE X e we) : DE X e (zy1 we) :=
 PE.weak (PE.freeze h) fun σ H Q ⟨ρ, S, Q', env, st, hw, post⟩ => ⟨ρ, S, _, env, st, hw, fun d S1 v H1 q e st1 hd => by
  cases d with
  | ref a =>
    cases (show v = .ref a from hd)
    dsimp only at q
    split at q
    · rename_i ds hs
      obtain ⟨vs, h1, h2⟩ := st1 a _ hs
      refine ⟨a, vs, rfl, h1, fun o => ?_⟩
      have ex : Ext H1 (upd H1 a (.frz o (.lst vs))) :=
       ⟨fun b zs q => by rw [bD (mK q h1 (by intro z; cases z))]; exact q, fun b o u q => by rw [bD (mK q h1 (by intro z; cases z))]; exact q⟩
      refine post (.lst ds) _ (.ref a) _ q (e.trans ex) (fun b ob hb => ?_) ⟨a, o, vs, rfl, bP, cA ex _ _ h2⟩
      unfold zaz at hb
      by_cases hba : b = a
      · rw [if_pos hba] at hb; cases hb
      · rw [if_neg hba] at hb
        exact (st1 b ob hb).same ex fun u hu => by rw [bD hba]; exact hu
    · exact q.elim
  | _ => exact (show False from q).elim⟩
end
noncomputable def aY : WS := fun D ρ S => D.nx ρ S
noncomputable def aS (a b : WS) : WS := fun D ρ S => a { D with nx := b D } ρ S
noncomputable def cI (i : Nat) (w : WE) : WS := fun D ρ S => w ρ S fun d S1 => D.nx (ρ.set i (some d)) S1
noncomputable def bA (w : WE) : WS := fun D ρ S => w ρ S D.rt
noncomputable def eO (c : WT) (a b : WS) : WS := fun D ρ S => c ρ S fun t S1 => if t = true then a D ρ S1 else b D ρ S1
noncomputable def mL (w : WE) : WS := fun D ρ S => w ρ S fun _ S1 => D.nx ρ S1
noncomputable def wNo : WS := fun _ _ _ => False
section
variable {X : Cx} {st : Stmt} {rest : List Stmt} {a b : WS} {e : Expr} {we : WE} {pos : Pos}
theorem aP : DSs X [] aY := PSs.weak zuy fun D σ H ⟨ρ, S, D', env, st, hw, dn⟩ => dn.nx ρ S σ H hw (Ext.refl H) env st
theorem zrk {K : W.Frag} (D : Ends) (σ : L2.St) (H : Hp) (h : lS K (aS a b) D σ H) : tSeq (lS K a) (lS K b) D σ H := by
 obtain ⟨ρ, S, D', env, st, hw, dn⟩ := h
 exact ⟨ρ, S, { D' with nx := b D' }, env, st, hw, ⟨fun ρ1 S1 σ1 H1 q e env1 st1 => ⟨ρ1, S1, D', env1, st1, q, dn.ext e⟩, dn.rt, dn.bk, dn.ct⟩⟩
theorem aG (h1 : DS X st a) (h2 : DSs X rest b) : DSs X (st :: rest) (aS a b) := PSs.weak (zqn h1 h2) zrk
theorem aH (h1 : DS X st a) : DSs X [st] a := zuz h1
theorem zig : DS X st wNo := fun _ _ _ _ _ _ h => by obtain ⟨_, _, _, _, _, z, _⟩ := h; exact z.elim
theorem bB {i : Nat} {x : Str} {pos' : Pos} (hN : X.N.Nodup) (he : DE X e we) (hi : X.N[i]? = some x := by rfl) (hx : Loc X.env.scope x := by first | exact Or.inl rfl | exact Or.inr rfl) (hs : swapsWith e (some (.Name x pos')) pos.line X.env = pure false := by rfl)
 (hf : X.fn x = true ∨ X.env.scope.names.lookup x = some .local := by first | exact .inl rfl | exact .inr rfl | assumption) : DS X (.Assign [.Name x pos'] e pos) (cI i we) :=
 PS.weak (zqq hN hi hx he hs hf) fun D σ H ⟨ρ, S, D', env, st, hw, dn⟩ => ⟨ρ, S, _, env, st, hw, fun d S1 v H1 q e st1 hd => dn.nx _ S1 _ H1 q e ((env.ext e).set hd) st1⟩
theorem aM (he : DE X e we) : DS X (.Return (some e) pos) (bA we) :=
 PS.weak (zqo he) fun D σ H ⟨ρ, S, D', env, st, hw, dn⟩ => ⟨ρ, S, _, env, st, hw, fun d S1 v H1 q e st1 hd => dn.rt d S1 v H1 q e st1 hd⟩
theorem bG {c : Expr} {as bs : List Stmt} {tc : WT} (hc : DT X c tc) (ha : DSs X as a) (hb : DSs X bs b) : DS X (.If c as bs pos) (eO tc a b) :=
 PS.weak (zxh hc ha hb) fun D σ H ⟨ρ, S, D', env, st, hw, dn⟩ => ⟨ρ, S, _, env, st, hw, fun t S1 H1 q e st1 => by
  cases t with
  | true => exact ⟨ρ, S1, D', env.ext e, st1, q, dn.ext e⟩
  | false => exact ⟨ρ, S1, D', env.ext e, st1, q, dn.ext e⟩⟩
theorem gJ (he : DE X e we) (hs : swapsWith e none pos.line X.env = pure false := by rfl) : DS X (.Expr e pos) (mL we) :=
 PS.weak (zu0 he hs) fun D σ H ⟨ρ, S, D', env, st, hw, dn⟩ => ⟨ρ, S, _, env, st, hw, fun d S1 v H1 q e st1 hd => dn.nx ρ S1 σ H1 q e (env.ext e) st1⟩
end
noncomputable def whl (c : WT) (b : WS) (D : Dn) : Nat → Ev → aN → Prop
 | 0, _, _ => False
 | n + 1, ρ, S => c ρ S fun t S1 => if t = true then b { D with nx := whl c b D n, ct := whl c b D n, bk := D.nx } ρ S1 else D.nx ρ S1
noncomputable def zbw (c : WT) (b : WS) : WS := fun D ρ S => ∃ n, whl c b D n ρ S
theorem zlq {K : W.Frag} {c : WT} {b : WS} (D : Ends) (σ : L2.St) (H : Hp) (h : lS K (zbw c b) D σ H) : zqr (lT K c) (lS K b) D σ H := by
 obtain ⟨ρ, S, D', env, st, ⟨n, hw⟩, dn⟩ := h
 refine ⟨fun m σ1 H1 => ∃ ρ1 S1, EnvOk K H1 ρ1 σ1 ∧ cG K H1 S1 ∧ Ext H H1 ∧ whl c b D' m ρ1 S1, ⟨n, ρ, S, env, st, Ext.refl H, hw⟩, ?_⟩
 rintro m σ1 H1 ⟨ρ1, S1, env1, st1, e1, hw1⟩
 cases m with
 | zero => exact hw1.elim
 | succ m =>
   refine ⟨ρ1, S1, _, env1, st1, hw1, fun t S2 H2 q e2 st2 => ?_⟩
   cases t with
   | true =>
     refine ⟨fun σ3 H3 => ∃ ρ3 S3, EnvOk K H3 ρ3 σ3 ∧ cG K H3 S3 ∧ Ext H H3 ∧ whl c b D' m ρ3 S3, fun σ3 H3 w3 => ⟨m, Nat.lt_succ_self m, w3⟩, ?_⟩
     refine ⟨ρ1, S2, _, env1.ext e2, st2, q, ⟨?_, ?_, ?_, ?_⟩⟩
     · exact fun ρ3 S3 σ3 H3 q3 e3 env3 st3 => ⟨ρ3, S3, env3, st3, (e1.trans e2).trans e3, q3⟩
     · exact fun d S3 v H3 q3 e3 st3 hd => dn.rt d S3 v H3 q3 ((e1.trans e2).trans e3) st3 hd
     · exact fun ρ3 S3 σ3 H3 q3 e3 env3 st3 => dn.nx ρ3 S3 σ3 H3 q3 ((e1.trans e2).trans e3) env3 st3
     · exact fun ρ3 S3 σ3 H3 q3 e3 env3 st3 => ⟨ρ3, S3, env3, st3, (e1.trans e2).trans e3, q3⟩
   | false => exact dn.nx ρ1 S2 σ1 H2 q (e1.trans e2) (env1.ext e2) st2
theorem zih {X : Cx} {c : Expr} {body : List Stmt} {tc : WT} {tb : WS} {pos : Pos} (hp : PassesOwn (model X.prog X.w) X.A X.env X.xe) (hc : DT X c tc) (hb : DSs X body tb) : DS X (.While c body [] pos) (zbw tc tb) :=
 PS.weak (zqs hp hc hb) zlq
noncomputable def dL (i : Nat) (b : WS) (D : Dn) : List Dv → Ev → aN → Prop
 | [], ρ, S => D.nx ρ S
 | x :: xs, ρ, S => b { D with nx := dL i b D xs, ct := dL i b D xs, bk := D.nx } (ρ.set i (some x)) S
noncomputable def roL : Dv → Option (List Dv)
 | .lst ds => some ds
 | .scr ns => some (ns.map .int)
 | _ => none
noncomputable def goL (o : Option (List Dv)) (Q : List Dv → Prop) : Prop := match o with
 | some ds => Q ds
 | none => False
noncomputable def za0 (i : Nat) (src : WE) (b : WS) : WS := fun D ρ S => src ρ S fun d S1 => goL (roL d) fun xs => dL i b D xs ρ S1
theorem yN {K : W.Frag} {H : Hp} {d : Dv} {v : V} {ds : List Dv} (hd : gN K H d v) (e : roL d = some ds) : ∃ a vs, v = .ref a ∧ SqR K H a vs ∧ bM K H ds vs := by
 cases d with
 | lst xs =>
   cases e
   obtain ⟨a, o, vs, h1, h2, h3⟩ := (show ∃ a o vs, v = .ref a ∧ H a = some (.frz o (.lst vs)) ∧ bM K H ds vs from hd)
   exact ⟨a, vs, h1, .inl ⟨o, h2⟩, h3⟩
 | scr ns =>
   cases e
   obtain ⟨a, h1, h2⟩ := (show ∃ a, v = .ref a ∧ SqR K H a (ns.map V.int) from hd)
   exact ⟨a, _, h1, h2, yL ns⟩
 | _ => cases e
theorem jY {o : Option (List Dv)} {Q : List Dv → Prop} (h : goL o Q) : ∃ ds, o = some ds ∧ Q ds := by
 cases o with
 | none => exact h.elim
 | some ds => exact ⟨ds, rfl, h⟩
theorem iX {α : Type} {xs : List α} {i : Nat} {x : α} (h : xs[i]? = some x) : xs.drop i = x :: xs.drop (i + 1) := by
 obtain ⟨h1, h2⟩ := List.getElem?_eq_some_iff.mp h
 rw [List.drop_eq_getElem_cons h1, h2]
inductive LoopAt (K : W.Frag) (H1 : Hp) (p : Ev → aN → Prop) (σ2 : L2.St) (H2 : Hp) : Prop
 | mk (ρ2 : Ev) (S2 : aN) (env : EnvOk K H2 ρ2 σ2) (st : cG K H2 S2) (e : Ext H1 H2) (q : p ρ2 S2) : LoopAt K H1 p σ2 H2
theorem zrl {K : W.Frag} {i : Nat} {src : WE} {b : WS} (D : Ends) (σ : L2.St) (H : Hp) (h : lS K (za0 i src b) D σ H) : zu2 (zqu K (lE K src)) (zbq i) (lS K b) D σ H := by
 obtain ⟨ρ, S, D', env, st, hw, dn⟩ := h
 refine ⟨ρ, S, _, env, st, hw, fun d S1 v H1 q e st1 hd => ?_⟩
 obtain ⟨ds, hds, q⟩ := jY q
 obtain ⟨a, vs, rfl, hq, hv⟩ := yN hd hds
 refine ⟨a, rfl, ⟨vs, hq.sq⟩, ?_⟩
 refine zqv (K := K) (a := a) (xs := vs) (fun j σ2 H2 => LoopAt K H1 (dL i b D' (ds.drop j)) σ2 H2) ⟨ρ, S1, env.ext e, st1, Ext.refl _, q⟩ (fun j σ2 H2 _ ⟨_, _, _, _, e2, _⟩ => (e2.sqR hq).sq) ?_ ?_
 · rintro j x σ2 H2 hx ⟨ρ2, S2, env2, st2, e2, q2⟩
   obtain ⟨y, hy, dy⟩ := mY hv hx
   rw [iX hy] at q2
   have dy' := dJ e2 _ _ dy
   refine ⟨ρ2.set i (some y), S2, _, env2.set dy', st2, q2, ⟨?_, ?_, ?_, ?_⟩⟩
   · exact fun ρ3 S3 σ3 H3 q3 e3 env3 st3 => ⟨ρ3, S3, env3, st3, e2.trans e3, q3⟩
   · exact fun d S3 v H3 q3 e3 st3 hd => dn.rt d S3 v H3 q3 ((e.trans e2).trans e3) st3 hd
   · exact fun ρ3 S3 σ3 H3 q3 e3 env3 st3 => dn.nx ρ3 S3 σ3 H3 q3 ((e.trans e2).trans e3) env3 st3
   · exact fun ρ3 S3 σ3 H3 q3 e3 env3 st3 => ⟨ρ3, S3, env3, st3, e2.trans e3, q3⟩
 · rintro σ2 H2 ⟨ρ2, S2, env2, st2, e2, q2⟩
   rw [List.drop_eq_nil_of_le (by rw [bX hv]; exact Nat.le_refl _)] at q2
   exact dn.nx ρ2 S2 σ2 H2 q2 (e.trans e2) env2 st2
theorem qJ {X : Cx} {i : Nat} {x : Str} {iter : Expr} {body : List Stmt} {src : WE} {tb : WS} {pos px : Pos} (hp : PassesOwn (model X.prog X.w) X.A X.env X.xe) (hN : X.N.Nodup) (hi : DE X iter src) (hb : DSs X body tb) (hc : X.calm = true := by rfl)
 (hix : X.N[i]? = some x := by rfl) (hx : Loc X.env.scope x := by first | exact Or.inl rfl | exact Or.inr rfl) (hf : X.fn x = true ∨ X.env.scope.names.lookup x = some .local := by first | exact .inl rfl | exact .inr rfl | assumption)
 (hs : ∀ x, foldedSetIterable iter X.env x = pure x := by intro _; rfl) : DS X (.For (.Name x px) iter body [] pos) (za0 i src tb) :=
 PS.weak (zbr hp hc (wT hi) (mQ hN hix hx hf) hb hs) zrl
noncomputable def gK (i : Nat) (b : WS) (D : Dn) : Nat → Int → Ev → aN → Prop
 | 0, _, ρ, S => D.nx ρ S
 | n + 1, k, ρ, S => b { D with nx := gK i b D n (k + 1), ct := gK i b D n (k + 1), bk := D.nx } (ρ.set i (some (.int k))) S
noncomputable def zrm (l : List Dv) (Q : Int → Prop) : Prop := match l with
 | [.int j] => (-(2 ^ 62) ≤ j ∧ j < 2 ^ 62) ∧ Q j
 | _ => False
noncomputable def zvs (l : List Dv) (Q : Int → Int → Prop) : Prop := match l with
 | [.int i, .int j] => (-(2 ^ 62) ≤ i ∧ i < 2 ^ 62 ∧ -(2 ^ 62) ≤ j ∧ j < 2 ^ 62) ∧ Q i j
 | _ => False
noncomputable def qK (i : Nat) (t : WA) (b : WS) : WS := fun D ρ S => t ρ S fun l S1 => zrm l fun j => gK i b D j.toNat 0 ρ S1
theorem zii {l : List Dv} {Q : Int → Prop} (h : zrm l Q) : ∃ j, l = [.int j] ∧ (-(2 ^ 62) ≤ j ∧ j < 2 ^ 62) ∧ Q j := by
 unfold zrm at h
 split at h
 · exact ⟨_, rfl, h⟩
 · exact h.elim
theorem zrn {l : List Dv} {Q : Int → Int → Prop} (h : zvs l Q) : ∃ i j, l = [.int i, .int j] ∧ (-(2 ^ 62) ≤ i ∧ i < 2 ^ 62 ∧ -(2 ^ 62) ≤ j ∧ j < 2 ^ 62) ∧ Q i j := by
 unfold zvs at h
 split at h
 · exact ⟨_, _, rfl, h⟩
 · exact h.elim
theorem zro {K : W.Frag} {i : Nat} {b : WS} {D' : Dn} {D : Ends} {σ : L2.St} {H H1 : Hp} {ρ : Ev} {S : aN} {lo : Int} {n : Nat} (dn : DnOk K H D' D) (e : Ext H H1) (env : EnvOk K H1 ρ σ) (st : cG K H1 S) (q : gK i b D' n lo ρ S) :
 ∃ W : Nat → Nat → L2.St → Hp → Prop, (∃ m, W 0 m σ H1) ∧ ∀ i' m σ H, W i' m σ H →
   ((Itr lo n).stop i' H ∧ D.nx σ H) ∨ ((Itr lo n).go i' H ∧ ∃ N : L2.St → Hp → Prop, (∀ σ' H', N σ' H' → ∃ m', m' < m ∧ W (i' + 1) m' σ' H') ∧ ∀ x H', (Itr lo n).yld i' H x H' → zbq i x σ H' fun σ2 H2 => lS K b { D with nx := N, ct := N, bk := D.nx } σ2 H2) := by
 refine zoy (lo := lo) (n := n) (fun j σ2 H2 => LoopAt K H1 (gK i b D' (n - j) (lo + j)) σ2 H2) ⟨ρ, S, env, st, Ext.refl _, by simpa using q⟩ ?_ ?_
 · rintro j σ2 H2 hj ⟨ρ2, S2, env2, st2, e2, q2⟩
   have hn : n - j = (n - (j + 1)) + 1 := by omega
   have hz : lo + j + 1 = lo + ((j + 1 : Nat) : Int) := by omega
   rw [hn] at q2
   refine ⟨ρ2.set i (some (.int (lo + j))), S2, _, env2.set (d := .int (lo + j)) (v := .int (lo + j)) rfl, st2, q2, ⟨?_, ?_, ?_, ?_⟩⟩
   · exact fun ρ3 S3 σ3 H3 q3 e3 env3 st3 => ⟨ρ3, S3, env3, st3, e2.trans e3, hz ▸ q3⟩
   · exact fun d S3 v H3 q3 e3 st3 hd => dn.rt d S3 v H3 q3 ((e.trans e2).trans e3) st3 hd
   · exact fun ρ3 S3 σ3 H3 q3 e3 env3 st3 => dn.nx ρ3 S3 σ3 H3 q3 ((e.trans e2).trans e3) env3 st3
   · exact fun ρ3 S3 σ3 H3 q3 e3 env3 st3 => ⟨ρ3, S3, env3, st3, e2.trans e3, hz ▸ q3⟩
 · rintro σ2 H2 ⟨ρ2, S2, env2, st2, e2, q2⟩
   rw [Nat.sub_self] at q2
   exact dn.nx ρ2 S2 σ2 H2 q2 (e.trans e2) env2 st2
theorem zbx {K : W.Frag} {H : Hp} {j : Int} {vs : List V} (h : bM K H [.int j] vs) : vs = [.int j] := by
 obtain ⟨v, r, rfl, h2, h3⟩ := (show ∃ v r, vs = v :: r ∧ gN K H (.int j) v ∧ bM K H [] r from h)
 cases (show v = .int j from h2); cases (show r = [] from h3); rfl
theorem zrp {K : W.Frag} {H : Hp} {i j : Int} {vs : List V} (h : bM K H [.int i, .int j] vs) : vs = [.int i, .int j] := by
 obtain ⟨v, r, rfl, h2, h3⟩ := (show ∃ v r, vs = v :: r ∧ gN K H (.int i) v ∧ bM K H [.int j] r from h)
 cases (show v = .int i from h2); rw [zbx h3]
theorem pI {X : Cx} {i : Nat} {x : Str} {a : Expr} {body : List Stmt} {t : WA} {tb : WS} {pos px pc pr : Pos} (hp : PassesOwn (model X.prog X.w) X.A X.env X.xe) (hN : X.N.Nodup) (hm : X.mg "range" = none) (ha : DA X [a] t) (hb : DSs X body tb) (hc : X.calm = true := by rfl)
 (hg : Gl X "range" := by rfl) (hix : X.N[i]? = some x := by rfl) (hx : Loc X.env.scope x := by first | exact Or.inl rfl | exact Or.inr rfl) (hf : X.fn x = true ∨ X.env.scope.names.lookup x = some .local := by first | exact .inl rfl | exact .inr rfl | assumption)
 (hst : starEach [a] X.env = [(false, eval a X.env)] := by rfl) (hs : ∀ x, foldedSetIterable (.Call (.Name "range" pr) [a] [] pc) X.env x = pure x := by intro _; rfl) : DS X (.For (.Name x px) (.Call (.Name "range" pr) [a] [] pc) body [] pos) (qK i t tb) :=
 PS.weak (zbr hp hc (zek hg hm ha hst) (mQ hN hix hx hf) hb hs) fun D σ H ⟨ρ, S, D', env, st, hw, dn⟩ => ⟨ρ, S, _, env, st, hw, fun ds S1 vs H1 q e st1 hd => by
  obtain ⟨j, rfl, ⟨h1, h2⟩, q⟩ := zii q
  rw [zbx hd]
  exact ⟨j, rfl, h1, h2, zro dn e (env.ext e) st1 q⟩⟩
noncomputable abbrev Ds := List Dv → aN → QE → Prop
inductive lSp (K : W.Frag) (sp : Ds) (vs : List V) (H : Hp) (Q : VK) (E : XK) : Prop
 | mk (ds : List Dv) (S : aN) (Q' : QE) (hds : bM K H ds vs) (st : cG K H S) (hs : sp ds S Q') (post : ∀ d S' v H', Q' d S' → Ext H H' → cG K H' S' → gN K H' d v → Q v H') : lSp K sp vs H Q E
noncomputable def bE (sp : Ds) (t : WA) : WE := fun ρ S Q => t ρ S fun ds S1 => sp ds S1 Q
theorem zpc {K : W.Frag} {sp : Ds} {t : WA} (σ : L2.St) (H : Hp) (Q : VK) (h : lE K (bE sp t) σ H Q) : zq5 (lSp K sp) [] E0 (lA K t) σ H Q := by
 obtain ⟨ρ, S, Q', env, st, hw, post⟩ := h
 refine ⟨ρ, S, _, env, st, hw, fun ds S1 vs H1 q e st1 hds => ?_⟩
 show lSp K sp (vs ++ []) H1 Q E0
 rw [List.append_nil]
 exact ⟨ds, S1, Q', hds, st1, q, fun d S2 v H2 q2 e2 st2 hd => post d S2 v H2 q2 (e.trans e2) st2 hd⟩
section
variable {X : Cx} {k : Nat} {f : Addr} {fd : FuncData} {ps : List Str} {sp : Ds} {x : Str} {p pos : Pos} {e : Expr} {es : List Expr} {t : WA}
structure Has (P : Program) (w : World) (K : W.Frag) (mg : Str → Option Value) (base : Heap) (k : Nat) (x : Str) (ps : List Str) (sp : Ds) : Prop where
 ex : ∃ (f : Addr) (fd : FuncData), FnOk P w K mg base CX0 k f fd ps (lSp K sp) ∧ mg x = some (.ref f) ∧ W.keepIn K (.ref f) = true ∧ iB K fd ps []
theorem aR (G : Has X.prog X.w X.K X.mg X.base k x ps sp) (hr : Room k X.A) (ha : DA X (e :: es) t) (hg : Gl X x := by rfl) (hdb : (x == ("__debug__" : Str)) = false := by decide)
 (he : starEach (e :: es) X.env = (false, eval e X.env) :: starEach es X.env := by rfl) (hpl : (backTo pos (starEach es X.env)).any (·.1) = false := by rfl) : DE X (.Call (.Name x p) (e :: es) [] pos) (bE sp t) := by
 obtain ⟨f, fd, F, hm, hk, hb⟩ := G.ex
 exact PE.weak (zva F hr hg hm hk hb .nil znd ha hdb he hpl) zpc
end
noncomputable def cK (n : Nat) (ds : List Dv) : Ev := ds.map some ++ List.replicate (n - ds.length) none
theorem zlr {K : W.Frag} {H : Hp} {N : List Str} {ds : List Dv} {vs : List V} (h : bM K H ds vs) : EnvOk K H (cK N.length ds) (L2.start N vs) := by
 have hl := bX h
 refine ⟨by unfold cK L2.start; simp [hl], fun i d q => ?_⟩
 unfold cK at q
 unfold L2.start
 by_cases hi : i < ds.length
 · rw [List.getElem?_append_left (by simpa using hi), List.getElem?_map] at q
   cases e : ds[i]? with
   | none => rw [e] at q; cases q
   | some d' =>
     rw [e] at q
     have q' : d' = d := Option.some.inj (Option.some.inj q)
     subst q'
     obtain ⟨v, h1, h2⟩ := nF h e
     refine ⟨v, ?_, h2⟩
     rw [List.getElem?_append_left (by rw [List.length_map, hl]; exact hi), List.getElem?_map, h1]
     rfl
 · rw [List.getElem?_append_right (by simpa using hi), List.getElem?_replicate] at q
   split at q <;> cases q
section
variable {P : Program} {w : World} {K : W.Frag} {mg : Str → Option Value} {base : Heap}
noncomputable abbrev cxD (P : Program) (w : World) (K : W.Frag) (mg : Str → Option Value) (base : Heap) (N : List Str) (qual : Str) (st : Stmt) (f : Addr) (cdv : Value) (A : Around) (outer : List Env) (s : Shared) (H : Hp) (E : XK) : Cx :=
 (cxOf CX0 P w K mg base N qual (aK st) f cdv A outer s H E).nox
theorem zxs {x : Str} {st : Stmt} {f : Addr} {fd : FuncData} {N ps : List Str} {k : Nat} {sp : Ds} {ws : WS} (F : Fun K x x st f fd) (S : FnScope N ps (aK st))
 (len : ∀ ds S Q, sp ds S Q → ds.length = ps.length)
 (link : ∀ (cdv : Value) (A : Around) (outer : List Env) (s : Shared) (H : Hp) (E : XK), Room k (cxD P w K mg base N x st f cdv A outer s H E).A → DSs (cxD P w K mg base N x st f cdv A outer s H E) (aQ st) ws)
 (ok : ∀ ds S Q, sp ds S Q → ws { nx := fun _ S' => Q .non S', rt := Q } (cK N.length ds) S) : FnOk P w K mg base CX0 (k + 1) f fd ps (lSp K sp) := by
 refine F.ok S (fun vs H Q E h => ?_) (fun cdv A outer s H vs Q E hr h => ?_)
 · obtain ⟨ds, S', Q', h1, _, h2, _⟩ := h
   rw [bX h1]
   exact len ds S' Q' h2
 · obtain ⟨ds, S', Q', h1, h2, h3, h4⟩ := h
   refine ⟨_, link cdv A outer s H E hr, cK N.length ds, S', _, zlr h1, h2, ok ds S' Q' h3, ⟨?_, ?_, ?_, ?_⟩⟩
   · exact fun ρ S2 σ H2 q e _ st => h4 .non S2 .non H2 q e st rfl
   · exact fun d S2 v H2 q e st hd => h4 d S2 v H2 q e st hd
   · exact fun _ _ _ _ q _ _ _ => q
   · exact fun _ _ _ _ q _ _ _ => q
theorem bW {x : Str} {st : Stmt} {f : Addr} {fd : FuncData} {N ps : List Str} {k : Nat} {sp : Ds} {ws : WS} (F : Fun K x x st f fd) (hm : mg x = some (.ref f)) (hb : iB K fd ps []) (S : FnScope N ps (aK st))
 (len : ∀ ds S Q, sp ds S Q → ds.length = ps.length)
 (link : ∀ (cdv : Value) (A : Around) (outer : List Env) (s : Shared) (H : Hp) (E : XK), Room k (cxD P w K mg base N x st f cdv A outer s H E).A → DSs (cxD P w K mg base N x st f cdv A outer s H E) (aQ st) ws)
 (ok : ∀ ds S Q, sp ds S Q → ws { nx := fun _ S' => Q .non S', rt := Q } (cK N.length ds) S) : Has P w K mg base (k + 1) x ps sp :=
 ⟨f, fd, zxs F S len link ok, hm, F.kp, hb⟩
end
theorem zni {P : List Value → Prop} (h : P []) (us : List Value) (hl : us.length = 0) : P us := by
 cases us with
 | nil => exact h
 | cons a t => cases hl
theorem znj {P : List Value → Prop} (h : ∀ a, P [a]) (us : List Value) (hl : us.length = 1) : P us := by
 cases us with
 | nil => cases hl
 | cons a t => exact zni (P := fun t => P (a :: t)) (h a) t (Nat.succ.inj hl)
theorem znk {P : List Value → Prop} (h : ∀ a b, P [a, b]) (us : List Value) (hl : us.length = 2) : P us := by
 cases us with
 | nil => cases hl
 | cons a t => exact znj (P := fun t => P (a :: t)) (h a) t (Nat.succ.inj hl)
theorem znl {P : List Value → Prop} (h : ∀ a b c, P [a, b, c]) (us : List Value) (hl : us.length = 3) : P us := by
 cases us with
 | nil => cases hl
 | cons a t => exact znk (P := fun t => P (a :: t)) (h a) t (Nat.succ.inj hl)
theorem zvt {P : List Value → Prop} (h : ∀ a b c d, P [a, b, c, d]) (us : List Value) (hl : us.length = 4) : P us := by
 cases us with
 | nil => cases hl
 | cons a t => exact znl (P := fun t => P (a :: t)) (h a) t (Nat.succ.inj hl)
noncomputable def mT : Nat := 1000000
theorem rT {n : Nat} (h : n ≤ mT) : n ≤ sizeLine := Nat.le_trans h (by unfold mT; decide)
noncomputable def fO : F2 := fun _ x y => match x, y with
 | .int i, .int j => some (.int (i + j))
 | .str a, .str b => if a.length + b.length ≤ mT then some (.str (a ++ b)) else none
 | .lst a, .lst b => if a.length + b.length ≤ mT then some (.lst (a ++ b)) else none
 | _, _ => none
noncomputable def zf4 : F2 := fun _ x y => match x, y with
 | .int i, .int j => some (.int (i - j))
 | _, _ => none
noncomputable instance (i j : Int) : Decidable (IntMulOk i j) := by unfold IntMulOk; infer_instance
noncomputable instance (i j : Int) : Decidable (zoz i j) := by unfold zoz; infer_instance
@[irreducible] noncomputable def zij (i j : Int) : Bool := decide (IntMulOk i j)
@[irreducible] noncomputable def zik (i j : Int) : Bool := decide (zoz i j)
theorem zil {i j : Int} (h : zyl i j) : zij i j = true := by unfold zij; exact decide_eq_true h.ok
theorem zrq {i j : Int} (h : zij i j = true) : IntMulOk i j := by unfold zij at h; exact of_decide_eq_true h
theorem zrr {i j : Int} (h : zoz i j) : zik i j = true := by unfold zik; exact decide_eq_true h
theorem zrs {i j : Int} (h : zik i j = true) : zoz i j := by unfold zik at h; exact of_decide_eq_true h
noncomputable def zls (x : Str) (n : Int) : Str := ⟨(List.replicate n.toNat x.cps).foldl (· ++ ·) #[]⟩
noncomputable def mD : F2 := fun _ x y => match x, y with
 | .int i, .int j => if zij i j = true then some (.int (i * j)) else none
 | .str a, .int n => if 2 ≤ n ∧ n ≤ 1000 ∧ 1 ≤ a.length ∧ a.length ≤ 1000 ∧ (zls a n).length ≤ mT then some (.str (zls a n)) else none
 | _, _ => none
noncomputable def gL : F2 := fun _ x y => match x, y with
 | .int i, .int j => if 0 < j then some (.int (i % j)) else none
 | _, _ => none
noncomputable def zrt : F2 := fun _ x y => match x, y with
 | .int i, .int j => if zik i j = true then some (.int (i / j)) else none
 | _, _ => none
section
variable {X : Cx}
theorem fQ {K : W.Frag} {H : Hp} {i : Int} {v : V} (h : gN K H (.int i) v) : v = .int i := h
theorem yO {K : W.Frag} {H : Hp} {i : Str} {v : V} (h : gN K H (.str i) v) : v = .str i := h
theorem zru {K : W.Frag} {H : Hp} {i : Bool} {v : V} (h : gN K H (.bl i) v) : v = .bl i := h
theorem yP {K : W.Frag} {H : Hp} {ds : List Dv} {v : V} (h : gN K H (.lst ds) v) : ∃ a o vs, v = .ref a ∧ H a = some (.frz o (.lst vs)) ∧ bM K H ds vs := h
theorem znm {K : W.Frag} {H : Hp} {ds : List Dv} {v : V} (h : gN K H (.tup ds) v) : ∃ a vs, v = .ref a ∧ wY K H a vs ∧ bM K H ds vs := h
theorem qL {K : W.Frag} {H : Hp} {ds : List Dv} {v : V} (h : gN K H (.tup ds) v) : ∃ a vs, v = .ref a ∧ SqT K H a vs ∧ bM K H ds vs := let ⟨a, vs, e, h1, h2⟩ := znm h; ⟨a, vs, e, h1.sq, h2⟩
theorem zf5 {K : W.Frag} {H : Hp} {ns : List Int} {v : V} (h : gN K H (.scr ns) v) : ∃ a, v = .ref a ∧ SqR K H a (ns.map V.int) := h
theorem Inv.frzL {pins : List (Addr × Obj)} {σ : L2.St} {H : Hp} {s : Shared} {a : Addr} {o : Obj} {xs : List V} (I : Inv X pins σ H s) (h : H a = some (.frz o (.lst xs))) :
 xs.length ≤ sizeLine ∧ ∃ (its : List Value) (n : Nat), bU xs its ∧ s.heap.get? a = some { cls := .type "list", data := .seq its.toArray n } := by
 obtain ⟨_, z, its, n, r, e⟩ := (show gI X.prog X.w H s.heap a (.frz o (.lst xs)) from I.hok a _ h)
 exact ⟨z, its, n, r, e⟩
theorem zvu {pins : List (Addr × Obj)} {σ : L2.St} {H : Hp} {s : Shared} {its : List Value} {vs : List V} {ds : List Dv} {Q : VK} {t' : Nat} (I : Inv X pins σ H s) (r : bU vs its) (hz : vs.length ≤ sizeLine) (hd : bM X.K H ds vs)
 (q : ∀ z H', eW H H' → gN X.K H' (.lst ds) z → Q z H') : EP X pins σ Q (.ref s.heap.objs.size) { s with heap := s.heap.push { cls := .type "list", data := .seq its.toArray }, toks := t' } := by
 have I1 := I.lnew (t' := t') r hz
 obtain ⟨o, I2⟩ := Inv.freeze I1 bP
 have sm : eW H (upd (upd H s.heap.objs.size (.lst vs)) s.heap.objs.size (.frz o (.lst vs))) := xA I.fresh
 exact ⟨.ref s.heap.objs.size, _, I2, rfl, q _ _ sm ⟨_, o, vs, rfl, bP, cA (bF sm) _ _ hd⟩⟩
theorem dU : qH X (binaryOp .Add) (rD X.K fO) := by
 intro pins s σ H x y v u Q I rx ry ⟨S, dx, dy, d, st, hx, hy, hf, q⟩
 cases dx with
 | int i =>
   cases dy with
   | int j =>
     cases (fQ hx); cases (fQ hy); cases hf
     exact zym pins s σ H _ _ v u Q I rx ry ⟨i, j, rfl, rfl, q _ H (eW.refl H) rfl⟩
   | _ => cases hf
 | str i =>
   cases dy with
   | str j =>
     cases (yO hx); cases (yO hy)
     simp only [fO] at hf
     split at hf
     · rename_i hl
       cases hf
       exact zlh pins s σ H _ _ v u Q I rx ry ⟨i, j, rfl, rfl, rT hl, q _ H (eW.refl H) rfl⟩
     · cases hf
   | _ => cases hf
 | lst xs =>
   cases dy with
   | lst ys =>
     obtain ⟨a, o, vs, rfl, h1, h2⟩ := yP hx
     obtain ⟨b, o', us, rfl, h3, h4⟩ := yP hy
     simp only [fO] at hf
     split at hf
     · rename_i hl
       cases hf
       cases rx
       cases ry
       obtain ⟨z, its, n, r, e⟩ := Inv.frzL I h1
       obtain ⟨z2, its2, n2, r2, e2⟩ := Inv.frzL I h3
       have l1 := r.length
       have l2 := r2.length
       have l3 := bX h2
       have l4 := bX h4
       have hl' := rT hl
       refine PySem.P.add_list e e2 ?_ (by rw [List.size_toArray, List.size_toArray]; omega)
       have ea : its.toArray ++ its2.toArray = (its ++ its2).toArray := by simp
       rw [ea]
       exact zvu I (r.append r2) (by rw [List.length_append]; omega) (jF h2 h4) q
     · cases hf
   | _ => cases hf
 | _ => cases hf
theorem zby : qH X (binaryOp .Sub) (rD X.K zf4) := by
 intro pins s σ H x y v u Q I rx ry ⟨S, dx, dy, d, st, hx, hy, hf, q⟩
 cases dx with
 | int i =>
   cases dy with
   | int j =>
     cases (fQ hx); cases (fQ hy); cases hf
     exact zyn pins s σ H _ _ v u Q I rx ry ⟨i, j, rfl, rfl, q _ H (eW.refl H) rfl⟩
   | _ => cases hf
 | _ => cases hf
theorem zvv : qH X (binaryOp .Mult) (rI IntMulOk fun i j => .int (i * j)) := opI fun _ _ _ _ _ _ _ hc q => mul_int q hc
theorem mM : qH X (binaryOp .Mult) (rD X.K mD) := by
 intro pins s σ H x y v u Q I rx ry ⟨S, dx, dy, d, st, hx, hy, hf, q⟩
 cases dx with
 | int i =>
   cases dy with
   | int j =>
     cases (fQ hx); cases (fQ hy)
     simp only [mD] at hf
     split at hf
     · rename_i hc
       cases hf
       exact zvv pins s σ H _ _ v u Q I rx ry ⟨i, j, rfl, rfl, zrq hc, q _ H (eW.refl H) rfl⟩
     · cases hf
   | _ => cases hf
 | str a =>
   cases dy with
   | int n =>
     cases (yO hx); cases (fQ hy)
     simp only [mD] at hf
     split at hf
     · rename_i hc
       obtain ⟨h1, h2, h3, h4, h5⟩ := hc
       cases hf
       obtain ⟨t, rfl⟩ := rx
       obtain ⟨t', rfl⟩ := ry
       have hn1 : ¬ n < 1 := by omega
       have hn2 : (n == 1 || a.length == 0) = false := by
        rw [Bool.or_eq_false_iff]
        exact ⟨beq_false_of_ne (by omega), beq_false_of_ne (by omega)⟩
       have hmul : a.length * n.toNat ≤ 1000 * 1000 := Nat.mul_le_mul h4 (by omega)
       refine PySem.P.mul_str ?_ (fun _ _ => ?_) (fun _ _ => ?_) ?_
       · rw [decide_eq_false (by omega), decide_eq_false (by omega)]; rfl
       · have : (2 ^ 63 - 1 : Int) / n ≥ 1000 := by
          refine Int.le_ediv_of_mul_le (by omega) ?_
          omega
         omega
       · have hbig : (1000 * 1000 : Nat) ≤ sizeLine := by decide
         exact decide_eq_false (Nat.not_lt.mpr (Nat.le_trans hmul hbig))
       · rw [if_neg hn1, if_neg (by rw [hn2]; exact Bool.false_ne_true)]
         exact ⟨rT h5, ⟨.str (zls a n), H, I.tok _, ⟨_, rfl⟩, q _ H (eW.refl H) rfl⟩⟩
     · cases hf
   | _ => cases hf
 | _ => cases hf
theorem eX : qH X (binaryOp .Mod) (rD X.K gL) := by
 intro pins s σ H x y v u Q I rx ry ⟨S, dx, dy, d, st, hx, hy, hf, q⟩
 cases dx with
 | int i =>
   cases dy with
   | int j =>
     cases (fQ hx); cases (fQ hy)
     simp only [gL] at hf
     split at hf
     · rename_i hc
       cases hf
       exact zyo pins s σ H _ _ v u Q I rx ry ⟨i, j, rfl, rfl, hc, q _ H (eW.refl H) rfl⟩
     · cases hf
   | _ => cases hf
 | _ => cases hf
theorem zxt : qH X (binaryOp .FloorDiv) (rD X.K zrt) := by
 intro pins s σ H x y v u Q I rx ry ⟨S, dx, dy, d, st, hx, hy, hf, q⟩
 cases dx with
 | int i =>
   cases dy with
   | int j =>
     cases (fQ hx); cases (fQ hy)
     simp only [zrt] at hf
     split at hf
     · rename_i hc
       cases hf
       exact zu3 pins s σ H _ _ v u Q I rx ry ⟨i, j, rfl, rfl, zrs hc, q _ H (eW.refl H) rfl⟩
     · cases hf
   | _ => cases hf
 | _ => cases hf
noncomputable def oLt : F2b := fun _ x y => match x, y with
 | .int i, .int j => some (decide (i < j))
 | _, _ => none
noncomputable def oGt : F2b := fun _ x y => match x, y with
 | .int i, .int j => some (decide (j < i))
 | _, _ => none
noncomputable def oGe : F2b := fun _ x y => match x, y with
 | .int i, .int j => some (decide (j ≤ i))
 | _, _ => none
theorem zlt {op : CmpOp} {p : Int → Int → Bool} (ho : qH X (compareOp op) (rI0 fun i j => .bl (p i j))) {f : F2b} (hf : f = fun _ x y => match x, y with
 | .int i, .int j => some (p i j)
 | _, _ => none) : qH X (compareOp op) (rD X.K (mS f)) := by
 subst hf
 intro pins s σ H x y v u Q I rx ry ⟨S, dx, dy, d, st, hx, hy, hf, q⟩
 cases dx with
 | int i =>
   cases dy with
   | int j =>
     cases (fQ hx); cases (fQ hy); cases hf
     exact ho pins s σ H _ _ v u Q I rx ry ⟨i, j, rfl, rfl, q _ H (eW.refl H) rfl⟩
   | _ => cases hf
 | _ => cases hf
theorem zrv : qH X (compareOp .Lt) (rD X.K (mS oLt)) := zlt zaa4 rfl
theorem zim : qH X (compareOp .Gt) (rD X.K (mS oGt)) := zlt zaa5 rfl
theorem v_ge : qH X (compareOp .GtE) (rD X.K (mS oGe)) := zlt zaa6 rfl
noncomputable def isN : Dv → Bool
 | .non => true
 | _ => false
noncomputable def oIs : F2b := fun _ x y => match y with
 | .non => some (isN x)
 | _ => none
noncomputable def oW : F2b := fun _ x y => match y with
 | .non => some (!isN x)
 | _ => none
theorem zrw {K : W.Frag} {H : Hp} {d : Dv} {v : V} (h : gN K H d v) : decide (v = .non) = isN d := by
 cases d with
 | non => cases (show v = .non from h); rfl
 | bl b => cases (show v = .bl b from h); rfl
 | int b => cases (show v = .int b from h); rfl
 | str b => cases (show v = .str b from h); rfl
 | tup ds => obtain ⟨a, vs, rfl, _⟩ := qL h; rfl
 | lst ds => obtain ⟨a, _, vs, rfl, _⟩ := yP h; rfl
 | scr ds => obtain ⟨a, rfl, _⟩ := zf5 h; rfl
 | ref a => cases (show v = .ref a from h); rfl
theorem zpd : qH X (compareOp .Is) (rD X.K (mS oIs)) := by
 intro pins s σ H x y v u Q I rx ry ⟨S, dx, dy, d, st, hx, hy, hf, q⟩
 cases dy with
 | non =>
   cases (show y = .non from hy); cases hf
   exact zyq pins s σ H _ _ v u Q I rx ry ⟨rfl, by rw [zrw hx]; exact q _ H (eW.refl H) rfl⟩
 | _ => cases hf
theorem zbh : qH X (compareOp .IsNot) (rD X.K (mS oW)) := by
 intro pins s σ H x y v u Q I rx ry ⟨S, dx, dy, d, st, hx, hy, hf, q⟩
 cases dy with
 | non =>
   cases (show y = .non from hy); cases hf
   exact zu4 pins s σ H _ _ v u Q I rx ry ⟨rfl, by rw [zrw hx]; exact q _ H (eW.refl H) rfl⟩
 | _ => cases hf
noncomputable def jU (S : aN) : Dv → Option (List Dv)
 | .lst ds => some ds
 | .scr ns => some (ns.map .int)
 | .ref a => match S a with
   | some (.lst ds) => some ds
   | _ => none
 | _ => none
theorem vJ {K : W.Frag} {H : Hp} {S : aN} {d : Dv} {v : V} {ds : List Dv} (st : cG K H S) (hd : gN K H d v) (e : jU S d = some ds) : ∃ a vs, v = .ref a ∧ uR K H a vs ∧ bM K H ds vs := by
 cases d with
 | lst xs =>
   cases e
   obtain ⟨a, o, vs, h1, h2, h3⟩ := yP hd
   exact ⟨a, vs, h1, .inl (.inr ⟨o, h2⟩), h3⟩
 | scr ns =>
   cases e
   obtain ⟨a, h1, h2⟩ := zf5 hd
   exact ⟨a, _, h1, h2.sq, yL ns⟩
 | ref a =>
   cases (show v = .ref a from hd)
   have e2 : (match S a with
    | some (.lst ds) => some ds
    | _ => none) = some ds := e
   split at e2
   · rename_i xs hs
     cases e2
     obtain ⟨vs, h1, h2⟩ := st a _ hs
     exact ⟨a, vs, rfl, .inl (.inl h1), h2⟩
   · cases e2
 | _ => cases e
noncomputable def bI : F2 := fun S x y => match y with
 | .int i => match x with
   | .tup ds => atI ds i
   | .str z => if z.length ≤ mT then (atI z.cps.toList i).map fun c => .str ⟨#[c]⟩ else none
   | d => (jU S d).bind fun ds => atI ds i
 | _ => none
theorem zin {K : W.Frag} {H : Hp} {ds : List Dv} {vs : List V} {i : Int} {d : Dv} (h : bM K H ds vs) (e : atI ds i = some d) : ∃ v, atI vs i = some v ∧ gN K H d v := by
 unfold atI at e ⊢
 rw [bX h]
 cases q : ixN ds.length i with
 | none => rw [q] at e; cases e
 | some j =>
   rw [q] at e
   obtain ⟨v, h1, h2⟩ := nF h (show ds[j]? = some d from e)
   exact ⟨v, h1, h2⟩
theorem aW : IxR X (rD X.K bI) := by
 intro value slice pins s σ H x y v u Q I rx ry ⟨S, dx, dy, d, st, hx, hy, hf, q⟩ hs
 cases dy with
 | int i =>
   cases (fQ hy)
   have onL : ∀ ds, jU S dx = some ds → atI ds i = some d → wpAny (model X.prog X.w) X.A (subscriptTail value slice v u) (EP X pins σ Q) X.xe s := fun ds h1 h2 => by
    obtain ⟨a, vs, rfl, h3, h4⟩ := vJ st hx h1
    obtain ⟨z, h5, h6⟩ := zin h4 h2
    exact zvj value slice pins s σ H _ _ v u Q I rx ry ⟨a, vs, i, z, rfl, rfl, h3, h5, q z H (eW.refl H) h6⟩ hs
   have onB : ∀ o : Option (List Dv), o = jU S dx → (o.bind fun ds => atI ds i) = some d → wpAny (model X.prog X.w) X.A (subscriptTail value slice v u) (EP X pins σ Q) X.xe s := fun o e h => by
    cases o with
    | none => cases h
    | some ds => exact onL ds e.symm h
   cases dx with
   | tup ds =>
     obtain ⟨a, vs, rfl, h1, h2⟩ := qL hx
     obtain ⟨z, h3, h4⟩ := zin h2 hf
     exact zyu value slice pins s σ H _ _ v u Q I rx ry ⟨a, vs, i, z, rfl, rfl, h1, h3, q z H (eW.refl H) h4⟩ hs
   | str z =>
     cases (yO hx)
     simp only [bI] at hf
     split at hf
     · rename_i hl
       cases e : atI z.cps.toList i with
       | none => rw [e] at hf; cases hf
       | some c =>
         rw [e] at hf
         cases hf
         exact zyv value slice pins s σ H _ _ v u Q I rx ry ⟨z, i, c, rfl, rfl, rT hl, e, q _ H (eW.refl H) rfl⟩ hs
     · cases hf
   | lst ds => exact onB _ rfl hf
   | scr ds => exact onB _ rfl hf
   | ref a => exact onB _ rfl hf
   | non => exact onB _ rfl hf
   | bl b => exact onB _ rfl hf
   | int b => exact onB _ rfl hf
 | _ => cases hf
noncomputable def rQ (xs : List Dv) (lo hi : Option Int) : List Dv := (xs.drop (HT.sIx xs.length 0 lo)).take (HT.sIx xs.length xs.length hi - HT.sIx xs.length 0 lo)
noncomputable def kX (w : Option WE) : Ev → aN → (Option Int → aN → Prop) → Prop := fun ρ S Q => match w with
 | none => Q none S
 | some w => w ρ S fun d S1 => match d with
   | .int i => Q (some i) S1
   | _ => False
noncomputable def wSl (e : WE) (lo hi : Option WE) : WE := fun ρ S Q => e ρ S fun d S1 => kX lo ρ S1 fun l S2 => kX hi ρ S2 fun h S3 => goL (jU S3 d) fun ds => Q (.lst (rQ ds l h)) S3
inductive lO (K : W.Frag) (w : Ev → aN → (Option Int → aN → Prop) → Prop) (σ : L2.St) (H : Hp) (Q : Option Int → Hp → Prop) : Prop
 | mk (ρ : Ev) (S : aN) (Q' : Option Int → aN → Prop) (env : EnvOk K H ρ σ) (st : cG K H S) (hw : w ρ S Q') (post : ∀ d S' H', Q' d S' → Ext H H' → cG K H' S' → Q d H') : lO K w σ H Q
theorem xB : PO X none (lO X.K (kX none)) := by
 intro pins s σ H Q I ⟨ρ, S, Q', env, st, hw, post⟩
 exact zvf pins s σ H Q I (post none S H hw (Ext.refl H) st)
theorem gW {e : Expr} {w : WE} (h : DE X e w) : PO X (some e) (lO X.K (kX (some w))) := by
 intro pins s σ H Q I ⟨ρ, S, Q', env, st, hw, post⟩
 refine zvg h pins s σ H Q I ⟨ρ, S, _, env, st, hw, fun d S1 v H1 q e1 st1 hd => ?_⟩
 cases d with
 | int i => exact ⟨i, hd, post (some i) S1 H1 q e1 st1⟩
 | _ => exact (show False from q).elim
noncomputable def rSlD (K : W.Frag) : V → Option Int → Option Int → Hp → VK → Prop := fun x lo hi H Q => ∃ a vs, x = .ref a ∧ uR K H a vs ∧ ∀ p o, H p = none → Q (.ref p) (upd (upd H p (.lst (zdg vs lo hi))) p (.frz o (.lst (zdg vs lo hi))))
theorem zy3 : SlR X (rSlD X.K) := by
 intro pins s σ H x v vl vu lo hi sl Q I rx hs pl pu ⟨a, vs, ex, hq, q⟩
 subst ex
 obtain ⟨T, id, h1, h2, h3⟩ := zvk pins s σ H (.ref a) v vl vu lo hi sl (fun v H1 => ∃ a xs, v = .ref a ∧ H1 a = some (.lst xs) ∧ ∀ o, Q v (upd H1 a (.frz o (.lst xs)))) I rx hs pl pu
  ⟨a, vs, rfl, hq, fun p hp => ⟨p, _, rfl, bP, fun o => q p o hp⟩⟩
 refine ⟨T, id, h1, h2, thn h3 fun u s1 ⟨z, H1, I1, r1, b, xs, ez, hb, q1⟩ => ?_⟩
 obtain ⟨o, I2⟩ := Inv.freeze I1 hb
 exact ⟨z, _, I2, r1, q1 o⟩
theorem zrx {K : W.Frag} {H : Hp} {ds : List Dv} {vs : List V} (h : bM K H ds vs) (lo hi : Option Int) : bM K H (rQ ds lo hi) (zdg vs lo hi) := by
 unfold rQ zdg
 rw [bX h]
 exact yK _ (zeq _ h)
theorem kY {e : Expr} {lo hi : Option Expr} {we : WE} {wl wh : Option WE} {pos p2 : Pos} (he : DE X e we) (hl : PO X lo (lO X.K (kX wl))) (hh : PO X hi (lO X.K (kX wh))) : DE X (.Subscript e (.Slice lo hi none p2) pos) (wSl we wl wh) :=
 PE.weak (zh9 zy3 he hl hh) fun σ H Q ⟨ρ, S, Q', env, st, hw, post⟩ => ⟨ρ, S, _, env, st, hw, fun d S1 v H1 q1 e1 st1 hd =>
  ⟨ρ, S1, _, env.ext e1, st1, q1, fun l S2 H2 q2 e2 st2 => ⟨ρ, S2, _, env.ext (e1.trans e2), st2, q2, fun h S3 H3 q3 e3 st3 => by
   obtain ⟨ds, hds, q⟩ := jY q3
   obtain ⟨a, vs, rfl, h1, h2⟩ := vJ st3 (dJ (e2.trans e3) _ _ hd) hds
   refine ⟨a, vs, rfl, h1, fun p o hp => ?_⟩
   have sm : eW H3 (upd (upd H3 p (.lst (zdg vs l h))) p (.frz o (.lst (zdg vs l h)))) := xA hp
   exact post (.lst (rQ ds l h)) S3 (.ref p) _ q ((e1.trans (e2.trans e3)).trans (bF sm)) (st3.same sm) ⟨p, o, _, rfl, bP, cA (bF sm) _ _ (zrx h2 l h)⟩⟩⟩⟩
end
mutual
noncomputable def dP : Dv → PyData
 | .non => .none
 | .bl b => .bool b
 | .int i => .int i
 | .str x => .str x
 | .tup ds => .tuple (mZ ds)
 | .lst ds => .list (mZ ds)
 | .scr ns => .list (ns.map .int)
 | .ref _ => .none
noncomputable def mZ : List Dv → List PyData
 | [] => []
 | d :: ds => dP d :: mZ ds
end
mutual
noncomputable def kE : Dv → Bool
 | .tup ds => iY ds
 | .lst ds => iY ds
 | .ref _ => false
 | _ => true
noncomputable def iY : List Dv → Bool
 | [] => true
 | d :: ds => kE d && iY ds
end
noncomputable def mE (d : Dv) : Bool := kE d && SeqAt.shaped (dP d)
noncomputable def wR (d e : Dv) : Bool := PyData.eqv (dP d) (dP e)
noncomputable def vK (S : aN) : Dv → Dv
 | .ref a => match S a with
   | some (.lst ds) => .lst ds
   | _ => .ref a
 | d => d
section
variable {X : Cx} {pins : List (Addr × Obj)} {σ : L2.St} {H : Hp} {s : Shared}
theorem zbz {h : Heap} : ∀ (ns : List Int) (us : List Value), bU (ns.map V.int) us → ∃ as, ReadsAll h us (ns.map PyData.int) as
 | [], us, r => by cases r; exact ⟨_, .nil⟩
 | n :: ns, us, r => by
   cases r with
   | cons r1 r2 =>
     obtain ⟨t, rfl⟩ := r1
     obtain ⟨as, q⟩ := zbz ns _ r2
     exact ⟨_, .cons (.int n t) q⟩
mutual
theorem pJ (I : Inv X pins σ H s) : ∀ (d : Dv) (v : V) (u : Value), kE d = true → gN X.K H d v → dG v u → ∃ as, Reads s.heap u (dP d) as
 | .non, v, u, _, h, r => by cases (show v = .non from h); cases r; exact ⟨_, .none⟩
 | .bl b, v, u, _, h, r => by cases (show v = .bl b from h); cases r; exact ⟨_, .bool b⟩
 | .int i, v, u, _, h, r => by cases (show v = .int i from h); obtain ⟨t, rfl⟩ := r; exact ⟨_, .int i t⟩
 | .str x, v, u, _, h, r => by cases (show v = .str x from h); obtain ⟨t, rfl⟩ := r; exact ⟨_, .str x t⟩
 | .tup ds, v, u, n, h, r => by
   obtain ⟨a, vs, rfl, h1, h2⟩ := (qL h)
   cases r
   obtain ⟨its, rv, ⟨o, e1, e2, k, e3⟩, _⟩ := I.tuple h1
   obtain ⟨as, q⟩ := tO I ds vs its n h2 rv
   exact ⟨as, .tuple e1 e2 e3 (by simpa using q)⟩
 | .lst ds, v, u, n, h, r => by
   obtain ⟨a, o, vs, rfl, h1, h2⟩ := (show ∃ a o vs, v = .ref a ∧ H a = some (.frz o (.lst vs)) ∧ bM X.K H ds vs from h)
   cases r
   obtain ⟨its, rv, ⟨o, k, e1, e2, _, e3⟩, _⟩ := I.list (.inl (.inr ⟨o, h1⟩))
   obtain ⟨as, q⟩ := tO I ds vs its n h2 rv
   exact ⟨_, .list e1 e2 e3 (by simpa using q)⟩
 | .scr ns, v, u, _, h, r => by
   obtain ⟨a, rfl, h1⟩ := (show ∃ a, v = .ref a ∧ SqR X.K H a (ns.map V.int) from h)
   cases r
   obtain ⟨its, rv, ⟨o, k, e1, e2, _, e3⟩, _⟩ := I.list h1.sq
   obtain ⟨as, q⟩ := zbz (h := s.heap) ns its rv
   exact ⟨_, .list e1 e2 e3 (by simpa using q)⟩
 | .ref a, v, u, n, h, r => by exact absurd (show false = true from n) Bool.false_ne_true
theorem tO (I : Inv X pins σ H s) : ∀ (ds : List Dv) (vs : List V) (us : List Value), iY ds = true → bM X.K H ds vs → bU vs us → ∃ as, ReadsAll s.heap us (mZ ds) as
 | [], vs, us, _, h, r => by cases (show vs = [] from h); cases r; exact ⟨_, .nil⟩
 | d :: ds, vs, us, n, h, r => by
   obtain ⟨v, rest, rfl, h2, h3⟩ := (show ∃ v r, vs = v :: r ∧ gN X.K H d v ∧ bM X.K H ds r from h)
   have n' : kE d = true ∧ iY ds = true := by simpa [iY] using n
   cases r with
   | cons r1 r2 =>
     obtain ⟨as, q⟩ := pJ I d v _ n'.1 h2 r1
     obtain ⟨bs, p⟩ := tO I ds rest _ n'.2 h3 r2
     exact ⟨_, .cons q p⟩
end
theorem nA (I : Inv X pins σ H s) {S : aN} (st : cG X.K H S) {d : Dv} {v : V} {u : Value} (n : kE (vK S d) = true) (hd : gN X.K H d v) (r : dG v u) : ∃ as, Reads s.heap u (dP (vK S d)) as := by
 cases d with
 | ref a =>
   cases (show v = .ref a from hd)
   have no : kE (.ref a) = true → False := fun z => absurd (show false = true from z) Bool.false_ne_true
   cases hs : S a with
   | none =>
     have e : vK S (.ref a) = .ref a := by simp only [vK, hs]
     rw [e] at n
     exact (no n).elim
   | some ob =>
     cases ob with
     | dic kvs =>
       have e : vK S (.ref a) = .ref a := by simp only [vK, hs]
       rw [e] at n
       exact (no n).elim
     | ins fs =>
       have e : vK S (.ref a) = .ref a := by simp only [vK, hs]
       rw [e] at n
       exact (no n).elim
     | lst ds =>
       have e : vK S (.ref a) = .lst ds := by simp only [vK, hs]
       rw [e] at n ⊢
       obtain ⟨vs, h1, h2⟩ := st a _ hs
       cases r
       obtain ⟨its, rv, ⟨o, k, e1, e2, _, e3⟩, _⟩ := I.list (.inl (.inl h1))
       obtain ⟨as, q⟩ := tO I ds vs its n h2 rv
       exact ⟨_, .list e1 e2 e3 (by simpa using q)⟩
 | _ => exact pJ I _ v u n hd r
end
noncomputable def iL : F2b := fun S x y => if (mE (vK S x) && mE (vK S y)) = true then some (wR (vK S x) (vK S y)) else none
noncomputable def pH : F2b := fun S x y => if (mE (vK S x) && mE (vK S y)) = true then some (!wR (vK S x) (vK S y)) else none
noncomputable def inP (xs : List PyData) (d : PyData) : Bool := xs.any fun y => PyData.eqv y d
noncomputable def seqP : Dv → Option (List PyData)
 | .lst ds => some (mZ ds)
 | .tup ds => some (mZ ds)
 | _ => none
noncomputable def oIn : F2b := fun S x y => if (mE x && mE (vK S y)) = true then (seqP (vK S y)).map fun xs => inP xs (dP x) else none
noncomputable def yQ : F2b := fun S x y => if (mE x && mE (vK S y)) = true then (seqP (vK S y)).map fun xs => !inP xs (dP x) else none
theorem jZ {d : Dv} (h : mE d = true) : kE d = true ∧ SeqAt.shaped (dP d) = true := by simpa [mE] using h
section
variable {X : Cx}
theorem gH (hu : X.A.units + 64 < cLine) : qH X (compareOp .Eq) (rD X.K (mS iL)) := by
 intro pins s σ H x y v u Q I rx ry ⟨S, dx, dy, d, st, hx, hy, hf, q⟩
 unfold mS iL at hf
 split at hf
 · rename_i hp
   obtain ⟨p1, p2⟩ := Bool.and_eq_true_iff.mp hp
   obtain ⟨n1, s1⟩ := jZ p1
   obtain ⟨n2, s2⟩ := jZ p2
   cases hf
   obtain ⟨as, r1⟩ := nA I st n1 hx rx
   obtain ⟨bs, r2⟩ := nA I st n2 hy ry
   exact SeqAt.compareEq_shaped r1 r2 s1 s2 hu ⟨.bl _, H, I, rfl, q _ H (eW.refl H) rfl⟩
 · cases hf
theorem oB (hu : X.A.units + 64 < cLine) : qH X (compareOp .NotEq) (rD X.K (mS pH)) := by
 intro pins s σ H x y v u Q I rx ry ⟨S, dx, dy, d, st, hx, hy, hf, q⟩
 unfold mS pH at hf
 split at hf
 · rename_i hp
   obtain ⟨p1, p2⟩ := Bool.and_eq_true_iff.mp hp
   obtain ⟨n1, s1⟩ := jZ p1
   obtain ⟨n2, s2⟩ := jZ p2
   cases hf
   obtain ⟨as, r1⟩ := nA I st n1 hx rx
   obtain ⟨bs, r2⟩ := nA I st n2 hy ry
   exact SeqAt.compareNe_shaped r1 r2 s1 s2 hu ⟨.bl _, H, I, rfl, q _ H (eW.refl H) rfl⟩
 · cases hf
theorem nG {xs : List PyData} {d : PyData} (h : d = .list xs ∨ d = .tuple xs) (hs : SeqAt.shaped d = true) : PyData.canLayAll0 xs = true ∧ PyData.depthAll xs ≤ 64 := by
 have h1 := SeqAt.canLay_of_shaped hs
 have h2 := SeqAt.depth_of_shaped hs
 rcases h with rfl | rfl
 · exact ⟨by simpa [PyData.canLay0] using h1, by simp only [PyData.depth] at h2; omega⟩
 · exact ⟨by simpa [PyData.canLay0] using h1, by simp only [PyData.depth] at h2; omega⟩
theorem zrz (hu : X.A.units + 128 < cLine) : qH X (compareOp .In) (rD X.K (mS oIn)) := by
 intro pins s σ H x y v u Q I rx ry ⟨S, dx, dy, d, st, hx, hy, hf, q⟩
 unfold mS oIn at hf
 split at hf
 · rename_i hp
   obtain ⟨p1, p2⟩ := Bool.and_eq_true_iff.mp hp
   obtain ⟨n1, s1⟩ := jZ p1
   obtain ⟨n2, s2⟩ := jZ p2
   obtain ⟨as, r1⟩ := pJ I _ _ _ n1 hx rx
   obtain ⟨bs, r2⟩ := nA I st n2 hy ry
   have d1 := SeqAt.depth_of_shaped s1
   generalize hz : vK S dy = z at r2 s2 hf
   cases z with
   | lst ds =>
     cases hf
     obtain ⟨c1, c2⟩ := nG (.inl rfl) s2
     exact SeqAt.in_list_reads r2 r1 c1 (SeqAt.canLay_of_shaped s1) (by have := Nat.min_le_left (PyData.depthAll (mZ ds)) (dP dx).depth; omega) ⟨.bl _, H, I, rfl, q _ H (eW.refl H) rfl⟩
   | tup ds =>
     cases hf
     obtain ⟨c1, c2⟩ := nG (.inr rfl) s2
     exact SeqAt.in_tuple_reads r2 r1 c1 (SeqAt.canLay_of_shaped s1) (by have := Nat.min_le_left (PyData.depthAll (mZ ds)) (dP dx).depth; omega) ⟨.bl _, H, I, rfl, q _ H (eW.refl H) rfl⟩
   | _ => cases hf
 · cases hf
theorem zvx (hu : X.A.units + 128 < cLine) : qH X (compareOp .NotIn) (rD X.K (mS yQ)) := by
 intro pins s σ H x y v u Q I rx ry ⟨S, dx, dy, d, st, hx, hy, hf, q⟩
 unfold mS yQ at hf
 split at hf
 · rename_i hp
   obtain ⟨p1, p2⟩ := Bool.and_eq_true_iff.mp hp
   obtain ⟨n1, s1⟩ := jZ p1
   obtain ⟨n2, s2⟩ := jZ p2
   obtain ⟨as, r1⟩ := pJ I _ _ _ n1 hx rx
   obtain ⟨bs, r2⟩ := nA I st n2 hy ry
   generalize hz : vK S dy = z at r2 s2 hf
   cases z with
   | lst ds =>
     cases hf
     obtain ⟨c1, c2⟩ := nG (.inl rfl) s2
     exact SeqAt.notIn_list_reads r2 r1 c1 (SeqAt.canLay_of_shaped s1) (by have := Nat.min_le_left (PyData.depthAll (mZ ds)) (dP dx).depth; omega) ⟨.bl _, H, I, rfl, q _ H (eW.refl H) rfl⟩
   | tup ds =>
     cases hf
     obtain ⟨c1, c2⟩ := nG (.inr rfl) s2
     exact SeqAt.notIn_tuple_reads r2 r1 c1 (SeqAt.canLay_of_shaped s1) (by have := Nat.min_le_left (PyData.depthAll (mZ ds)) (dP dx).depth; omega) ⟨.bl _, H, I, rfl, q _ H (eW.refl H) rfl⟩
   | _ => cases hf
 · cases hf
noncomputable abbrev Fn := aN → List Dv → Option Dv
noncomputable def kZ (f : Fn) (t : WA) : WE := fun ρ S Q => t ρ S fun ds S1 => go (f S1 ds) S1 Q
inductive rC (K : W.Frag) (f : Fn) (xs : List V) (H : Hp) (Q : VK) : Prop
 | mk (S : aN) (ds : List Dv) (d : Dv) (st : cG K H S) (hds : bM K H ds xs) (hf : f S ds = some d) (post : ∀ z H', eW H H' → gN K H' d z → Q z H') : rC K f xs H Q
theorem znn {K : W.Frag} {f : Fn} {t : WA} (σ : L2.St) (H : Hp) (Q : VK) (h : lE K (kZ f t) σ H Q) : tCB (rC K f) (lA K t) σ H Q := by
 obtain ⟨ρ, S, Q', env, st, hw, post⟩ := h
 refine ⟨ρ, S, _, env, st, hw, fun ds S1 vs H1 q e st1 hds => ?_⟩
 obtain ⟨d, hf, q⟩ := vH q
 exact ⟨S1, ds, d, st1, hds, hf, fun z H' sm dz => post d S1 z H' q (e.trans (bF sm)) (st1.same sm) dz⟩
section
variable {x : Str} {p pos : Pos} {e : Expr} {es : List Expr} {t : WA} {id T : String} {f : Fn}
theorem bJ (hc : nE X (.builtin id) (rC X.K f)) (hm : X.mg x = none) (hv : bootBuiltins x = some (.builtin id)) (ha : DA X (e :: es) t) (hg : Gl X x := by rfl) (hn : x ≠ "__name__" := by decide) (hdb : (x == ("__debug__" : Str)) = false := by decide)
 (he : starEach (e :: es) X.env = (false, eval e X.env) :: starEach es X.env := by rfl) (hpl : (backTo pos (starEach es X.env)).any (·.1) = false := by rfl) : DE X (.Call (.Name x p) (e :: es) [] pos) (kZ f t) :=
 PE.weak (zbt hc hg hm hv ha hn hdb he hpl) znn
theorem kG (hc : nE X (.type T) (rC X.K f)) (hm : X.mg x = none) (hv : bootBuiltins x = some (.type T)) (ha : DA X (e :: es) t) (hg : Gl X x := by rfl) (hn : x ≠ "__name__" := by decide) (hdb : (x == ("__debug__" : Str)) = false := by decide)
 (he : starEach (e :: es) X.env = (false, eval e X.env) :: starEach es X.env := by rfl) (hpl : (backTo pos (starEach es X.env)).any (·.1) = false := by rfl) : DE X (.Call (.Name x p) (e :: es) [] pos) (kZ f t) :=
 PE.weak (zo5 hc hg hm hv ha hn hdb he hpl) znn
end
theorem rV {K : W.Frag} {H : Hp} {d : Dv} {vs : List V} (h : bM K H [d] vs) : ∃ v, vs = [v] ∧ gN K H d v := by
 obtain ⟨v, r, rfl, h2, h3⟩ := (show ∃ v r, vs = v :: r ∧ gN K H d v ∧ bM K H [] r from h)
 cases (show r = [] from h3); exact ⟨v, rfl, h2⟩
noncomputable def dZ : Fn := fun S l => match l with
 | [.tup ds] => some (.int ds.length)
 | [.str z] => if z.length ≤ mT then some (.int z.length) else none
 | [d] => (jU S d).map fun ds => .int ds.length
 | _ => none
theorem eG : nE X (.builtin "len") (rC X.K dZ) := by
 intro pins s σ H xs us Q I r ⟨S, ds, d, st, hds, hf, q⟩
 have onB : ∀ (dx : Dv) (v : V) (o : Option (List Dv)), bM X.K H [dx] xs → o = jU S dx → (o.map fun ds => Dv.int ds.length) = some d → wpAny (model X.prog X.w) X.A (call (.builtin "len") us) (EP X pins σ Q) X.xe s := fun dx v o h1 e h => by
  cases o with
  | none => cases h
  | some zs =>
    obtain ⟨v, rfl, hv⟩ := rV h1
    obtain ⟨a, vs, rfl, h3, h4⟩ := vJ st hv e.symm
    cases h
    exact wU pins s σ H _ us Q I r ⟨a, vs, rfl, .inl h3, by rw [bX h4]; exact q _ H (eW.refl H) rfl⟩
 unfold dZ at hf
 split at hf
 · cases hf
   obtain ⟨v, rfl, hv⟩ := rV hds
   obtain ⟨a, vs, rfl, h1, h2⟩ := qL hv
   exact wU pins s σ H _ us Q I r ⟨a, vs, rfl, .inr h1, by rw [bX h2]; exact q _ H (eW.refl H) rfl⟩
 · split at hf
   · rename_i hl
     cases hf
     obtain ⟨v, rfl, hv⟩ := rV hds
     cases (yO hv)
     exact zfx pins s σ H _ us Q I r ⟨_, rfl, rT hl, q _ H (eW.refl H) rfl⟩
   · cases hf
 · exact onB _ .non _ hds rfl hf
 · cases hf
noncomputable def rK : Fn := fun S l => match l with
 | [.tup ds] => some (.lst ds)
 | [d] => (jU S d).map .lst
 | _ => none
theorem vL : nE X (.type "list") (rC X.K rK) := by
 intro pins s σ H xs us Q I r ⟨S, ds, d, st, hds, hf, q⟩
 have fin : ∀ (a : Addr) (vs : List V) (zs : List Dv), xs = [.ref a] → (uR X.K H a vs ∨ SqT X.K H a vs) → bM X.K H zs vs → d = .lst zs → wpAny (model X.prog X.w) X.A (call (.type "list") us) (EP X pins σ Q) X.xe s := fun a vs zs e h1 h2 h3 => by
  subst e h3
  refine thn (zfy pins s σ H _ us (fun v H1 => ∃ a xs, v = .ref a ∧ H1 a = some (.lst xs) ∧ ∀ o, Q v (upd H1 a (.frz o (.lst xs)))) I r ⟨a, vs, rfl, h1, fun l hl => ⟨l, vs, rfl, bP, fun o => ?_⟩⟩) fun u s1 ⟨z, H1, I1, r1, b, ys, ez, hb, q1⟩ => ?_
  · have sm : eW H (upd (upd H l (.lst vs)) l (.frz o (.lst vs))) := xA hl
    exact q _ _ sm ⟨l, o, vs, rfl, bP, cA (bF sm) _ _ h2⟩
  · obtain ⟨o, I2⟩ := Inv.freeze I1 hb
    exact ⟨z, _, I2, r1, q1 o⟩
 have onB : ∀ (dx : Dv) (o : Option (List Dv)), bM X.K H [dx] xs → o = jU S dx → (o.map Dv.lst) = some d → wpAny (model X.prog X.w) X.A (call (.type "list") us) (EP X pins σ Q) X.xe s := fun dx o h1 e h => by
  cases o with
  | none => cases h
  | some zs =>
    obtain ⟨v, rfl, hv⟩ := rV h1
    obtain ⟨a, vs, rfl, h3, h4⟩ := vJ st hv e.symm
    cases h
    exact fin a vs zs rfl (.inl h3) h4 rfl
 unfold rK at hf
 split at hf
 · cases hf
   obtain ⟨v, rfl, hv⟩ := rV hds
   obtain ⟨a, vs, rfl, h1, h2⟩ := qL hv
   exact fin a vs _ rfl (.inr h1) h2 rfl
 · exact onB _ _ hds rfl hf
 · cases hf
end
theorem zb0 {k : Nat} {A : Around} (r : Room k A) : A.units + 128 < cLine := by have := r.un; omega
noncomputable def xC (i : Nat) (ρ : Ev) (S : aN) (k : Ev → aN → Prop) : Prop := match ev? ρ i with
 | some (.ref p) => match S p with
   | some (.lst ds) => k (ρ.set i (some (.lst ds))) (zaz S p)
   | _ => False
 | _ => False
noncomputable def zes (i : Nat) (a : WS) : WS := fun D ρ S => a { D with nx := fun ρ1 S1 => xC i ρ1 S1 D.nx } ρ S
theorem EnvOk.known {K : W.Frag} {H : Hp} {ρ : Ev} {σ : L2.St} {i : Nat} {d : Dv} {v : V} (h : EnvOk K H ρ σ) (hi : σ[i]? = some (some v)) (hd : gN K H d v) : EnvOk K H (ρ.set i (some d)) σ := by
 refine ⟨by rw [List.length_set]; exact h.len, fun j e q => ?_⟩
 rw [List.getElem?_set] at q
 by_cases z : i = j
 · rw [if_pos z] at q
   subst z
   split at q
   · cases q; exact ⟨v, hi, hd⟩
   · cases q
 · rw [if_neg z] at q
   exact h.at_ j e q
theorem zpe {i : Nat} {ρ : Ev} {S : aN} {k : Ev → aN → Prop} (h : xC i ρ S k) : ∃ p ds, ev? ρ i = some (.ref p) ∧ S p = some (.lst ds) ∧ k (ρ.set i (some (.lst ds))) (zaz S p) := by
 unfold xC at h
 split at h
 · rename_i p hp
   split at h
   · rename_i ds hds; exact ⟨p, ds, hp, hds, h⟩
   · exact h.elim
 · exact h.elim
section
variable {X : Cx}
theorem PS.freeze {st : Stmt} {t : TS} (h : PS X st t) : PS X st (fun D σ H => t { D with nx := fun σ1 H1 => ∃ a xs, H1 a = some (.lst xs) ∧ ∀ o, D.nx σ1 (upd H1 a (.frz o (.lst xs))) } σ H) := by
 intro pins s σ H D I hw
 refine thn (h pins s σ H _ I hw) fun f s1 q => ?_
 cases f with
 | next =>
   obtain ⟨σ1, H1, I1, a, xs, ha, q⟩ := q
   obtain ⟨o, I2⟩ := Inv.freeze I1 ha
   exact ⟨σ1, _, I2, q o⟩
 | brk => exact q
 | cont => exact q
 | ret u => exact q
theorem zbi (i : Nat) {st : Stmt} {a : WS} (h : DS X st a) : DS X st (zes i a) :=
 PS.weak (PS.freeze h) fun D σ H ⟨ρ, S, D', env, st, hw, dn⟩ => ⟨ρ, S, _, env, st, hw, ⟨fun ρ1 S1 σ1 H1 q e env1 st1 => by
  obtain ⟨p, ds, h1, h2, q⟩ := zpe q
  obtain ⟨v, h3, h4⟩ := env1.at_ i _ (ev?_at h1)
  cases (show v = .ref p from h4)
  obtain ⟨vs, h5, h6⟩ := st1 p _ h2
  refine ⟨p, vs, h5, fun o => ?_⟩
  have ex : Ext H1 (upd H1 p (.frz o (.lst vs))) :=
   ⟨fun b zs q => by rw [bD (mK q h5 (by intro z; cases z))]; exact q, fun b o u q => by rw [bD (mK q h5 (by intro z; cases z))]; exact q⟩
  refine dn.nx _ _ σ1 _ q (e.trans ex) ((env1.ext ex).known h3 ⟨p, o, vs, rfl, bP, cA ex _ _ h6⟩) fun b ob hb => ?_
  unfold zaz at hb
  by_cases hba : b = p
  · rw [if_pos hba] at hb; cases hb
  · rw [if_neg hba] at hb
    exact (st1 b ob hb).same ex fun u hu => by rw [bD hba]; exact hu, dn.rt, dn.bk, dn.ct⟩⟩
noncomputable def zaf (S : aN) (d : Dv) (k : Addr → List Dv → Prop) : Prop := match d with
 | .ref p => match S p with
   | some (.lst ds) => k p ds
   | _ => False
 | _ => False
theorem yR {S : aN} {d : Dv} {k : Addr → List Dv → Prop} (h : zaf S d k) : ∃ p ds, d = .ref p ∧ S p = some (.lst ds) ∧ k p ds := by
 unfold zaf at h
 split at h
 · split at h
   · rename_i p _ ds hds; exact ⟨p, ds, rfl, hds, h⟩
   · exact h.elim
 · exact h.elim
noncomputable def one (l : List Dv) (k : Dv → Prop) : Prop := match l with
 | [x] => k x
 | _ => False
theorem xD {l : List Dv} {k : Dv → Prop} (h : one l k) : ∃ x, l = [x] ∧ k x := by
 unfold one at h
 split at h
 · exact ⟨_, rfl, h⟩
 · exact h.elim
noncomputable def yS (o : WE) (a : WA) : WE := fun ρ S Q => o ρ S fun d S1 => zaf S1 d fun _ _ => a ρ S1 fun l S2 => zaf S2 d fun p ds => one l fun x => ds.length < mT ∧ Q .non (cB S2 p (.lst (ds ++ [x])))
noncomputable def zy4 (o : WE) : WE := fun ρ S Q => o ρ S fun d S1 => zaf S1 d fun p ds => go ds.getLast? (cB S1 p (.lst ds.dropLast)) Q
theorem zdi {K : W.Frag} {H : Hp} {ds : List Dv} {vs : List V} (h : bM K H ds vs) : bM K H ds.dropLast vs.dropLast := by
 rw [List.dropLast_eq_take, List.dropLast_eq_take, bX h]
 exact yK _ h
section
variable {o e : Expr} {es : List Expr} {wo : WE} {wa : WA} {apos cpos : Pos}
theorem fR (ho : DE X o wo) (ha : DA X [e] wa) (hbase : attributeBase o "append" X.env (eval o X.env) = eval o X.env := by rfl)
 (hfew : ((backTo cpos (starEach [e] X.env)).all (fun x => !x.1) && (backToKw cpos (keywordEach [] X.env)).all (fun x => x.1.isSome)
   && decide ([e].length + ([] : List Keyword).length + (if ([] : List Keyword).isEmpty then 0 else 1) < 30)) = true := by rfl)
 (hline : (apos.endLine == cpos.line) = true := by rfl) (hs : starEach [e] X.env = (false, eval e X.env) :: starEach [] X.env := by rfl) (hplain : (backTo cpos (starEach [] X.env)).any (·.1) = false := by rfl) :
 DE X (.Call (.Attribute o "append" apos) [e] [] cpos) (yS wo wa) :=
 PE.weak (zq9 PySem.F.plainAttrs_list PySem.F.slot_list_append PySem.F.type_list_append zo6 ho ha hbase hfew hline hs hplain) fun σ H Q ⟨ρ, S, Q', env, st, hw, post⟩ => ⟨ρ, S, _, env, st, hw, fun d S1 v H1 q1 e1 st1 hd => by
  obtain ⟨p, ds, rfl, h1, q1⟩ := yR q1
  cases (show v = .ref p from hd)
  obtain ⟨vs, h2, h3⟩ := st1 p _ h1
  refine ⟨.inl ⟨rfl, vs, uR.of h2⟩, ρ, S1, _, env.ext e1, st1, q1, fun l S2 us H2 q2 e2 st2 hl => ?_⟩
  obtain ⟨p', ds', e', h4, q2⟩ := yR q2
  cases e'
  obtain ⟨x, rfl, hlen, q⟩ := xD q2
  obtain ⟨u, rfl, hu⟩ := rV hl
  obtain ⟨vs', h5, h6⟩ := st2 p _ h4
  have ex := znf (ys := vs' ++ [u]) h5
  refine ⟨p, vs', u, rfl, rfl, h5, by rw [bX h6]; exact Nat.lt_of_lt_of_le hlen (rT (Nat.le_refl _)), ?_⟩
  exact post .non _ .non _ q ((e1.trans e2).trans ex) (st2.put ex ⟨_, bP, cA ex _ _ (jF h6 (dE hu dR))⟩) rfl⟩
theorem zy5 (ho : DE X o wo) (hbase : attributeBase o "pop" X.env (eval o X.env) = eval o X.env := by rfl) (hline : (apos.endLine == cpos.line) = true := by rfl) :
 DE X (.Call (.Attribute o "pop" apos) [] [] cpos) (zy4 wo) :=
 PE.weak (zyw PySem.F.plainAttrs_list PySem.F.slot_list_pop PySem.F.type_list_pop zyx ho hbase hline) fun σ H Q ⟨ρ, S, Q', env, st, hw, post⟩ => ⟨ρ, S, _, env, st, hw, fun d S1 v H1 q1 e1 st1 hd => by
  obtain ⟨p, ds, rfl, h1, q1⟩ := yR q1
  cases (show v = .ref p from hd)
  obtain ⟨vs, h2, h3⟩ := st1 p _ h1
  obtain ⟨x, hx, q⟩ := vH q1
  rw [List.getLast?_eq_getElem?] at hx
  obtain ⟨y, hy, dy⟩ := nF h3 hx
  have ex := znf (ys := vs.dropLast) h2
  refine ⟨.inl ⟨rfl, vs, uR.of h2⟩, p, vs, y, rfl, rfl, h2, by rw [bX h3]; exact hy, ?_⟩
  exact post x _ y _ q (e1.trans ex) (st1.put ex ⟨_, bP, cA ex _ _ (zdi h3)⟩) (dJ ex _ _ dy)⟩
end
theorem zf6 {x : Str} {a : Addr} {d : Dv} {pos : Pos} (hm : X.mg x = some (.ref a)) (hd : ∀ H, gN X.K H d (.ref a)) (hg : Gl X x := by rfl) (hdb : (x == ("__debug__" : Str)) = false := by decide) : DE X (.Name x pos) (wC d) :=
 de_c (zuw hg hm (v := .ref a) rfl hdb) hd
end
noncomputable abbrev rR (X : Cx) (sc : Scope) (x : Str) (C : Addr) (s : Shared) (H : Hp) (fp : List Addr) : Cx where
 prog := X.prog
 w := X.w
 K := X.K
 mg := X.mg
 base := X.base
 A := X.A
 N := [x]
 s₀ := s
 H₀ := H
 env := { scope := sc, locals := C, globals := X.env.globals, cells := [], qual := X.env.qual, func := none, code := X.env.code, frame := X.env.frame, builtins := X.env.builtins }
 outer := X.stack
 stack := X.stack
 ex := fp
 fn := fun _ => false
 calm := X.calm
 pn := []
 xe := fun _ _ => False
section
variable {X : Cx} {pins : List (Addr × Obj)} {σ : L2.St} {H : Hp} {s : Shared}
theorem oX (I : Inv X pins σ H s) {b : Addr} (h1 : b ≠ X.env.locals) (h2 : b ∉ X.fs) : b ∉ frs X.stack := fun z => by
 rcases List.mem_cons.mp (I.stkSub b z) with e | e
 · exact h1 e
 · exact h2 e
theorem zio {sc : Scope} {x : Str} {C : Addr} {fp : List Addr} {h₁ : Heap} {m : Str → Option Value} {t : Nat} (I : Inv X pins σ H s) (hC : s.heap.objs.size ≤ C) (keep : ∀ b o, s.heap.get? b = some o → h₁.get? b = some o) (hns : h₁.Ns C m)
 (hfree : ∀ y ∈ sc.names, y.2 ≠ .free) (hcell : ∀ y ∈ sc.names, y.2 ≠ .cell) (hkind : sc.kind = .function) (hfp : ∀ b ∈ fp, jV X pins H b) (hlt : ∀ b ∈ fp, b < s.heap.objs.size) :
 Inv (rR X sc x C s H fp) [] [none] H { s with heap := h₁, toks := t } := by
 have noc : ∀ (y : Str) (c : Addr), (rR X sc x C s H fp).env.cells.lookup y = some c → False := fun y c e => by
  have e' : ([] : List (Str × Addr)).lookup y = some c := e
  cases e'
 refine ⟨⟨I.ok.mod, hkind, I.ok.glob, I.ok.blt, hC, fun y z c h1 _ => (noc y c h1).elim, fun y hy => ?_, fun y c _ h => (noc y c h).elim, I.ok.hd, I.ok.frames, .inl rfl, fun b hb => ⟨?_, fun y c h => (noc y c h).elim⟩, fun b o e => I.bs b o e, Nat.le_trans I.ok.bsz I.sz, fun b o e hb => ?_, fun b hb => ?_, I.stack, I.stkFree⟩,
  rfl, I.bare, Un.kept keep, ⟨m, hns, fun i y v _ h2 _ => ?_⟩, fun y c h => (noc y c h).elim, I.hok.fresh hC, fun y c h => (noc y c h).elim, fun p hp => ?_, I.hok.kept keep, rfl⟩
 · have hy' : sc.names.lookup y = some .cell ∨ sc.names.lookup y = some .free := hy
   rcases hy' with e | e
   · exact absurd rfl (hcell _ (PySem.mem_of_lookup e))
   · exact absurd rfl (hfree _ (PySem.mem_of_lookup e))
 · exact Nat.ne_of_lt (Nat.lt_of_lt_of_le (hlt b hb) hC)
 · obtain ⟨_, _, _, z, _⟩ := hfp b hb
   rcases z with z | z
   · exact I.ok.noex b o e z
   · exact absurd (Nat.lt_of_lt_of_le (Heap.lt_size e) (Nat.le_trans I.ok.bsz z)) (Nat.lt_irrefl _)
 · obtain ⟨_, z1, z2, _⟩ := hfp b hb
   exact oX I z1 z2
 · cases i with
   | zero => simp at h2
   | succ i => simp at h2
 · have hp' : p ∈ ([] : List (Addr × Obj)) := hp
   cases hp'
end
noncomputable def cmpL (wt : WT) (we : WE) : List Dv → aN → List Dv → (List Dv → aN → Prop) → Prop
 | [], S, acc, Q => Q acc S
 | x :: xs, S, acc, Q => wt [some x] S fun b S1 => if b = true then we [some x] S1 fun y S2 => cmpL wt we xs S2 (acc ++ [y]) Q else cmpL wt we xs S1 acc Q
noncomputable def iS (src : WE) (wt : WT) (we : WE) : WE := fun ρ S Q => src ρ S fun d S1 => goL (roL d) fun xs => cmpL wt we xs S1 [] fun ys S2 => Q (.lst ys) S2
noncomputable def rW : WT := fun _ S Q => Q true S
noncomputable def zag (src : WE) (we : WE) : WE := iS src rW we
noncomputable def iT (X : Cx) (ifs : List Expr) (wt : WT) : Prop :=
 ∀ (pins : List (Addr × Obj)) (s : Shared) (σ : L2.St) (H : Hp) (Q : Bool → Hp → Prop), Inv X pins σ H s → lT X.K wt σ H Q →
   wpAny (model X.prog X.w) X.A (forIn ifs true fun c r => if r = true then do let ok ← isTrue c X.env (eval c X.env); pure (ForInStep.yield ok) else pure (ForInStep.yield r)) (TP X pins σ Q) X.xe s
theorem qM {X : Cx} : iT X [] rW := fun pins s σ H Q I ⟨ρ, S, Q', env, st, hw, post⟩ => wpAny_tests_nil ⟨H, I, post true S H hw (Ext.refl H) st⟩
theorem yT {X : Cx} {c : Expr} {wt : WT} (h : DT X c wt) : iT X [c] wt := fun pins s σ H Q I hw => wpAny_tests_one (h pins s σ H Q I hw)
noncomputable def iC (h : Heap) (D : Addr) (us : List Value) : Prop := ∃ n, h.get? D = some { cls := .type "list", data := .seq us.toArray n }
section
variable {X : Cx} {pins : List (Addr × Obj)} {σ : L2.St} {H : Hp} {s : Shared}
theorem Inv.pin1 {b : Addr} {o : Obj} (I : Inv X pins σ H s) (hf : jV X pins H b) (e : s.heap.get? b = some o) (hd : ∀ v, o.data ≠ .cell v) : Inv X (pins ++ [(b, o)]) σ H s :=
 I.pins_of fun p hp => (List.mem_append.mp hp).elim (fun z => I.pin p (List.mem_append_right _ z)) fun z => by
  have z' : p = (b, o) := List.mem_singleton.mp z
  subst z'
  exact ⟨e, hf.1, hf.2.1, hf.2.2.1, hd⟩
theorem Inv.pinned1 {b : Addr} {o : Obj} (I : Inv X (pins ++ [(b, o)]) σ H s) : s.heap.get? b = some o ∧ H b = none :=
 let z := I.pin (b, o) (List.mem_append_right _ (List.mem_append_right _ (List.mem_singleton.mpr rfl)))
 ⟨z.1, z.2.1⟩
end
inductive CompAt (K : W.Frag) (Y : Cx) (fp : List Addr) (tn : Nat → Heap → Prop) (D : Addr) (H2 : Hp) (vs : List V) (ds : List Dv) (wt : WT) (we : WE) (Qf : List Dv → aN → Prop) (n : Nat) (s' : Shared) : Prop
 | mk (i : Nat) (acc : List Dv) (us : List Value) (ys : List V) (σ' : L2.St) (H' : Hp) (S' : aN) (en : n = vs.length - i) (hi : i ≤ vs.length) (inv : Inv Y [] σ' H' s') (t : tn i s'.heap) (f : ∀ b ∈ fp, H' b = none) (d : H' D = none) (a : iC s'.heap D us) (v : bU ys us)
  (l : ys.length ≤ i) (e : bM K H' acc ys) (st : cG K H' S') (x : Ext H2 H') (c : cmpL wt we (ds.drop i) S' acc Qf) : CompAt K Y fp tn D H2 vs ds wt we Qf n s'
theorem thx {α : Type} {t : Sem α} {Q Q' : α → Shared → Prop} {M : Model} {A : Around} {E : Value → Shared → Prop} {s : Shared} (h : wpAny M A t Q (fun _ _ => False) s) (hQ : ∀ a s, Q a s → Q' a s) : wpAny M A t Q' E s := wpAny_mono h hQ fun _ _ z => z.elim
section
variable {X : Cx} {elt iter : Expr} {x : Str} {px pos : Pos} {ifs : List Expr} {sc : Scope} {src : WE} {wt : WT} {we : WE}
theorem zet {C D it a : Addr} {fp : List Addr} {tn : Nat → Heap → Prop} {s2 : Shared} {H2 : Hp} {vs : List V} {ds : List Dv} {R : Result → Shared → Prop} {Qf : List Dv → aN → Prop}
 (ht : ∀ C s H fp, iT (rR X sc x C s H fp) ifs wt) (he : ∀ C s H fp, DE (rR X sc x C s H fp) elt we) (hx : sc.names.lookup x = some .local) (hcalm : X.calm = true)
 (T : Turn X.prog X.w X.K (.Name x px) (Itl X.K a) fp it tn) (hfD : ∀ H', H' D = none → jV (rR X sc x C s2 H2 fp) [] H' D) (hff : ∀ H', (∀ b ∈ fp, H' b = none) → ∀ b ∈ fp, jV (rR X sc x C s2 H2 fp) [] H' b) (hDf : D ∉ fp)
 (hq : SqR X.K H2 a vs) (hv : bM X.K H2 ds vs) (hz : vs.length ≤ sizeLine)
 (fin : ∀ (acc : List Dv) (us : List Value) (ys : List V) (σ' : L2.St) (H' : Hp) (S' : aN) (s' : Shared), Inv (rR X sc x C s2 H2 fp) [] σ' H' s' → H' D = none → iC s'.heap D us → bU ys us → ys.length ≤ sizeLine → bM X.K H' acc ys → cG X.K H' S' → Ext H2 H' → Qf acc S' → R (.ok .next) s') :
 ∀ (i : Nat) (acc : List Dv) (us : List Value) (ys : List V) (σ' : L2.St) (H' : Hp) (S' : aN) (s' : Shared), i ≤ vs.length → Inv (rR X sc x C s2 H2 fp) [] σ' H' s' → tn i s'.heap → (∀ b ∈ fp, H' b = none) → H' D = none → iC s'.heap D us → bU ys us → ys.length ≤ i → bM X.K H' acc ys → cG X.K H' S' → Ext H2 H' →
   cmpL wt we (ds.drop i) S' acc Qf → codeAny (model X.prog X.w) X.A (.compLoop (.ListComp elt [⟨.Name x px, iter, ifs, 0⟩] sc pos) 0 (.ref it) (.ref D) (rR X sc x C s2 H2 fp).env) R s' := by
 intro i₀ acc₀ us₀ ys₀ σ₀ H₀ S₀ s₀ hi₀ I₀ t₀ f₀ d₀ a₀ v₀ l₀ e₀ st₀ x₀ c₀
 refine codeAny_compLoop_tests (fun n s' => CompAt X.K (rR X sc x C s2 H2 fp) fp tn D H2 vs ds wt we Qf n s')
  ?_ (vs.length - i₀) ⟨i₀, acc₀, us₀, ys₀, σ₀, H₀, S₀, rfl, hi₀, I₀, t₀, f₀, d₀, a₀, v₀, l₀, e₀, st₀, x₀, c₀⟩
 rintro n s3 ⟨i, acc, us, ys, σ', H', S', rfl, hi, I3, t3, f3, d3, ⟨k, a3⟩, v3, l3, e3, st3, x3, c3⟩
 have notc : ∀ v, ({ cls := .type "list", data := .seq us.toArray k } : Obj).data ≠ .cell v := fun v z => by
  have z' : Data.seq us.toArray k = Data.cell v := z
  cases z'
 have I3d := Inv.pin1 I3 (hfD H' d3) a3 notc
 have hl := bX hv
 by_cases hlt : i < vs.length
 · have hvi : vs[i]? = some vs[i] := by simp [hlt]
   obtain ⟨dx, hdx, ddx⟩ := mY hv hvi
   rw [iX hdx] at c3
   have ffp : ∀ b ∈ fp, jV (rR X sc x C s2 H2 fp) ([] ++ [(D, { cls := .type "list", data := .seq us.toArray k })]) H' b := fun b hb => by
    obtain ⟨g0, g1, g2, g3, g4, g5⟩ := hff H' f3 b hb
    refine ⟨g0, g1, g2, g3, g4, fun p hp z => ?_⟩
    have hp' : p ∈ ([(D, { cls := .type "list", data := .seq us.toArray k })] : List (Addr × Obj)) := hp
    cases List.mem_singleton.mp hp'
    exact hDf (by rw [show D = b from z]; exact hb)
   refine thn (T.item (rR X sc x C s2 H2 fp) rfl rfl rfl hcalm i _ s3 σ' H' _ I3d ffp t3 ⟨vs, vs[i], (x3.sqR hq).sq, hvi⟩) fun r s4 ⟨u, er, h4⟩ => ?_
   subst er
   show wpAny _ _ (letOwnedTupleGo (.Name x px) (.ref it) u >>= fun _ => assign (.Name x px) (rR X sc x C s2 H2 fp).env u) _ _ s4
   refine wpAny_bind (thn h4 fun _ s5 ⟨xv, H5, I5, r5, ⟨eH, y5⟩, t5, f5⟩ => ?_)
   subst eH
   have exv : xv = vs[i] := by
    have z := y5 vs (x3.sqR hq).sq
    rw [hvi] at z
    exact (Option.some.inj z).symm
   subst exv
   have I5p := I5.pinned (fp := fp) ffp (T.obj _ _ t5)
   refine thx (mQ (X := rR X sc x C s2 H2 fp) (i := 0) (x := x) (pos := px) (by simp) rfl (Or.inl hx) (Or.inr hx) _ s5 σ' H5 _ u (fun σ6 H6 => σ6 = σ'.set 0 (some vs[i]) ∧ H6 = H5) I5p r5 ⟨rfl, rfl⟩) fun _ s6 ⟨σ6, H6, I6, eσ, eH⟩ => ?_
   subst eσ eH
   have hσ : σ'.length = 1 := I3.len
   have env6 : EnvOk X.K H6 [some dx] (σ'.set 0 (some vs[i])) := by
    refine ⟨by rw [List.length_set, hσ]; rfl, fun j e q => ?_⟩
    cases j with
    | zero =>
      have q' : dx = e := Option.some.inj (Option.some.inj q)
      subst q'
      exact ⟨vs[i], by rw [List.getElem?_set_self (by omega)], dJ x3 _ _ ddx⟩
    | succ j => simp at q
   have again : ∀ (acc' : List Dv) (us' : List Value) (ys' : List V) (σ7 : L2.St) (H7 : Hp) (S7 : aN) (s7 : Shared) (pl : List (Addr × Obj)), Inv (rR X sc x C s2 H2 fp) pl σ7 H7 s7 → (∀ b ∈ fp, ∀ o, s5.heap.get? b = some o → s7.heap.get? b = some o) → (∀ b ∈ fp, H7 b = none) → H7 D = none → iC s7.heap D us' → bU ys' us' → ys'.length ≤ i + 1 → bM X.K H7 acc' ys' → cG X.K H7 S7 → Ext H2 H7 →
    cmpL wt we (ds.drop (i + 1)) S7 acc' Qf → ∃ m, m < vs.length - i ∧ CompAt X.K (rR X sc x C s2 H2 fp) fp tn D H2 vs ds wt we Qf m s7 :=
    fun acc' us' ys' σ7 H7 S7 s7 pl I7 k7 f7 d7 a7 v7 l7 e7 st7 x7 c7 => ⟨vs.length - (i + 1), by omega, i + 1, acc', us', ys', σ7, H7, S7, rfl, hlt, I7.pins_of (fun p hp => by cases hp), T.keep _ _ _ t5 fun b hb o e => k7 b hb o e, f7, d7, a7, v7, l7, e7, st7, x7, c7⟩
   have pinD : ∀ {σ7 : L2.St} {H7 : Hp} {s7 : Shared}, L2.Inv (rR X sc x C s2 H2 fp) (([] ++ [(D, { cls := .type "list", data := .seq us.toArray k })]) ++ oR fp s5.heap) σ7 H7 s7 → s7.heap.get? D = some { cls := .type "list", data := .seq us.toArray k } ∧ H7 D = none := fun {σ7 H7 s7} J =>
    let z := J.pin (D, { cls := .type "list", data := .seq us.toArray k }) (List.mem_append_right _ (List.mem_append_left _ (List.mem_append_right _ (List.mem_singleton.mpr rfl))))
    ⟨z.1, z.2.1⟩
   have pinF : ∀ {σ7 : L2.St} {H7 : Hp} {s7 : Shared}, L2.Inv (rR X sc x C s2 H2 fp) (([] ++ [(D, { cls := .type "list", data := .seq us.toArray k })]) ++ oR fp s5.heap) σ7 H7 s7 → (∀ b ∈ fp, ∀ o, s5.heap.get? b = some o → s7.heap.get? b = some o) ∧ ∀ b ∈ fp, H7 b = none := fun {σ7 H7 s7} J =>
    ⟨fun b hb o e => (J.pin (b, o) (List.mem_append_right _ (List.mem_append_right _ (gM hb e)))).1, fun b hb => by
     obtain ⟨o, e, _⟩ := T.obj _ _ t5 b hb
     exact (J.pin (b, o) (List.mem_append_right _ (List.mem_append_right _ (gM hb e)))).2.1⟩
   refine thx (ht C s2 H2 fp _ s6 _ H6 (fun b H7 => ∃ S7, cG X.K H7 S7 ∧ Ext H6 H7 ∧ if b = true then we [some dx] S7 fun y S8 => cmpL wt we (ds.drop (i + 1)) S8 (acc ++ [y]) Qf else cmpL wt we (ds.drop (i + 1)) S7 acc Qf) I6 ⟨[some dx], S', _, env6, st3, c3, fun b S7 H7 q7 x7 st7 => ⟨S7, st7, x7, q7⟩⟩) fun b s7 ⟨H7, I7, S7, st7, x7, q7⟩ => ?_
   cases b with
   | false =>
     exact again acc us ys _ H7 S7 s7 _ I7 (pinF I7).1 (pinF I7).2 (pinD I7).2 ⟨k, (pinD I7).1⟩ v3 (Nat.le_succ_of_le l3) (cA x7 _ _ e3) st7 (x3.trans x7) q7
   | true =>
     refine thx (he C s2 H2 fp _ s7 _ H7 (fun v H8 => ∃ y S8, cG X.K H8 S8 ∧ Ext H7 H8 ∧ gN X.K H8 y v ∧ cmpL wt we (ds.drop (i + 1)) S8 (acc ++ [y]) Qf) I7 ⟨[some dx], S7, _, env6.ext x7, st7, q7, fun y S8 v H8 q8 x8 st8 hd8 => ⟨y, S8, st8, x8, hd8, q8⟩⟩) fun u8 s8 ⟨v8, H8, I8, r8, y, S8, st8, x8, hd8, q8⟩ => ?_
     obtain ⟨a8, d8⟩ := pinD I8
     refine call_meets F.slot_list_append ⟨_, a8, rfl⟩ F.entry_list_append (F.args_list_append_2 _ _) (PySem.list_append D us.toArray k u8 (by rw [List.size_toArray, ← v3.length]; omega)) ⟨a8, ?_⟩
     have q := PySem.IsL.update a8 (fun xs => xs.push u8)
     have eu : us.toArray.push u8 = (us ++ [u8]).toArray := by simp
     rw [eu] at q
     obtain ⟨fk, f8⟩ := pinF I8
     have fD := hfD H8 d8
     have I9 : ∀ t', L2.Inv (rR X sc x C s2 H2 fp) [] (σ'.set 0 (some vs[i])) H8 { s8 with heap := s8.heap.update D (Obj.mapSeq fun xs => xs.push u8), toks := t' } := fun t' =>
      (I8.pins_of (pins' := []) (fun p hp => by cases hp)).turned (it := D) (fun b o hb e => (Heap.get?_update_other s8.heap (Obj.mapSeq fun xs => xs.push u8) (Ne.symm hb)).trans e) d8 fD.2.1 fD.2.2.2.1 fD.2.2.2.2.1 fD.2.2.2.2.2
     refine again (acc ++ [y]) (us ++ [u8]) (ys ++ [v8]) _ H8 S8 _ [] (I9 _) (fun b hb o e => (Heap.get?_update_other s8.heap (Obj.mapSeq fun xs => xs.push u8) (fun z => hDf (by rw [z]; exact hb))).trans (fk b hb o e)) f8 d8 ⟨_, q⟩ (v3.append (.cons r8 .nil)) ?_ (jF (cA (x7.trans x8) _ _ e3) (dE hd8 dR)) st8 (x3.trans (x7.trans x8)) q8
     rw [List.length_append, List.length_singleton]
     exact Nat.succ_le_succ l3
 · have ei : i = vs.length := by omega
   have ffp : ∀ b ∈ fp, jV (rR X sc x C s2 H2 fp) ([] ++ [(D, { cls := .type "list", data := .seq us.toArray k })]) H' b := fun b hb => by
    obtain ⟨g0, g1, g2, g3, g4, g5⟩ := hff H' f3 b hb
    refine ⟨g0, g1, g2, g3, g4, fun p hp z => ?_⟩
    have hp' : p ∈ ([(D, { cls := .type "list", data := .seq us.toArray k })] : List (Addr × Obj)) := hp
    cases List.mem_singleton.mp hp'
    exact hDf (by rw [show D = b from z]; exact hb)
   refine thn (T.done (rR X sc x C s2 H2 fp) rfl rfl rfl hcalm i _ s3 σ' H' _ I3d ffp t3 ⟨vs, (x3.sqR hq).sq, by omega⟩) fun r s4 ⟨er, I4⟩ => ?_
   subst er
   obtain ⟨a4, d4⟩ := Inv.pinned1 I4
   rw [List.drop_eq_nil_of_le (by omega)] at c3
   exact fin acc us ys σ' H' S' s4 (I4.pins_of (pins' := []) (fun p hp => by cases hp)) d4 ⟨k, a4⟩ v3 (by omega) e3 st3 x3 c3
end
section
variable {X : Cx} {elt iter : Expr} {x : Str} {px pos : Pos} {ifs : List Expr} {sc : Scope} {src : WE} {wt : WT} {we : WE}
theorem ziq {pins : List (Addr × Obj)} {σ σ' : L2.St} {H2 H' : Hp} {s2 s' : Shared} {C : Addr} {fp : List Addr} {h' : Heap} {us : List Value} {ys : List V} (I2 : L2.Inv X pins σ H2 s2) (f2 : ∀ b ∈ fp, jV X pins H2 b)
 (I : L2.Inv (rR X sc x C s2 H2 fp) [] σ' H' s') (hC : s2.heap.objs.size < C) (d : H' s2.heap.objs.size = none) (hu : iC s'.heap s2.heap.objs.size us) (v : bU ys us) (hz : ys.length ≤ sizeLine) (sb : Heap.SameBut C s'.heap h') :
 ∃ o, L2.Inv X pins σ (upd H' s2.heap.objs.size (.frz o (.lst ys))) { s' with heap := h' } := by
 obtain ⟨k, hk⟩ := hu
 have hD : h'.get? s2.heap.objs.size = some { cls := .type "list", data := .seq us.toArray k } := (sb.2 _ (Nat.ne_of_lt hC)).trans hk
 have hCn : H' C = none := I.free
 have kp : ∀ b ob, b ≠ C → s'.heap.get? b = some ob → h'.get? b = some ob := fun b ob hb e => (sb.2 b hb).trans e
 have old : ∀ b ob, s2.heap.get? b = some ob → b ≠ C ∧ b ≠ s2.heap.objs.size := fun b ob e => ⟨Nat.ne_of_lt (Nat.lt_trans (Heap.lt_size e) hC), Nat.ne_of_lt (Heap.lt_size e)⟩
 have B := I.base
 refine ⟨{ cls := .type "list", data := .seq us.toArray k }, I2.call' (s' := { s' with heap := h' }) (ch := fp) I.os ⟨fun b ob e n hb hx => ?_, fun b ob e n hb hx => ?_, fun b ob e n hx => ?_, fun b ob e hx => ?_, fun b xs e => ?_, fun b ob u e => ?_, fun b ps e => ?_⟩ ?_ I.bare fun b hb => ?_⟩
 · exact kp b ob (old b ob e).1 (B.keep b ob e n hb hx)
 · obtain ⟨sl, q⟩ := B.slot b ob e n hb hx
   exact ⟨sl, kp b _ (old b ob e).1 q⟩
 · rw [bD (old b ob e).2]
   exact B.free b ob e n hx
 · obtain ⟨o', q⟩ := B.there b ob e hx
   exact ⟨o', kp b _ (old b ob e).1 q⟩
 · rw [bD (fun z => by have q := B.tups b xs e; rw [z, d] at q; cases q)]
   exact B.tups b xs e
 · rw [bD (fun z => by have q := B.frzs b ob u e; rw [z, d] at q; cases q)]
   exact B.frzs b ob u e
 · obtain ⟨more, q⟩ := B.tbls b ps e
   exact ⟨more, by rw [bD (fun z => by rw [z, d] at q; cases q)]; exact q⟩
 · intro b u q
   by_cases hb : b = s2.heap.objs.size
   · subst hb
     rw [bP] at q
     cases q
     exact ⟨hD, hz, us, k, v, hD⟩
   · rw [bD hb] at q
     refine (I.hok b u q).stay (fun c w hc e => kp c w (fun z => ?_) e) (fun c hc => ?_) fun c zs hc => ?_
     · rcases hc with hc | hc
       · rw [← hc, z, hCn] at q; cases q
       · rw [z, hCn] at hc; cases hc
     · rw [bD (fun z => by rw [z, d] at hc; cases hc)]; exact hc
     · rw [bD (fun z => by rw [z, d] at hc; cases hc)]; exact hc
 · obtain ⟨_, z1, _, z3, z4, z5⟩ := f2 b hb
   exact ⟨z3, z1, z4, z5⟩
theorem zir (hi : DE X iter src) (ht : ∀ C s H fp, iT (rR X sc x C s H fp) ifs wt) (he : ∀ C s H fp, DE (rR X sc x C s H fp) elt we)
 (hfree : ∀ y ∈ sc.names, y.2 ≠ .free) (hcell : ∀ y ∈ sc.names, y.2 ≠ .cell) (hkind : sc.kind = .function) (hnames : ∀ y ∈ sc.names, y.2 = .local → sc.names.lookup y.1 = some .local) (hx : sc.names.lookup x = some .local) (hcalm : X.calm = true)
 (hs : ∀ x, foldedSetIterable iter X.env x = pure x) : DE X (.ListComp elt [⟨.Name x px, iter, ifs, 0⟩] sc pos) (iS src wt we) := by
 intro pins s σ H Q I ⟨ρ, S, Q', env, st, hw, post⟩
 refine wpAny_ListComp hfree hkind hnames ?_ hs
 have hpi := wT (tg := .Name x px) hi pins s σ H (fun J H1 => ∃ a vs ds S1, J = Itl X.K a ∧ SqR X.K H1 a vs ∧ bM X.K H1 ds vs ∧ cG X.K H1 S1 ∧ Ext H H1 ∧ cmpL wt we ds S1 [] fun ys S2 => Q' (.lst ys) S2) I
  ⟨ρ, S, _, env, st, hw, fun d S1 v H1 q e st1 hd => by
   obtain ⟨ds, hds, q⟩ := jY q
   obtain ⟨a, vs, rfl, hq, hv⟩ := yN hd hds
   exact ⟨a, rfl, ⟨vs, hq.sq⟩, a, vs, ds, S1, rfl, hq, hv, st1, e, q⟩⟩
 refine thn hpi fun xv s1 h1 => thn h1 fun itv s2 h2 => ?_
 obtain ⟨it, fp, tn, J, H2, rfl, I2, T, t2, f2, a, vs, ds, S1, rfl, hq, hv, sto, ex, hc⟩ := h2
 refine wpAny_newObj_type (wpAny_newFunctionEnv hcell (by intro y hy; cases hy) (fun h₁ hns hsb => ?_) hkind)
 have hlt : ∀ b ∈ fp, b < s2.heap.objs.size := fun b hb => by
  obtain ⟨o, e, _⟩ := T.obj 0 s2.heap t2 b hb
  exact Heap.lt_size e
 have eC : (s2.heap.push { cls := .type "list", data := .seq #[] }).objs.size = s2.heap.objs.size + 1 := Heap.size_push ..
 have keep : ∀ b o, s2.heap.get? b = some o → h₁.get? b = some o := fun b o e => by
  have z : b ≠ (s2.heap.push { cls := .type "list", data := .seq #[] }).objs.size := by
   rw [eC]; exact Nat.ne_of_lt (Nat.lt_succ_of_lt (Heap.lt_size e))
  exact (hsb.2 b z).trans (Heap.get?_push_of_some _ (Heap.get?_push_of_some _ e))
 have acc0 : iC h₁ s2.heap.objs.size [] := by
  have z : s2.heap.objs.size ≠ (s2.heap.push { cls := .type "list", data := .seq #[] }).objs.size := by
   rw [eC]; exact Nat.ne_of_lt (Nat.lt_succ_self _)
  exact ⟨_, (hsb.2 _ z).trans (Heap.get?_push_of_some _ (Heap.get?_push_size _ rfl))⟩
 have hns' : h₁.Ns (s2.heap.objs.size + 1) fun x => List.lookup x ([] : List (Str × Value)).reverse := by
  have q := hns
  dsimp only at q
  rw [eC] at q
  exact q
 have I4 : ∀ t, L2.Inv (rR X sc x (s2.heap.objs.size + 1) s2 H2 fp) [] [none] H2 { s2 with heap := h₁, toks := t } := fun t => zio I2 (Nat.le_succ _) keep hns' hfree hcell hkind f2 hlt
 have hz : vs.length ≤ sizeLine := (I2.list hq.sq).choose_spec.2.2
 have loop : ∀ t, codeAny (model X.prog X.w) X.A (.compLoop (.ListComp elt [⟨.Name x px, iter, ifs, 0⟩] sc pos) 0 (.ref it) (.ref s2.heap.objs.size) (rR X sc x (s2.heap.objs.size + 1) s2 H2 fp).env)
  (fun r s' => ∃ m, s'.heap.Ns (s2.heap.objs.size + 1) m ∧ ∀ h', Heap.SameBut (s2.heap.objs.size + 1) s'.heap h' →
    match r with | .ok _ => EP X pins σ Q (.ref s2.heap.objs.size) { s' with heap := h' } | .error z => wpAny (model X.prog X.w) X.A (passOn "comprehension.variables-let-go" z (rR X sc x (s2.heap.objs.size + 1) s2 H2 fp).env) (EP X pins σ Q) X.xe { s' with heap := h' }) { s2 with heap := h₁, toks := t } := fun t => by
  refine zet (C := s2.heap.objs.size + 1) (D := s2.heap.objs.size) (s2 := s2) (H2 := H2) (vs := vs) (ds := ds) ht he hx hcalm T ?_ ?_ (fun z => absurd (hlt _ z) (Nat.lt_irrefl _)) hq hv hz ?_ 0 [] [] [] [none] H2 S1 _ (Nat.zero_le _) (I4 t) (T.keep 0 s2.heap h₁ t2 fun b hb o e => keep b o e) (fun b hb => (f2 b hb).1) I2.fresh acc0 .nil (Nat.le_refl _) dR sto (Ext.refl _) hc
  · intro H' d
    refine ⟨d, Nat.ne_of_lt (Nat.lt_succ_self _), oX I2 (Nat.ne_of_gt I2.lt) (I2.nofs (Nat.le_refl _)), .inr (Nat.le_refl _), fun y c e => ?_, fun p hp => ?_⟩
    · have e' : ([] : List (Str × Addr)).lookup y = some c := e
      cases e'
    · have hp' : p ∈ ([] : List (Addr × Obj)) := hp
      cases hp'
  · intro H' hn b hb
    refine ⟨hn b hb, Nat.ne_of_lt (Nat.lt_succ_of_lt (hlt b hb)), oX I2 (f2 b hb).2.1 (f2 b hb).2.2.1, .inl hb, fun y c e => ?_, fun p hp => ?_⟩
    · have e' : ([] : List (Str × Addr)).lookup y = some c := e
      cases e'
    · have hp' : p ∈ ([] : List (Addr × Obj)) := hp
      cases hp'
  · intro acc us ys σ' H' S' s' I' d' a' v' z' e' st' x' q'
    obtain ⟨m, hm, _⟩ := I'.loc
    refine ⟨m, hm, fun h' sb => ?_⟩
    obtain ⟨o, I''⟩ := ziq I2 f2 I' (Nat.lt_succ_self _) d' a' v' z' sb
    have sm := fP d' (.frz o (.lst ys))
    exact ⟨.ref s2.heap.objs.size, _, I'', rfl, post (.lst acc) S' (.ref s2.heap.objs.size) _ q' ((ex.trans x').trans (bF sm)) (st'.same sm) ⟨_, o, ys, rfl, bP, cA (bF sm) _ _ e'⟩⟩
 have fin := codeAny_compStart_list (loop (s2.toks + ([] : List (Str × Value)).length)) (T.self X.A 0 _ _ _ (T.keep 0 s2.heap h₁ t2 fun b hb o e => keep b o e) (loop _))
 simp only [eC]
 exact fin
end
theorem yU {X : Cx} {elt iter c : Expr} {x : Str} {px pos : Pos} {sc : Scope} {src : WE} {wt : WT} {we : WE} (hi : DE X iter src) (ht : ∀ C s H fp, DT (rR X sc x C s H fp) c wt) (he : ∀ C s H fp, DE (rR X sc x C s H fp) elt we)
 (hfree : ∀ y ∈ sc.names, y.2 ≠ .free := by decide) (hcell : ∀ y ∈ sc.names, y.2 ≠ .cell := by decide) (hkind : sc.kind = .function := by rfl) (hnames : ∀ y ∈ sc.names, y.2 = .local → sc.names.lookup y.1 = some .local := by decide) (hx : sc.names.lookup x = some .local := by rfl) (hcalm : X.calm = true := by rfl)
 (hs : ∀ x, foldedSetIterable iter X.env x = pure x := by intro _; rfl) : DE X (.ListComp elt [⟨.Name x px, iter, [c], 0⟩] sc pos) (iS src wt we) :=
 zir hi (fun C s H fp => yT (ht C s H fp)) he hfree hcell hkind hnames hx hcalm hs
theorem tP {X : Cx} {elt iter : Expr} {x : Str} {px pos : Pos} {sc : Scope} {src : WE} {we : WE} (hi : DE X iter src) (he : ∀ C s H fp, DE (rR X sc x C s H fp) elt we)
 (hfree : ∀ y ∈ sc.names, y.2 ≠ .free := by decide) (hcell : ∀ y ∈ sc.names, y.2 ≠ .cell := by decide) (hkind : sc.kind = .function := by rfl) (hnames : ∀ y ∈ sc.names, y.2 = .local → sc.names.lookup y.1 = some .local := by decide) (hx : sc.names.lookup x = some .local := by rfl) (hcalm : X.calm = true := by rfl)
 (hs : ∀ x, foldedSetIterable iter X.env x = pure x := by intro _; rfl) : DE X (.ListComp elt [⟨.Name x px, iter, [], 0⟩] sc pos) (zag src we) :=
 zir hi (fun C s H fp => qM) he hfree hcell hkind hnames hx hcalm hs
noncomputable def zlw (S : aN) : Dv → Option String
 | .non => some "NoneType"
 | .bl _ => some "bool"
 | .int _ => some "int"
 | .str _ => some "str"
 | .tup _ => some "tuple"
 | .lst _ => some "list"
 | .scr _ => some "list"
 | .ref a => match S a with
   | some (.lst _) => some "list"
   | _ => none
noncomputable def tyI (T : String) : Option Nat := match T with
 | "int" => some 0 | "bool" => some 1 | "str" => some 2 | "tuple" => some 3 | "list" => some 4 | "dict" => some 5 | "NoneType" => some 6
 | _ => none
noncomputable def nmI (i : Nat) : String := match i with
 | 0 => "int" | 1 => "bool" | 2 => "str" | 3 => "tuple" | 4 => "list" | 5 => "dict" | _ => "NoneType"
theorem zr0 {T : String} {i : Nat} (h : tyI T = some i) : T = nmI i ∧ i < 7 := by
 unfold tyI at h
 split at h <;> first
  | (cases h; exact ⟨rfl, by decide⟩)
  | cases h
noncomputable def kitN (i j : Nat) : Option Bool := match i == 5 || j == 6 with
 | true => none
 | false => some (i == j || (i == 1 && j == 0))
noncomputable def kit (t T : String) : Option Bool := (tyI t).bind fun i => (tyI T).bind fun j => kitN i j
theorem zvz {K : W.Frag} : ∀ i, i < 7 → ∀ j, j < 7 → ∀ b, kitN i j = some b → PySem.W.kitOne K (.type (nmI i)) (.type (nmI j)) = some b := by
 intro i hi j hj b h
 have e : ∀ n, n < 7 → n = 0 ∨ n = 1 ∨ n = 2 ∨ n = 3 ∨ n = 4 ∨ n = 5 ∨ n = 6 := by decide
 rcases e i hi with rfl | rfl | rfl | rfl | rfl | rfl | rfl <;> rcases e j hj with rfl | rfl | rfl | rfl | rfl | rfl | rfl <;> cases h <;> rfl
theorem zlx {K : W.Frag} {t T : String} {b : Bool} (h : kit t T = some b) : PySem.W.kitOne K (.type t) (.type T) = some b := by
 unfold kit at h
 cases h1 : tyI t with
 | none => rw [h1] at h; cases h
 | some i =>
   rw [h1] at h
   cases h2 : tyI T with
   | none => rw [h2] at h; cases h
   | some j =>
     rw [h2] at h
     obtain ⟨e1, l1⟩ := zr0 h1
     obtain ⟨e2, l2⟩ := zr0 h2
     subst e1 e2
     exact zvz i l1 j l2 b h
noncomputable def isI (S : aN) (T : String) (d : Dv) : Option Dv := (zlw S d).bind fun t => (kit t T).map .bl
noncomputable def fG (T : String) (w : WE) : WE := fun ρ S Q => w ρ S fun d S1 => go (isI S1 T d) S1 Q
section
variable {X : Cx}
inductive rIsI (K : W.Frag) (T : String) (xs : List V) (H : Hp) (Q : VK) : Prop
 | mk (S : aN) (x : V) (d : Dv) (b : Bool) (ex : xs = [x, .ty T]) (st : cG K H S) (hd : gN K H d x) (hi : isI S T d = some (.bl b)) (q : Q (.bl b) H) : rIsI K T xs H Q
theorem zno {S : aN} {T : String} {d e : Dv} (h : isI S T d = some e) : ∃ t b, zlw S d = some t ∧ kit t T = some b ∧ e = .bl b := by
 unfold isI at h
 cases h1 : zlw S d with
 | none => rw [h1] at h; cases h
 | some t =>
   rw [h1] at h
   cases h2 : kit t T with
   | none => simp [h2] at h
   | some b => simp [h2] at h; exact ⟨t, b, rfl, h2, h.symm⟩
theorem zabj {T : String} : nE X (.builtin "isinstance") (rIsI X.K T) := by
 intro pins s σ H xs us Q I r ⟨S, x, d, b, ex, st, hd, he, q⟩
 subst ex
 obtain ⟨u, c, rfl, ru, rc⟩ := r.two
 obtain rfl : c = Value.type T := rc
 obtain ⟨t, b', ht, hk, eb⟩ := zno he
 cases eb
 have fin : ∀ tk, EP X pins σ Q (.bool b) { s with toks := tk } := fun tk => ⟨.bl b, H, I.tok tk, rfl, q⟩
 have K1 := zlx (K := X.K) hk
 cases d with
 | non => cases ht; cases (show x = .non from hd); cases ru; exact PySem.W.kia_one PySem.W.kitx_none I.kIn True.intro K1 (fun z => nomatch z) fin
 | bl y => cases ht; cases (show x = .bl y from hd); cases ru; exact PySem.W.kia_one PySem.W.kitx_bool I.kIn True.intro K1 (fun z => nomatch z) fin
 | int y => cases ht; cases (show x = .int y from hd); obtain ⟨tt, rfl⟩ := ru; exact PySem.W.kia_one PySem.W.kitx_int I.kIn True.intro K1 (fun z => nomatch z) fin
 | str y => cases ht; cases (show x = .str y from hd); obtain ⟨tt, rfl⟩ := ru; exact PySem.W.kia_one PySem.W.kitx_str I.kIn True.intro K1 (fun z => nomatch z) fin
 | tup ds =>
   cases ht
   obtain ⟨a, vs, rfl, h1, h2⟩ := qL hd
   cases ru
   obtain ⟨its, _, ⟨o, e1, e2, _⟩, _⟩ := I.tuple h1
   exact PySem.W.kia_one PySem.W.kitx_tuple I.kIn ⟨o, e1, e2⟩ K1 (fun z => nomatch z) fin
 | lst ds =>
   cases ht
   obtain ⟨a, o, vs, rfl, h1, h2⟩ := yP hd
   cases ru
   obtain ⟨its, _, ⟨o, k, e1, e2, _⟩, _⟩ := I.list (.inl (.inr ⟨o, h1⟩))
   exact PySem.W.kia_one PySem.W.kitx_list I.kIn ⟨o, e1, e2⟩ K1 (fun z => nomatch z) fin
 | scr ds =>
   cases ht
   obtain ⟨a, rfl, h1⟩ := zf5 hd
   cases ru
   obtain ⟨its, _, ⟨o, k, e1, e2, _⟩, _⟩ := I.list h1.sq
   exact PySem.W.kia_one PySem.W.kitx_list I.kIn ⟨o, e1, e2⟩ K1 (fun z => nomatch z) fin
 | ref a =>
   cases (show x = .ref a from hd)
   have e2 : (match S a with
    | some (.lst _) => some "list"
    | _ => none) = some t := ht
   split at e2
   · rename_i ds hs
     cases e2
     obtain ⟨vs, h1, h2⟩ := st a _ hs
     cases ru
     obtain ⟨its, _, ⟨o, k, e1, e2, _⟩, _⟩ := I.list (.inl (.inl h1))
     exact PySem.W.kia_one PySem.W.kitx_list I.kIn ⟨o, e1, e2⟩ K1 (fun z => nomatch z) fin
   · cases e2
theorem dA {T : String} {x : Str} {e : Expr} {w : WE} {p q pos : Pos} (hm : X.mg "isinstance" = none) (hT : X.mg x = none) (hb : bootBuiltins x = some (.type T)) (he : DE X e w) (hg : Gl X "isinstance" := by rfl) (hgT : Gl X x := by rfl)
 (hn : x ≠ "__name__" := by decide) (hd : (x == ("__debug__" : Str)) = false := by decide) (hv : bootBuiltins "isinstance" = some (.builtin "isinstance") := by decide +kernel)
 (hs : starEach (e :: [.Name x q]) X.env = (false, eval e X.env) :: starEach [.Name x q] X.env := by rfl) (hpl : (backTo pos (starEach [.Name x q] X.env)).any (·.1) = false := by rfl) :
 DE X (.Call (.Name "isinstance" p) [e, .Name x q] [] pos) (fG T w) :=
 PE.weak (zbt (zabj (T := T)) hg hm hv (qI he (qI (zfs hgT hT hb (v := .ty T) rfl hn hd) zfu) hs) (by decide) (by decide) hs hpl) fun σ H Q ⟨ρ, S, Q', env, st, hw, post⟩ => ⟨ρ, S, _, env, st, hw, fun d S1 v H1 q1 e1 st1 hd => by
  obtain ⟨z, hz, q⟩ := vH q1
  obtain ⟨t, b, _, _, ez⟩ := zno hz
  subst ez
  exact ⟨S1, v, d, b, rfl, st1, hd, hz, post (.bl b) S1 _ H1 q e1 st1 rfl⟩⟩
theorem yV : bootBuiltins "int" = some (.type "int") := by decide +kernel
theorem nH : bootBuiltins "bool" = some (.type "bool") := by decide +kernel
theorem kH : bootBuiltins "str" = some (.type "str") := by decide +kernel
theorem cR : bootBuiltins "list" = some (.type "list") := by decide +kernel
theorem zly : bootBuiltins "dict" = some (.type "dict") := by decide +kernel
theorem gO : bootBuiltins "tuple" = some (.type "tuple") := by decide +kernel
end
noncomputable def big : Int → List Int → Int
 | m, [] => m
 | m, x :: xs => big (if m < x then x else m) xs
section
variable {prog : Program} {w : World} {A : Around} {R : Result → Shared → Prop}
theorem zbj : (toString "max" ++ toString ".loop" : String) = "max.loop" := by decide
theorem zr2 (a v : Value) : argsOk "max" ⟨[a], [(Str.ofString "default", v)]⟩ := by unfold argsOk; kernel_rfl
theorem zy6 {I ax S : Addr} {its : List Value} {ns : List Int} (hv : bU (ns.map V.int) its) (hh : A.in1.handled = none) (hne : ax ≠ I) (hS1 : S ≠ I) (hS2 : S ≠ ax) (kw : List (Str × Value)) :
 ∀ (k j : Nat) (s : Shared) (m : Int) (t : Tok) (c : Nat), its.length - j = k → j ≤ its.length → s.heap.IsListIter I ax j → s.heap.IsList ax its.toArray → s.heap.get? S = some { cls := .type "list", data := .seq #[.int m t, .int m t] c } →
   (∀ h' tk t', (∀ b o, b ≠ I → b ≠ S → s.heap.get? b = some o → h'.get? b = some o) → R (.ok (.ret (.int (big m (ns.drop j)) t'))) { s with heap := h', toks := tk }) →
   codeAny (model prog w) A (.builtin "max.loop" ⟨[.ref I, .none, .ref S], kw⟩) R s := by
 have W := Walks.list (prog := prog) (w := w) (A := A.in1) hh I ax hne its.toArray
 have hlen := hv.length
 rw [List.length_map] at hlen
 intro k
 induction k with
 | zero =>
   intro j s m t c ek ej hit hl hs hR
   have ej' : j = its.toArray.size := by rw [List.size_toArray]; omega
   refine codeAny_builtin F.entry_max_loop ?_
   rw [Around.under_plainId F.plain_max_loop _]
   refine wpAny_bind (wpAny_seqItems hs rfl (wpAny_bind (wpAny_tryCatch (W.done s _ _ ⟨ej' ▸ hit, hl⟩ fun h1 tk kp => ?_))))
   have hs1 := kp S _ (by simpa using hS1) hs
   refine wpAny_bind (wpAny_updateSeq hs1 rfl (wpAny_bind (wpAny_letGo (wpAny_pure ?_))))
   have z := hR (h1.update S (Obj.mapSeq fun _ => #[])) tk t fun b o hb hbS e => (Heap.get?_update_other _ _ (Ne.symm hbS)).trans (kp b o (by simpa using hb) e)
   rw [List.drop_eq_nil_of_le (by rw [ej', List.size_toArray]; omega)] at z
   exact z
 | succ k ih =>
   intro j s m t c ek ej hit hl hs hR
   have hlt : j < its.toArray.size := by rw [List.size_toArray]; omega
   refine codeAny_builtin F.entry_max_loop ?_
   rw [Around.under_plainId F.plain_max_loop _]
   refine wpAny_bind (wpAny_seqItems hs rfl (wpAny_bind (wpAny_tryCatch (W.item j s _ _ hlt ⟨hit, hl⟩ fun v h1 tk hv1 st1 kp => ?_))))
   have hs1 := kp S _ (by simpa using hS1) hs
   have hj : j < ns.length := by rw [List.size_toArray] at hlt; omega
   have hn : (ns.map V.int)[j]? = some (.int ns[j]) := by simp [hj]
   obtain ⟨u, hu, ⟨tu, eu⟩⟩ := hv.get hn
   have ev : v = .int ns[j] tu := by
    have z : its[j]? = some v := by simpa using hv1
    rw [hu] at z
    rw [← eu]; exact (Option.some.inj z).symm
   subst ev
   have hd : ns.drop j = ns[j] :: ns.drop (j + 1) := List.drop_eq_getElem_cons hj
   rw [hd] at hR
   refine wpAny_bind (wpAny_pure (wpAny_bind (wpAny_tryCatch (wpAny_holding (wpAny_bind (m := richCompare .Gt (.int ns[j] tu) (.int m t)) (gt_int (wpAny_bind (wpAny_holding (wpAny_truthy_bool (wpAny_bind (wpAny_letGo (wpAny_pure ?_))))))))))))
   by_cases hb : m < ns[j]
   · rw [if_pos (decide_eq_true hb)]
     refine wpAny_bind (wpAny_updateSeq hs1 rfl (wpAny_bind (wpAny_letGo ?_)))
     rw [zbj]
     refine wpAny_pure ⟨plainId_quiet F.plain_max_loop _, ih (j + 1) _ ns[j] tu _ (by omega) (by rw [List.size_toArray] at hlt; omega) ?_ ?_ (Heap.get?_update_self _ hs1 rfl) fun h2 tk2 t2 kp2 => ?_⟩
     · exact st1.1.at fun o e => (Heap.get?_update_other _ _ hS1).trans e
     · exact st1.2.at fun o e => (Heap.get?_update_other _ _ hS2).trans e
     · have z := hR h2 tk2 t2 fun b o hb1 hb2 e => kp2 b o hb1 hb2 ((Heap.get?_update_other _ _ (Ne.symm hb2)).trans (kp b o (by simpa using hb1) e))
       unfold big at z
       rw [if_pos hb] at z
       exact z
   · rw [if_neg (by rw [decide_eq_false hb]; exact Bool.false_ne_true)]
     refine wpAny_bind (wpAny_letGo ?_)
     rw [zbj]
     refine wpAny_pure ⟨plainId_quiet F.plain_max_loop _, ih (j + 1) _ m t c (by omega) (by rw [List.size_toArray] at hlt; omega) st1.1 st1.2 hs1 fun h2 tk2 t2 kp2 => ?_⟩
     have z := hR h2 tk2 t2 fun b o hb1 hb2 e => kp2 b o hb1 hb2 (kp b o (by simpa using hb1) e)
     unfold big at z
     rw [if_neg hb] at z
     exact z
theorem zv0 {E : Value → Shared → Prop} {Q : Value → Shared → Prop} {s : Shared} {ax : Addr} {its : List Value} {ns : List Int} (hv : bU (ns.map V.int) its) (hh : A.in1.handled = none) (hl : s.heap.IsList ax its.toArray) (dv : Value)
 (hQ : ∀ h' tk, (∀ b o, s.heap.get? b = some o → h'.get? b = some o) → match ns with
   | [] => Q dv { s with heap := h', toks := tk }
   | n :: r => ∀ t', Q (.int (big n r) t') { s with heap := h', toks := tk }) :
 wpAny (model prog w) A (call (.builtin "max") [.ref ax] [(Str.ofString "default", dv)]) Q E s := by
 refine kmk_tree F.kind_max F.plain_max F.entry_max (zr2 _ _) ?_
 refine wpAny_bind (m := Builtin.Builtins.bindParams "max" ["key", "default"] 0 ⟨[], [(Str.ofString "default", dv)]⟩) (wpAny_of_eq (a := [none, some dv]) rfl (wpAny_bind (wpAny_pure (wpAny_bind (wpAny_pyIter_list hl (wpAny_bind (wpAny_newObj_type ?_)))))))
 rw [zbj]
 have hax : ax < s.heap.objs.size := by obtain ⟨o, e, _⟩ := hl; exact Heap.lt_size e
 have eI : (s.heap.push { cls := .type "list_iterator", data := .fields #[.ref ax, .int 0 0] }).objs.size = s.heap.objs.size + 1 := Heap.size_push ..
 have W := Walks.list (prog := prog) (w := w) (A := A.in1) hh s.heap.objs.size ax (Nat.ne_of_lt hax) its.toArray
 have hlen := hv.length
 rw [List.length_map] at hlen
 have hS1 : (s.heap.push { cls := .type "list_iterator", data := .fields #[.ref ax, .int 0 0] }).objs.size ≠ s.heap.objs.size := by rw [eI]; exact Nat.ne_of_gt (Nat.lt_succ_self _)
 have hS2 : (s.heap.push { cls := .type "list_iterator", data := .fields #[.ref ax, .int 0 0] }).objs.size ≠ ax := by rw [eI]; exact Nat.ne_of_gt (Nat.lt_succ_of_lt hax)
 have hit : Heap.IsListIter ((s.heap.push { cls := .type "list_iterator", data := .fields #[.ref ax, .int 0 0] }).push { cls := .type "list", data := .seq #[] }) s.heap.objs.size ax 0 := ⟨_, Heap.get?_push_of_some _ (Heap.get?_push_size _ rfl), rfl, rfl⟩
 have hlk : Heap.IsList ((s.heap.push { cls := .type "list_iterator", data := .fields #[.ref ax, .int 0 0] }).push { cls := .type "list", data := .seq #[] }) ax its.toArray := hl.at fun o e => Heap.get?_push_of_some _ (Heap.get?_push_of_some _ e)
 have hS : ((s.heap.push { cls := .type "list_iterator", data := .fields #[.ref ax, .int 0 0] }).push { cls := .type "list", data := .seq #[] }).get? (s.heap.push { cls := .type "list_iterator", data := .fields #[.ref ax, .int 0 0] }).objs.size = some { cls := .type "list", data := .seq #[] } := Heap.get?_push_size _ rfl
 have old : ∀ b o, s.heap.get? b = some o → b ≠ s.heap.objs.size ∧ b ≠ (s.heap.push { cls := .type "list_iterator", data := .fields #[.ref ax, .int 0 0] }).objs.size := fun b o e => ⟨Nat.ne_of_lt (Heap.lt_size e), by rw [eI]; exact Nat.ne_of_lt (Nat.lt_succ_of_lt (Heap.lt_size e))⟩
 have kp0 : ∀ b o, s.heap.get? b = some o → ((s.heap.push { cls := .type "list_iterator", data := .fields #[.ref ax, .int 0 0] }).push { cls := .type "list", data := .seq #[] }).get? b = some o := fun b o e => Heap.get?_push_of_some _ (Heap.get?_push_of_some _ e)
 generalize (s.heap.push { cls := .type "list_iterator", data := .fields #[.ref ax, .int 0 0] }).push { cls := .type "list", data := .seq #[] } = h2 at hit hlk hS kp0 ⊢
 generalize (s.heap.push { cls := .type "list_iterator", data := .fields #[.ref ax, .int 0 0] }).objs.size = S at hS1 hS2 hS old ⊢
 refine wpAny_pure ⟨plainId_quiet F.plain_max_loop _, codeAny_builtin F.entry_max_loop ?_⟩
 rw [Around.under_plainId F.plain_max_loop _]
 cases ns with
 | nil =>
   have e0 : its = [] := by cases its with
    | nil => rfl
    | cons _ _ => simp at hlen
   subst e0
   refine wpAny_bind (wpAny_seqItems hS rfl (wpAny_bind (wpAny_tryCatch (W.done _ _ _ ⟨hit, hlk⟩ fun h1 tk kp => ?_))))
   refine wpAny_bind (wpAny_rule (wpAny_pure ?_))
   exact hQ h1 tk fun b o e => kp b o (by simpa using (old b o e).1) (kp0 b o e)
 | cons n r =>
   have h0 : 0 < its.toArray.size := by rw [List.size_toArray, ← hlen]; simp
   refine wpAny_bind (wpAny_seqItems hS rfl (wpAny_bind (wpAny_tryCatch (W.item 0 _ _ _ h0 ⟨hit, hlk⟩ fun v h1 tk hv1 st1 kp => ?_))))
   have hs1 := kp S _ (by simpa using hS1) hS
   obtain ⟨u, hu, ⟨tu, eu⟩⟩ := hv.get (i := 0) (x := .int n) rfl
   have ev : v = .int n tu := by
    have z : its[0]? = some v := by simpa using hv1
    rw [hu] at z
    rw [← eu]; exact (Option.some.inj z).symm
   subst ev
   refine wpAny_bind (wpAny_pure (wpAny_bind (wpAny_updateSeq hs1 rfl ?_)))
   rw [zbj]
   refine wpAny_pure ⟨plainId_quiet F.plain_max_loop _, zy6 hv hh (Nat.ne_of_lt hax) hS1 hS2 _ _ 1 _ n tu _ rfl (by rw [List.size_toArray] at h0; omega) ?_ ?_ (Heap.get?_update_self _ hs1 rfl) fun h3 tk3 t3 kp3 => ?_⟩
   · exact st1.1.at fun o e => (Heap.get?_update_other _ _ hS1).trans e
   · exact st1.2.at fun o e => (Heap.get?_update_other _ _ hS2).trans e
   · exact hQ h3 tk3 (fun b o e => kp3 b o (old b o e).1 (old b o e).2 ((Heap.get?_update_other _ _ (Ne.symm (old b o e).2)).trans (kp b o (by simpa using (old b o e).1) (kp0 b o e)))) t3
end
noncomputable def ints? : List Dv → Option (List Int)
 | [] => some []
 | .int i :: r => (ints? r).map (i :: ·)
 | _ => none
theorem ints?_eq : ∀ {ds : List Dv} {ns : List Int}, ints? ds = some ns → ds = ns.map Dv.int
 | [], ns, h => by cases h; rfl
 | d :: r, ns, h => by
   cases d with
   | int i =>
     simp only [ints?] at h
     cases e : ints? r with
     | none => rw [e] at h; cases h
     | some ms =>
       rw [e] at h
       cases h
       rw [ints?_eq e]; rfl
   | _ => simp [ints?] at h
theorem xE {K : W.Frag} {H : Hp} : ∀ {ns : List Int} {vs : List V}, bM K H (ns.map Dv.int) vs → vs = ns.map V.int
 | [], vs, h => h
 | n :: ns, vs, h => by
   obtain ⟨v, r, rfl, h2, h3⟩ := (show ∃ v r, vs = v :: r ∧ gN K H (.int n) v ∧ bM K H (ns.map Dv.int) r from h)
   rw [xE h3, show v = V.int n from h2]; rfl
noncomputable def goM (o : Option (List Int)) (d : Dv) (S : aN) (Q : QE) : Prop := match o with
 | some [] => Q d S
 | some (n :: r) => Q (.int (big n r)) S
 | none => False
noncomputable def zr3 (t : WA) (wd : WE) : WE := fun ρ S Q => t ρ S fun l S1 => wd ρ S1 fun dd S2 => one l fun d => goL (jU S2 d) fun ds => goM (ints? ds) dd S2 Q
theorem zv1 {X : Cx} {e dflt : Expr} {t : WA} {wd : WE} {p pos kp : Pos} (hm : X.mg "max" = none) (ha : DA X [e] t) (hd : DE X dflt wd) (hg : Gl X "max" := by rfl) (hc : X.calm = true := by rfl)
 (he : backTo pos (starEach [e] X.env) = (false, eval e X.env) :: backTo pos (starEach [] X.env) := by rfl) (hpl : (backTo pos (starEach [e] X.env)).any (·.1) = false := by rfl)
 (hks : (backToKw pos (keywordEach [⟨some "default", dflt, kp⟩] X.env)).filterMap (·.1) = [Str.ofString "default"] := by rfl)
 (hall : (backToKw pos (keywordEach [⟨some "default", dflt, kp⟩] X.env)).all (·.1.isSome) = true := by rfl) (hkw : (backToKw pos (keywordEach [⟨some "default", dflt, kp⟩] X.env)).any (·.1.isNone) = false := by rfl) :
 DE X (.Call (.Name "max" p) [e] [⟨some "default", dflt, kp⟩] pos) (zr3 t wd) := by
 intro pins s σ H Q I ⟨ρ, S, Q', env, st, hw, post⟩
 refine wpAny_Call_Name_kw (vE I hg hm boot_max ?_ (by decide) (by decide))
 have hk : PK X [⟨some "default", dflt, kp⟩] (znb (lE X.K wd) zq2) := zvd hd zyt
 refine PyProof.Rows.callWith_kw (thn (ha pos pins s σ H (fun vs H1 => (znb (lE X.K wd) zq2) σ H1 fun zs H2 => ∃ d dd ds v u S2, vs = [v] ∧ zs = [u] ∧ gN X.K H2 d v ∧ gN X.K H2 dd u ∧ cG X.K H2 S2 ∧ Ext H H2 ∧ jU S2 d = some ds ∧ goM (ints? ds) dd S2 Q') I
  ⟨ρ, S, _, env, st, hw, fun l S1 vs H1 q1 e1 st1 hl => ⟨ρ, S1, _, env.ext e1, st1, q1, fun dd S2 u H2 q2 e2 st2 hu => ?_⟩⟩) fun us s1 ⟨vs, H1, I1, r1, q1⟩ => thn (hk pos pins s1 σ H1 _ I1 q1) fun ws s2 ⟨zs, H2, I2, r2, q2⟩ => ?_) he hpl hall hkw
 · obtain ⟨d, rfl, q2⟩ := xD q2
   obtain ⟨ds, hds, q2⟩ := jY q2
   obtain ⟨v, rfl, hv⟩ := rV hl
   exact ⟨d, dd, ds, v, u, S2, rfl, rfl, dJ e2 _ _ hv, hu, st2, e1.trans e2, hds, q2⟩
 · obtain ⟨d, dd, ds, v, u, S2, rfl, rfl, hv, hu, st2, ex, hds, q⟩ := q2
   obtain ⟨w1, rfl, rw1⟩ := r1.one
   obtain ⟨w2, rfl, rw2⟩ := r2.one
   obtain ⟨a, ys, rfl, h1, h2⟩ := vJ st2 hv hds
   cases rw1
   cases hi : ints? ds with
   | none => rw [hi] at q; exact q.elim
   | some ns =>
     rw [hi] at q
     have eds := ints?_eq hi
     subst eds
     have eys := xE h2
     subst eys
     obtain ⟨its, rv, pl, hz⟩ := I2.list h1
     rw [hks]
     refine zv0 rv (show X.A.in1.handled = none from I.ok.hd hc) pl.isList w2 fun h' tk kp => ?_
     have I3 : L2.Inv X pins σ H2 { s2 with heap := h', toks := tk } := I2.kept (t' := tk) kp
     cases ns with
     | nil => exact ⟨u, H2, I3, rw2, post dd S2 u H2 q ex st2 hu⟩
     | cons n r => exact fun t' => ⟨.int (big n r), H2, I3, ⟨t', rfl⟩, post _ S2 _ H2 q ex st2 rfl⟩
structure Kp {α : Type} (a : α) : Type where
structure KpP (a : Prop) : Type where
noncomputable def goK (o : Option Dv) (S : aN) (Q : QE) (_ : Kp Q := ⟨⟩) (_ : True := trivial) : Prop := go o S Q
noncomputable def zy7 (o : Option Bool) (S : aN) (Q : Bool → aN → Prop) (_ : Kp Q := ⟨⟩) (_ : True := trivial) : Prop := goB o S Q
noncomputable def zdj (o : Option (List Dv)) (Q : List Dv → Prop) (_ : Kp Q := ⟨⟩) (_ : True := trivial) : Prop := goL o Q
noncomputable def zy8 (o : Option (List Int)) (d : Dv) (S : aN) (Q : QE) (_ : Kp Q := ⟨⟩) (_ : True := trivial) : Prop := goM o d S Q
noncomputable def zpf (l : List Dv) (k : Dv → Prop) (_ : Kp k := ⟨⟩) (_ : True := trivial) : Prop := one l k
noncomputable def vM (S : aN) (d : Dv) (k : Addr → List Dv → Prop) (_ : Kp k := ⟨⟩) (_ : True := trivial) : Prop := zaf S d k
noncomputable def zr4 (l : List Dv) (k : Int → Prop) (_ : Kp k := ⟨⟩) (_ : True := trivial) : Prop := zrm l k
noncomputable def zxv (l : List Dv) (k : Int → Int → Prop) (_ : Kp k := ⟨⟩) (_ : True := trivial) : Prop := zvs l k
@[simp] theorem tQ {d : Dv} {S : aN} {Q : QE} : goK (some d) S Q = Q d S := id rfl
@[simp] theorem zabl {b : Bool} {S : aN} {Q : Bool → aN → Prop} : zy7 (some b) S Q = Q b S := id rfl
@[simp] theorem zb1 {ds : List Dv} {Q : List Dv → Prop} : zdj (some ds) Q = Q ds := id rfl
@[simp] theorem ev?_z {d : Dv} {r : Ev} : ev? (some d :: r) 0 = some d := id rfl
@[simp] theorem ev?_s {x : Option Dv} {r : Ev} {n : Nat} : ev? (x :: r) (n + 1) = ev? r n := by simp [ev?]
@[simp ↓] theorem zbk {i : Nat} {ρ : Ev} {S : aN} {Q : QE} : aD i ρ S Q = goK (ev? ρ i) S Q := id rfl
@[simp ↓] theorem zabm {d : Dv} {ρ : Ev} {S : aN} {Q : QE} : wC d ρ S Q = Q d S := id rfl
@[simp ↓] theorem zy9 {f : F2} {a b : WE} {ρ : Ev} {S : aN} {Q : QE} : aU f a b ρ S Q = a ρ S (fun x S1 => b ρ S1 fun y S2 => goK (f S2 x y) S2 Q) := id rfl
@[simp ↓] theorem zac3 {f : F2b} {a b : WE} {ρ : Ev} {S : aN} {Q : Bool → aN → Prop} : bN f a b ρ S Q = a ρ S (fun x S1 => b ρ S1 fun y S2 => zy7 (f S2 x y) S2 Q) := id rfl
@[simp ↓] theorem zabn {w : WE} {ρ : Ev} {S : aN} {Q : Bool → aN → Prop} : bZ w ρ S Q = w ρ S (fun d S1 => zy7 (tru S1 d) S1 Q) := id rfl
@[simp ↓] theorem zac4 {a b : WT} {ρ : Ev} {S : aN} {Q : Bool → aN → Prop} : uJ a b ρ S Q = a ρ S (fun c S1 => if c = true then b ρ S1 Q else Q false S1) := id rfl
@[simp ↓] theorem zaep {a b : WT} {ρ : Ev} {S : aN} {Q : Bool → aN → Prop} : yM a b ρ S Q = a ρ S (fun c S1 => if c = true then Q true S1 else b ρ S1 Q) := id rfl
@[simp ↓] theorem zac5 {a : WT} {ρ : Ev} {S : aN} {Q : Bool → aN → Prop} : eN a ρ S Q = a ρ S (fun c S1 => Q (!c) S1) := id rfl
noncomputable def zza (x : Dv) (t f : Prop) (_ : KpP t := ⟨⟩) (_ : KpP f := ⟨⟩) (_ : True := trivial) : Prop := match x with
 | .bl true => t
 | .bl false => f
 | _ => False
@[simp] theorem zac6 {b : Bool} {t f : Prop} : zza (.bl b) t f = if b = true then t else f := by cases b <;> rfl
@[simp ↓] theorem zabo {a b : WE} {ρ : Ev} {S : aN} {Q : QE} : kW a b ρ S Q = a ρ S (fun x S1 => zza x (b ρ S1 Q) (Q (.bl false) S1)) := by
  unfold kW; congr 1
@[simp ↓] theorem zac7 {a b : WE} {ρ : Ev} {S : aN} {Q : QE} : zvr a b ρ S Q = a ρ S (fun x S1 => zza x (Q (.bl true) S1) (b ρ S1 Q)) := by
  unfold zvr; congr 1
noncomputable def zpg (x : Dv) (k : Bool → Prop) (_ : Kp k := ⟨⟩) (_ : True := trivial) : Prop := match x with
 | .bl c => k (!c)
 | _ => False
@[simp] theorem zac8 {b : Bool} {k : Bool → Prop} : zpg (.bl b) k = k (!b) := id rfl
@[simp ↓] theorem zabp {a : WE} {ρ : Ev} {S : aN} {Q : QE} : zer a ρ S Q = a ρ S (fun x S1 => zpg x fun c => Q (.bl c) S1) := by
  unfold zer; congr 1
@[simp ↓] theorem znp {ρ : Ev} {S : aN} {Q : List Dv → aN → Prop} : aO ρ S Q = Q [] S := id rfl
@[simp ↓] theorem zis {a : WE} {r : WA} {ρ : Ev} {S : aN} {Q : List Dv → aN → Prop} : aE a r ρ S Q = a ρ S (fun x S1 => r ρ S1 fun xs S2 => Q (x :: xs) S2) := id rfl
@[simp ↓] theorem zv2 {t : WA} {ρ : Ev} {S : aN} {Q : QE} : oV t ρ S Q = t ρ S (fun ds S1 => ds.length ≤ 1000 ∧ Q (.tup ds) S1) := id rfl
@[simp ↓] theorem zv3 {t : WA} {ρ : Ev} {S : aN} {Q : QE} : zf3 t ρ S Q = t ρ S (fun ds S1 => ds.length ≤ 1000 ∧ Q (.lst ds) S1) := id rfl
@[simp ↓] theorem zabq {t : WA} {ρ : Ev} {S : aN} {Q : QE} : wZ t ρ S Q = t ρ S (fun ds S1 => ds.length ≤ 1000 ∧ ∀ p, S1 p = none → Q (.ref p) (cB S1 p (.lst ds))) := id rfl
@[simp ↓] theorem zv4 {a b : WS} {D : Dn} {ρ : Ev} {S : aN} : aS a b D ρ S = a { D with nx := b D } ρ S := id rfl
@[simp ↓] theorem zv5 {i : Nat} {w : WE} {D : Dn} {ρ : Ev} {S : aN} : cI i w D ρ S = w ρ S (fun d S1 => D.nx (ρ.set i (some d)) S1) := id rfl
@[simp ↓] theorem zf7 {w : WE} {D : Dn} {ρ : Ev} {S : aN} : bA w D ρ S = w ρ S D.rt := id rfl
@[simp ↓] theorem zaeq {c : WT} {a b : WS} {D : Dn} {ρ : Ev} {S : aN} : eO c a b D ρ S = c ρ S (fun t S1 => if t = true then a D ρ S1 else b D ρ S1) := id rfl
@[simp ↓] theorem zabr {w : WE} {D : Dn} {ρ : Ev} {S : aN} : mL w D ρ S = w ρ S (fun _ S1 => D.nx ρ S1) := id rfl
@[simp ↓] theorem zabs {D : Dn} {ρ : Ev} {S : aN} : aY D ρ S = D.nx ρ S := id rfl
@[simp ↓] theorem zr5 {sp : Ds} {t : WA} {ρ : Ev} {S : aN} {Q : QE} : bE sp t ρ S Q = t ρ S (fun ds S1 => sp ds S1 Q) := id rfl
@[simp ↓] theorem zaer {f : Fn} {t : WA} {ρ : Ev} {S : aN} {Q : QE} : kZ f t ρ S Q = t ρ S (fun ds S1 => goK (f S1 ds) S1 Q) := id rfl
@[simp ↓] theorem zac9 {T : String} {w : WE} {ρ : Ev} {S : aN} {Q : QE} : fG T w ρ S Q = w ρ S (fun d S1 => goK (isI S1 T d) S1 Q) := id rfl
@[simp ↓] theorem zada {i : Nat} {src : WE} {b : WS} {D : Dn} {ρ : Ev} {S : aN} : za0 i src b D ρ S = src ρ S (fun d S1 => zdj (roL d) fun xs => dL i b D xs ρ S1) := id rfl
@[simp ↓] theorem zz8 {i : Nat} {t : WA} {b : WS} {D : Dn} {ρ : Ev} {S : aN} : qK i t b D ρ S = t ρ S (fun l S1 => zr4 l fun j => gK i b D j.toNat 0 ρ S1) := id rfl
@[simp] theorem zabt {j : Int} {Q : Int → Prop} : zr4 [.int j] Q = ((-(2 ^ 62) ≤ j ∧ j < 2 ^ 62) ∧ Q j) := id rfl
@[simp] theorem zabu {i j : Int} {Q : Int → Int → Prop} : zxv [.int i, .int j] Q = ((-(2 ^ 62) ≤ i ∧ i < 2 ^ 62 ∧ -(2 ^ 62) ≤ j ∧ j < 2 ^ 62) ∧ Q i j) := id rfl
@[simp ↓] theorem zabv {i : Nat} {a : WS} {D : Dn} {ρ : Ev} {S : aN} : zes i a D ρ S = a { D with nx := fun ρ1 S1 => xC i ρ1 S1 D.nx } ρ S := id rfl
@[simp] theorem zafp {x : Dv} {k : Dv → Prop} : zpf [x] k = k x := id rfl
@[simp ↓] theorem zadb {o : WE} {a : WA} {ρ : Ev} {S : aN} {Q : QE} : yS o a ρ S Q = o ρ S (fun d S1 => vM S1 d fun _ _ => a ρ S1 fun l S2 => vM S2 d fun p ds => zpf l fun x => ds.length < mT ∧ Q .non (cB S2 p (.lst (ds ++ [x])))) := id rfl
@[simp] theorem zz9 {S : aN} {p : Addr} {ds : List Dv} {k : Addr → List Dv → Prop} : vM (cB S p (.lst ds)) (.ref p) k = k p ds := by
  simp [vM, zaf, cF]
@[simp ↓] theorem zzb {e : WE} {lo hi : Option WE} {ρ : Ev} {S : aN} {Q : QE} : wSl e lo hi ρ S Q = e ρ S (fun d S1 => kX lo ρ S1 fun l S2 => kX hi ρ S2 fun h S3 => zdj (jU S3 d) fun ds => Q (.lst (rQ ds l h)) S3) := id rfl
@[simp ↓] theorem zlz {ρ : Ev} {S : aN} {Q : Option Int → aN → Prop} : kX none ρ S Q = Q none S := id rfl
noncomputable def asI (d : Dv) (k : Int → Prop) (_ : Kp k := ⟨⟩) (_ : True := trivial) : Prop := match d with
 | .int i => k i
 | _ => False
@[simp] theorem znq {i : Int} {k : Int → Prop} : asI (.int i) k = k i := id rfl
@[simp ↓] theorem zl0 {w : WE} {ρ : Ev} {S : aN} {Q : Option Int → aN → Prop} : kX (some w) ρ S Q = w ρ S (fun d S1 => asI d fun i => Q (some i) S1) := by
  unfold kX; dsimp only; congr 1
@[simp ↓] theorem zabw {t : WA} {wd : WE} {ρ : Ev} {S : aN} {Q : QE} : zr3 t wd ρ S Q = t ρ S (fun l S1 => wd ρ S1 fun dd S2 => zpf l fun d => zdj (jU S2 d) fun ds => zy8 (ints? ds) dd S2 Q) := id rfl
@[simp ↓] theorem zzc {src : WE} {wt : WT} {we : WE} {ρ : Ev} {S : aN} {Q : QE} : iS src wt we ρ S Q = src ρ S (fun d S1 => zdj (roL d) fun xs => cmpL wt we xs S1 [] fun ys S2 => Q (.lst ys) S2) := id rfl
@[simp ↓] theorem zabx {src we : WE} : zag src we = iS src rW we := id rfl
@[simp ↓] theorem zadc {ρ : Ev} {S : aN} {Q : Bool → aN → Prop} : rW ρ S Q = Q true S := id rfl
@[simp] theorem zaby {S : aN} {i j : Int} : fO S (.int i) (.int j) = some (.int (i + j)) := id rfl
@[simp] theorem zabz {S : aN} {i j : Int} : zf4 S (.int i) (.int j) = some (.int (i - j)) := id rfl
@[simp] theorem zadd {S : aN} {i j : Int} : oLt S (.int i) (.int j) = some (decide (i < j)) := id rfl
@[simp] theorem zade {S : aN} {i j : Int} : oGt S (.int i) (.int j) = some (decide (j < i)) := id rfl
@[simp] theorem zadf {S : aN} {i j : Int} : oGe S (.int i) (.int j) = some (decide (j ≤ i)) := id rfl
@[simp] theorem zab0 {f : F2b} {S : aN} {x y : Dv} : mS f S x y = (f S x y).map .bl := id rfl
@[simp] theorem zadg {S : aN} {i j : Int} : iL S (.int i) (.int j) = some (decide (i = j)) := by
  have e : wR (.int i) (.int j) = (i == j) := rfl
  show (if (mE (.int i) && mE (.int j)) = true then some (wR (.int i) (.int j)) else none) = _
  rw [e, Bool.beq_eq_decide_eq]
  exact if_pos rfl
@[simp] theorem zadh {S : aN} {i j : Int} : pH S (.int i) (.int j) = some (!decide (i = j)) := by
  have e : wR (.int i) (.int j) = (i == j) := rfl
  show (if (mE (.int i) && mE (.int j)) = true then some (!wR (.int i) (.int j)) else none) = _
  rw [e, Bool.beq_eq_decide_eq]
  exact if_pos rfl
@[simp] theorem zaes {S : aN} {i j : Bool} : pH S (.bl i) (.bl j) = some (!decide (i = j)) := by
  have e : wR (.bl i) (.bl j) = (i == j) := rfl
  show (if (mE (.bl i) && mE (.bl j)) = true then some (!wR (.bl i) (.bl j)) else none) = _
  rw [e, Bool.beq_eq_decide_eq]
  exact if_pos rfl
theorem zf8 {a b c d : Int} : wR (.tup [.int a, .int b]) (.tup [.int c, .int d]) = decide (a = c ∧ b = d) := by
 have e : wR (.tup [.int a, .int b]) (.tup [.int c, .int d]) = (a == c && (b == d && true)) := rfl
 rw [e, Bool.eq_iff_iff]; simp
@[simp] theorem zadi {S : aN} {a b c d : Int} : iL S (.tup [.int a, .int b]) (.tup [.int c, .int d]) = some (decide (a = c ∧ b = d)) := by
  show (if (mE (.tup [.int a, .int b]) && mE (.tup [.int c, .int d])) = true then some (wR (.tup [.int a, .int b]) (.tup [.int c, .int d])) else none) = _
  rw [zf8]
  exact if_pos rfl
@[simp] theorem zadj {S : aN} {a b c d : Int} : pH S (.tup [.int a, .int b]) (.tup [.int c, .int d]) = some (!decide (a = c ∧ b = d)) := by
  show (if (mE (.tup [.int a, .int b]) && mE (.tup [.int c, .int d])) = true then some (!wR (.tup [.int a, .int b]) (.tup [.int c, .int d])) else none) = _
  rw [zf8]
  exact if_pos rfl
@[simp] theorem zafr {S : aN} {a : Dv} {r : List Dv} : bI S (.tup (a :: r)) (.int 0) = some a := by
  show atI (a :: r) 0 = some a
  simp [atI, ixN]
theorem rX {ds : List Dv} {i : Int} {d : Dv} (h0 : 0 ≤ i) (h : ds[i.toNat]? = some d) : atI ds i = some d := by
 have hl : i.toNat < ds.length := (List.getElem?_eq_some_iff.mp h).1
 unfold atI ixN
 rw [if_pos h0, if_pos (by omega)]
 exact h
@[simp] theorem zafs {S : aN} {a b : Dv} {r : List Dv} : bI S (.tup (a :: b :: r)) (.int 1) = some b := rX (i := 1) (by decide) rfl
@[simp] theorem zaft {S : aN} {a b c : Dv} {r : List Dv} : bI S (.tup (a :: b :: c :: r)) (.int 2) = some c := rX (i := 2) (by decide) rfl
@[simp] theorem zafu {S : aN} {a b c d : Dv} {r : List Dv} : bI S (.tup (a :: b :: c :: d :: r)) (.int 3) = some d := rX (i := 3) (by decide) rfl
theorem eP {S : aN} {ds : List Dv} {i : Int} {d : Dv} (h0 : 0 ≤ i) (h : ds[i.toNat]? = some d) : bI S (.lst ds) (.int i) = some d := rX h0 h
theorem zzd {S : aN} {ns : List Int} {i : Int} (h0 : 0 ≤ i) (h : i.toNat < ns.length) : bI S (.scr ns) (.int i) = some (.int (ns.getD i.toNat 0)) :=
 rX h0 (by simp [h])
@[simp] theorem zab1 {S : aN} {ns : List Int} : dZ S [.scr ns] = some (.int ns.length) := by simp [dZ, jU]
@[simp] theorem zr6 {S : aN} {ds : List Dv} : dZ S [.lst ds] = some (.int ds.length) := by simp [dZ, jU]
@[simp] theorem zr7 {S : aN} {ds : List Dv} : dZ S [.tup ds] = some (.int ds.length) := id rfl
@[simp] theorem zab2 {S : aN} {p : Addr} {ds : List Dv} : dZ (cB S p (.lst ds)) [.ref p] = some (.int ds.length) := by simp [dZ, jU, cF]
@[simp] theorem zaaa {S : aN} {ds : List Dv} : rK S [.lst ds] = some (.lst ds) := id rfl
@[simp] theorem zadk {ds : List Dv} : roL (.lst ds) = some ds := id rfl
@[simp] theorem xF {S : aN} {ds : List Dv} : jU S (.lst ds) = some ds := id rfl
@[simp] theorem zv6 {S : aN} {ns : List Int} : jU S (.scr ns) = some (ns.map .int) := id rfl
@[simp] theorem zadl {S : aN} {p : Addr} {ds : List Dv} : jU (cB S p (.lst ds)) (.ref p) = some ds := by simp [jU, cF]
@[simp] theorem zaet {S : aN} {b : Bool} : tru S (.bl b) = some b := id rfl
@[simp] theorem zxw {S : aN} {i : Int} : isI S "int" (.int i) = some (.bl true) := id rfl
@[simp] theorem zv7 {S : aN} {i : Int} : isI S "bool" (.int i) = some (.bl false) := id rfl
@[simp] theorem zuo {S : aN} {i : Bool} : isI S "bool" (.bl i) = some (.bl true) := id rfl
@[simp] theorem zup {S : aN} {ds : List Dv} : isI S "tuple" (.tup ds) = some (.bl true) := id rfl
@[simp] theorem zv8 {S : aN} {ds : List Dv} : isI S "list" (.lst ds) = some (.bl true) := id rfl
@[simp] theorem zxx {S : aN} {x : Str} : isI S "str" (.str x) = some (.bl true) := id rfl
theorem yW {i : Nat} {ρ : Ev} {S : aN} {p : Addr} {ds : List Dv} {k : Ev → aN → Prop} (h1 : ev? ρ i = some (.ref p)) (h2 : S p = none) (h : k (ρ.set i (some (.lst ds))) S) : xC i ρ (cB S p (.lst ds)) k := by
 simp only [xC, h1, cF, zpb h2]
 exact h
noncomputable def Ite (K : W.Frag) (a : Addr) : It :=
 ⟨fun i H => ∃ xs x, uR K H a xs ∧ xs[i]? = some x, fun i H v H' => ∃ p x, v = .ref p ∧ H p = none ∧ H' = upd H p (.tup [.int i, x]) ∧ ∀ xs, uR K H a xs → xs[i]? = some x, fun i H => ∃ xs, uR K H a xs ∧ xs.length ≤ i⟩
theorem zph {P : Program} {w : World} {K : W.Frag} {es : List Expr} {k : Nat} {pt : Pos} (a e it : Addr) (hne : e ≠ it) :
 Turn P w K (.Tuple es k pt) (Ite K a) [e, it] e (fun i h => (∃ old, IsEnum h e it (i : Int) old) ∧ h.IsListIter it a i) where
 mem := by simp
 obj := fun i h st b hb => by
  obtain ⟨⟨old, h1⟩, o, h2, h3, h4⟩ := st
  rcases List.mem_cons.mp hb with rfl | hb
  · exact ⟨_, h1, fun v z => by
     have z' : Data.fields _ = Data.cell v := z
     cases z'⟩
  · cases List.mem_singleton.mp hb
    exact ⟨o, h2, fun v z => by rw [h4] at z; cases z⟩
 keep := fun i h h' st kp => by
  obtain ⟨⟨old, h1⟩, h2⟩ := st
  exact ⟨⟨old, kp e (by simp) _ h1⟩, h2.at fun o q => kp it (by simp) o q⟩
 item := by
  intro X hP hw hK hc i pins s σ H E I hf st hg
  subst hP hw hK
  obtain ⟨xs, x, hq, hx⟩ := hg
  obtain ⟨⟨old, he⟩, hit⟩ := st
  obtain ⟨its, rv, pl, hz⟩ := I.list hq
  obtain ⟨u, hu, ru⟩ := rv.get hx
  have fe := hf e (by simp)
  have fi := hf it (by simp)
  refine wpAny_pyNext_enum_item he hit pl.isList (x := u) (by simpa using hu) hne fun h1 heo hit1 ht1 hz1 hk1 => ⟨_, rfl, ?_⟩
  refine wpAny_letOwnedTupleGo_enum heo fun h2 he2 hs2 => ?_
  have hs2' : Heap.SameBut e h1 h2 := hs2
  have kp : ∀ b o, b ≠ e → b ≠ it → s.heap.get? b = some o → h2.get? b = some o := fun b o b1 b2 q => (hs2'.2 b b1).trans (hk1 b o b1 b2 q)
  have hel : e < s.heap.objs.size := Heap.lt_size he
  have hT : h2.get? s.heap.objs.size = some { cls := .type "tuple", data := .seq #[.int i s.toks, u] } := (hs2'.2 _ (Nat.ne_of_gt hel)).trans ht1
  have hTn : H s.heap.objs.size = none := I.fresh
  have big : ∀ {b : Addr} {o : HO}, H b = some o → b ≠ s.heap.objs.size := fun q => iW q hTn
  have I2 : L2.Inv X pins σ (upd H s.heap.objs.size (.tup [.int i, x])) { s with heap := h2, toks := s.toks + 1 } := by
   refine I.call' (s' := { s with heap := h2, toks := s.toks + 1 }) (ch := [e, it]) rfl ⟨fun b o q n hb hx => ?_, fun b o q n hb hx => ⟨o.slots, ?_⟩, fun b o q n hx => ?_, fun b o q hx => ⟨o, ?_⟩, fun b ys q => ?_, fun b o u q => ?_, fun b ps q => ⟨#[], ?_⟩⟩ ?_ I.bare fun b hb => ?_
   · exact kp b o (fun z => hx (by simp [z])) (fun z => hx (by simp [z])) q
   · exact kp b o (fun z => hx (by simp [z])) (fun z => hx (by simp [z])) q
   · rw [bD (Nat.ne_of_lt (Heap.lt_size q))]; exact n
   · exact kp b o (fun z => hx (by simp [z])) (fun z => hx (by simp [z])) q
   · rw [bD (big q)]; exact q
   · rw [bD (big q)]; exact q
   · rw [bD (big q), Array.append_empty]; exact q
   · intro b ob q
     by_cases hb : b = s.heap.objs.size
     · subst hb
       rw [bP] at q
       cases q
       exact ⟨by show 2 ≤ sizeLine; decide, [.int i s.toks, u], .cons ⟨_, rfl⟩ (.cons ru .nil), ⟨_, hT, rfl, _, rfl⟩⟩
     · rw [bD hb] at q
       refine (I.hok b ob q).stay (fun c w hc qc => kp c w (fun z => ?_) (fun z => ?_) qc) (fun c hc => ?_) fun c ys hc => ?_
       · rcases hc with hc | hc
         · rw [← hc, z, fe.1] at q; cases q
         · rw [z, fe.1] at hc; cases hc
       · rcases hc with hc | hc
         · rw [← hc, z, fi.1] at q; cases q
         · rw [z, fi.1] at hc; cases hc
       · rw [bD (big hc)]; exact hc
       · rw [bD (big hc)]; exact hc
   · rcases List.mem_cons.mp hb with rfl | hb
     · exact ⟨fe.2.2.2.1, fe.2.1, fe.2.2.2.2.1, fe.2.2.2.2.2⟩
     · cases List.mem_singleton.mp hb
       exact ⟨fi.2.2.2.1, fi.2.1, fi.2.2.2.2.1, fi.2.2.2.2.2⟩
  refine ⟨.ref s.heap.objs.size, _, I2, rfl, ⟨_, x, rfl, hTn, rfl, fun ys hy => by rw [I.list_inj hy hq]; exact hx⟩, ⟨⟨u, he2⟩, hit1.at fun o q => (hs2'.2 it (Ne.symm hne)).trans q⟩, fun b hb => ?_⟩
  rcases List.mem_cons.mp hb with rfl | hb
  · rw [bD (Nat.ne_of_lt hel)]; exact fe.1
  · cases List.mem_singleton.mp hb
    obtain ⟨o, q, _⟩ := hit
    rw [bD (Nat.ne_of_lt (Heap.lt_size q))]; exact fi.1
 done := by
  intro X hP hw hK hc i pins s σ H E I hf st hg
  subst hP hw hK
  obtain ⟨xs, hq, hx⟩ := hg
  obtain ⟨⟨old, he⟩, hit⟩ := st
  obtain ⟨its, rv, pl, hz⟩ := I.list hq
  obtain ⟨f0, f1, f2, f3, f4, f5⟩ := hf it (by simp)
  have hl := rv.length
  exact wpAny_pyNext_enum_end (I.ok.hd hc) he hit pl.isList (by simp; omega) fun h' eb => ⟨rfl, I.turned (t' := s.toks) (fun b o hb q => eb b o hb q) f0 f1 f3 f4 f5⟩
 self := fun A i s Q E st h => by
  obtain ⟨⟨old, he⟩, hit⟩ := st
  exact wpAny_pyIter_enum he h
noncomputable def zxy (K : W.Frag) (ta : TA) : TI := fun σ H R => ta σ H fun vs H1 => ∃ a, vs = [.ref a] ∧ (∃ xs, uR K H1 a xs) ∧ R (Ite K a) H1
section
variable {X : Cx}
theorem zv9 {a : Expr} {ta : TA} {es : List Expr} {k : Nat} {pt p pos : Pos} (hg : Gl X "enumerate") (hm : X.mg "enumerate" = none) (ha : PA X [a] ta) (hs : starEach [a] X.env = [(false, eval a X.env)]) :
 PI X (.Tuple es k pt) (.Call (.Name "enumerate" p) [a] [] pos) (zxy X.K ta) := by
 intro pins s σ H R I h
 refine Call_ (vE I hg hm boot_enumerate (PyProof.Rows.callWith_type1 (thn (ha pos pins s σ H _ I h) fun us s1 ⟨vs, H1, I1, r1, q1⟩ => ?_) hs rfl))
 obtain ⟨l, e, ⟨xs, hq⟩, q⟩ := q1
 subst e
 obtain ⟨u, rfl, ru⟩ := r1.one
 cases ru
 obtain ⟨its, rv, pl, hz⟩ := I1.list hq
 refine call_enumerate_list pl.isList fun h' he hit hsz kp => wpAny_pyIter_enum he ?_
 have I2 : L2.Inv X pins σ H1 { s1 with heap := h' } := I1.kept (t' := s1.toks) kp
 refine ⟨s1.heap.objs.size + 1, [s1.heap.objs.size + 1, s1.heap.objs.size], _, _, H1, rfl, I2, zph l _ _ (Nat.succ_ne_self _), ⟨⟨_, he⟩, hit⟩, fun b hb => ?_, q⟩
 rcases List.mem_cons.mp hb with rfl | hb
 · exact I1.fpOk (Nat.le_succ _) (I1.hok.fresh (Nat.le_succ _))
 · cases List.mem_singleton.mp hb
   exact I1.fpOk (Nat.le_refl _) (I1.hok.fresh (Nat.le_refl _))
noncomputable def zdk (i j : Nat) (b : WS) (D : Dn) : Int → List Dv → Ev → aN → Prop
 | _, [], ρ, S => D.nx ρ S
 | k, x :: xs, ρ, S => b { D with nx := zdk i j b D (k + 1) xs, ct := zdk i j b D (k + 1) xs, bk := D.nx } ((ρ.set i (some (.int k))).set j (some x)) S
noncomputable def znr (i j : Nat) (src : WA) (b : WS) : WS := fun D ρ S => src ρ S fun l S1 => one l fun d => goL (roL d) fun xs => zdk i j b D 0 xs ρ S1
theorem zpi {K : W.Frag} {i j : Nat} {src : WA} {b : WS} (D : Ends) (σ : L2.St) (H : Hp) (h : lS K (znr i j src b) D σ H) : zu2 (zxy K (lA K src)) (gTup K 2 (zqp (zbq i) (zqp (zbq j) gNil))) (lS K b) D σ H := by
 obtain ⟨ρ, S, D', env, st, hw, dn⟩ := h
 refine ⟨ρ, S, _, env, st, hw, fun l S1 us H1 q e st1 hl => ?_⟩
 obtain ⟨d, rfl, q⟩ := xD q
 obtain ⟨v, rfl, hd⟩ := rV hl
 obtain ⟨ds, hds, q⟩ := jY q
 obtain ⟨a, vs, rfl, hq, hv⟩ := yN hd hds
 refine ⟨a, rfl, ⟨vs, hq.sq⟩, fun t m σ2 H2 => m = vs.length - t ∧ t ≤ vs.length ∧ LoopAt K H1 (zdk i j b D' (t : Int) (ds.drop t)) σ2 H2, ⟨vs.length, rfl, Nat.zero_le _, ρ, S1, env.ext e, st1, Ext.refl _, q⟩, ?_⟩
 rintro t m σ2 H2 ⟨rfl, ht, ρ2, S2, env2, st2, e2, q2⟩
 have sq := (e2.sqR hq).sq
 by_cases hlt : t < vs.length
 · have hvt : vs[t]? = some vs[t] := by simp [hlt]
   obtain ⟨y, hy, dy⟩ := mY hv hvt
   rw [iX hy] at q2
   refine .inr ⟨⟨vs, vs[t], sq, hvt⟩, fun σ3 H3 => ∃ ρ3 S3, EnvOk K H3 ρ3 σ3 ∧ cG K H3 S3 ∧ Ext H1 H3 ∧ zdk i j b D' ((t : Int) + 1) (ds.drop (t + 1)) ρ3 S3, fun σ3 H3 ⟨ρ3, S3, en3, s3, e3, q3⟩ => ⟨vs.length - (t + 1), by omega, rfl, hlt, ρ3, S3, en3, s3, e3, q3⟩, fun w H3 hw3 => ?_⟩
   obtain ⟨p, x, rfl, hp, rfl, hx⟩ := hw3
   have ex : x = vs[t] := by
    have z := hx vs sq
    rw [hvt] at z
    exact (Option.some.inj z).symm
   subst ex
   have sm := fP hp (.tup [.int (t : Int), vs[t]])
   have dy' := dJ (e2.trans (bF sm)) _ _ dy
   refine ⟨p, _, rfl, .inl (.inl bP), rfl, _, _, rfl, _, _, rfl, rfl, ?_⟩
   refine ⟨_, S2, _, ((env2.ext (bF sm)).set (i := i) (d := .int t) (v := .int t) rfl).set (i := j) dy', st2.same sm, q2, ⟨?_, ?_, ?_, ?_⟩⟩
   · exact fun ρ4 S4 σ4 H4 q4 e4 env4 st4 => ⟨ρ4, S4, env4, st4, (e2.trans (bF sm)).trans e4, q4⟩
   · exact fun d S4 v H4 q4 e4 st4 hd => dn.rt d S4 v H4 q4 ((e.trans (e2.trans (bF sm))).trans e4) st4 hd
   · exact fun ρ4 S4 σ4 H4 q4 e4 env4 st4 => dn.nx ρ4 S4 σ4 H4 q4 ((e.trans (e2.trans (bF sm))).trans e4) env4 st4
   · exact fun ρ4 S4 σ4 H4 q4 e4 env4 st4 => ⟨ρ4, S4, env4, st4, (e2.trans (bF sm)).trans e4, q4⟩
 · have et : t = vs.length := by omega
   subst et
   rw [List.drop_eq_nil_of_le (by rw [bX hv]; exact Nat.le_refl _)] at q2
   exact .inl ⟨⟨vs, sq, Nat.le_refl _⟩, dn.nx ρ2 S2 σ2 H2 q2 (e.trans e2) env2 st2⟩
theorem zwa {i j : Nat} {x y : Str} {a : Expr} {body : List Stmt} {t : WA} {tb : WS} {pos px py pt pc pr : Pos} {k : Nat} (hp : PassesOwn (model X.prog X.w) X.A X.env X.xe) (hN : X.N.Nodup) (hm : X.mg "enumerate" = none) (ha : DA X [a] t) (hb : DSs X body tb) (hc : X.calm = true := by rfl)
 (hg : Gl X "enumerate" := by rfl) (hi : X.N[i]? = some x := by rfl) (hj : X.N[j]? = some y := by rfl) (hx : Loc X.env.scope x := by first | exact Or.inl rfl | exact Or.inr rfl) (hy : Loc X.env.scope y := by first | exact Or.inl rfl | exact Or.inr rfl)
 (hfx : X.fn x = true ∨ X.env.scope.names.lookup x = some .local := by first | exact .inl rfl | exact .inr rfl | assumption) (hfy : X.fn y = true ∨ X.env.scope.names.lookup y = some .local := by first | exact .inl rfl | exact .inr rfl | assumption)
 (hst : starEach [a] X.env = [(false, eval a X.env)] := by rfl) (hs : ∀ x, foldedSetIterable (.Call (.Name "enumerate" pr) [a] [] pc) X.env x = pure x := by intro _; rfl)
 (h1 : (assignEach [.Name x px, .Name y py] X.env).map (·.2) = assign (.Name x px) X.env :: (assignEach [.Name y py] X.env).map (·.2) := by rfl) (h2 : (assignEach [.Name y py] X.env).map (·.2) = assign (.Name y py) X.env :: (assignEach [] X.env).map (·.2) := by rfl)
 (hn : (assignEach [.Name x px, .Name y py] X.env).length = 2 := by rfl) (hsn : (assignEach [.Name x px, .Name y py] X.env).findIdx? (·.1) = none := by rfl) :
 DS X (.For (.Tuple [.Name x px, .Name y py] k pt) (.Call (.Name "enumerate" pr) [a] [] pc) body [] pos) (znr i j t tb) :=
 PS.weak (zbr hp hc (zv9 hg hm ha hst) (zyi hc (zh6 (mQ hN hi hx hfx) (zh6 (mQ hN hj hy hfy) zu1 h2) h1) hn hsn) hb hs) zpi
end
@[simp ↓] theorem zab3 {i j : Nat} {src : WA} {b : WS} {D : Dn} {ρ : Ev} {S : aN} : znr i j src b D ρ S = src ρ S (fun l S1 => zpf l fun d => zdj (roL d) fun xs => zdk i j b D 0 xs ρ S1) := id rfl
theorem zr8 {X : Cx} {i : Int} {j : Nat} {pos p : Pos} : DE X (.UnaryOp .USub (.Constant (.int i) j pos) p) (wC (.int (-i))) :=
 PE.weak (zaa2 zyp zqm) fun σ H Q ⟨ρ, S, Q', env, st, hw, post⟩ => ⟨i, rfl, post (.int (-i)) S _ H hw (Ext.refl H) st rfl⟩
noncomputable def zb2 (o : Obj) (a b : Int) : Bool := match o.cls, o.data with
 | .type "tuple", .seq ⟨[.int x _, .int y _]⟩ _ => x == a && y == b
 | _, _ => false
theorem zl1 {K : W.Frag} {A : Addr} {o : Obj} (x : K.lookup A = some o) (v : zb2 o 0 0 = true) : ∀ H, gN K H (.tup [.int 0, .int 0]) (.ref A) := fun H => by
 unfold zb2 at v
 split at v
 · rename_i x1 t1 y1 t2 n hc hd
   obtain ⟨e1, e2⟩ := Bool.and_eq_true_iff.mp v
   have e1' : x1 = 0 := eq_of_beq e1
   have e2' : y1 = 0 := eq_of_beq e2
   subst e1' e2'
   refine ⟨A, [.int 0, .int 0], rfl, .inr ⟨.inr ⟨o, _, n, x, hc, hd, by show 2 ≤ sizeLine; decide, .cons ⟨t1, rfl⟩ (.cons ⟨t2, rfl⟩ .nil)⟩, rfl⟩, dE rfl (dE rfl dR)⟩
 · cases v
noncomputable def dS : Dv := .tup [.int 0, .int 0]
@[simp] theorem zit {S : aN} {i j : Int} (h : 0 < j) : gL S (.int i) (.int j) = some (.int (i % j)) := if_pos h
@[simp] theorem zab4 {S : aN} {i j : Int} (h1 : -18446744073709551616 < j) (h2 : j < 18446744073709551616) : mD S (.int i) (.int j) = some (.int (i * j)) := if_pos (zil (.inr ⟨h1, h2⟩))
@[simp] theorem zab5 {S : aN} {i j : Int} (h1 : 0 < j) (h2 : j < 1073741824) : zrt S (.int i) (.int j) = some (.int (i / j)) := if_pos (zrr ⟨h1, h2⟩)
theorem vN {S : aN} {i j : Int} (h0 : 0 ≤ i) (h1 : i ≤ 1000000) : mD S (.int i) (.int j) = some (.int (i * j)) :=
 if_pos (zil (.inl ⟨Int.lt_of_lt_of_le (show -(2 ^ 64 : Int) < 0 by decide) h0, Int.lt_of_le_of_lt h1 (show (1000000 : Int) < 2 ^ 64 by decide)⟩))
structure Rw where
 tc : Int
 th : Int
 bc : Int
 bh : Int
 sg : Str
 out : Bool
noncomputable def bC (r : Rw) : Dv := .tup [.tup [.int r.tc, .int r.th], .tup [.int r.bc, .int r.bh], .str r.sg, .bl r.out]
theorem iI {r : Rw} : bC r = .tup [.tup [.int r.tc, .int r.th], .tup [.int r.bc, .int r.bh], .str r.sg, .bl r.out] := id rfl
theorem zah : ∀ rows : List Rw, iY (rows.map bC) = true
 | [] => rfl
 | r :: rs => by rw [List.map_cons, iY, zah rs]; rfl
theorem ziu : ∀ rows : List Rw, (∀ r ∈ rows, PyData.strOk r.sg = true) → PyData.canLayAll0 (mZ (rows.map bC)) = true ∧ PyData.depthAll (mZ (rows.map bC)) ≤ 2
 | [], _ => ⟨rfl, by decide⟩
 | r :: rs, h => by
   obtain ⟨h1, h2⟩ := ziu rs fun x hx => h x (List.mem_cons_of_mem _ hx)
   have hr := h r List.mem_cons_self
   refine ⟨?_, ?_⟩
   · rw [List.map_cons, mZ, PyData.canLayAll0, h1, Bool.and_true]
     show (true && (true && (PyData.strOk r.sg && (true && true)))) = true
     rw [hr]; rfl
   · rw [List.map_cons, mZ, PyData.depthAll]
     exact Nat.max_le.mpr ⟨Nat.le_refl 2, h2⟩
theorem zr9 {rows : List Rw} (h : ∀ r ∈ rows, PyData.strOk r.sg = true) : mE (.lst (rows.map bC)) = true := by
 obtain ⟨h1, h2⟩ := ziu rows h
 have e1 : kE (.lst (rows.map bC)) = true := zah rows
 have e2 : SeqAt.shaped (dP (.lst (rows.map bC))) = true := by
  show (PyData.canLayAll0 (mZ (rows.map bC)) && decide (PyData.depthAll (mZ (rows.map bC)) + 1 ≤ 64)) = true
  rw [h1, decide_eq_true (by omega)]; rfl
 show (kE (.lst (rows.map bC)) && SeqAt.shaped (dP (.lst (rows.map bC)))) = true
 rw [e1, e2]; rfl
theorem zsa {d : Dv} (h : mE d = true) : wR d d = true := SeqAt.eqv_refl _ (SeqAt.canLay_of_shaped (jZ h).2)
theorem zsb {S : aN} {d : Dv} (hd : vK S d = d) (h : mE d = true) : pH S d d = some false := by
 unfold pH; rw [hd, h, zsa h]; rfl
theorem zwb {S : aN} {z : Str} {i : Int} (hz : z.length ≤ mT) (ok : PyData.strOk z = true) (h0 : 0 ≤ i) (h1 : i < (z.length : Int)) : ∃ x : Str, bI S (.str z) (.int i) = some (.str x) ∧ PyData.strOk x = true ∧ x.length = 1 := by
 have hl : i.toNat < z.cps.toList.length := by
  have : z.cps.toList.length = z.length := by simp [Str.length]
  omega
 have e : atI z.cps.toList i = some z.cps.toList[i.toNat] := by
  unfold atI ixN
  rw [if_pos h0, if_pos (by omega)]
  exact List.getElem?_eq_getElem hl
 refine ⟨⟨#[z.cps.toList[i.toNat]]⟩, ?_, ?_, rfl⟩
 · show (if z.length ≤ mT then (atI z.cps.toList i).map fun c => Dv.str ⟨#[c]⟩ else none) = _
   rw [if_pos hz, e]; rfl
 · have all : z.cps.all (· < 0x110000) = true := ok
   rw [← Array.all_toList, List.all_eq_true] at all
   have q := all _ (List.getElem_mem hl)
   show (#[z.cps.toList[i.toNat]] : Array Nat).all (· < 0x110000) = true
   simpa using q
noncomputable def cell (ns : List Int) (k : Int) : Int := ns.getD k.toNat 0
noncomputable def nB : Ds := fun ds S Q => ∃ ns k, ds = [.scr ns, .int k] ∧ 0 ≤ k ∧ Q (.int (cell ns k)) S
theorem zpj : ∀ ds S Q, nB ds S Q → ds.length = 2 := by rintro _ S Q ⟨ns, k, rfl, _⟩; rfl
noncomputable def cU : Ds := fun ds S Q => ∃ i, ds = [.int i] ∧ Q (.bl true) S
theorem zf9 : ∀ ds S Q, cU ds S Q → ds.length = 1 := by rintro _ S Q ⟨i, rfl, _⟩; rfl
noncomputable def lat (a b c d : Int) : Bool := if a = c then decide (d < b) else decide (c < a)
noncomputable def fS : Ds := fun ds S Q => ∃ a b c d, ds = [.tup [.int a, .int b], .tup [.int c, .int d]] ∧ Q (.bl (lat a b c d)) S
theorem zsd : ∀ ds S Q, fS ds S Q → ds.length = 2 := by rintro _ S Q ⟨a, b, c, d, rfl, _⟩; rfl
@[simp] theorem zxz {ns : List Int} {k : Int} {S : aN} {Q : QE} : nB [.scr ns, .int k] S Q = (0 ≤ k ∧ Q (.int (cell ns k)) S) := propext ⟨fun ⟨_, _, e, h⟩ => by cases e; exact h, fun h => ⟨ns, k, rfl, h⟩⟩
@[simp] theorem zse {i : Int} {S : aN} {Q : QE} : cU [.int i] S Q = Q (.bl true) S := by simp [cU]
@[simp] theorem zze {a b c d : Int} {S : aN} {Q : QE} : fS [.tup [.int a, .int b], .tup [.int c, .int d]] S Q = Q (.bl (lat a b c d)) S := propext ⟨fun ⟨_, _, _, _, e, h⟩ => by cases e; exact h, fun h => ⟨a, b, c, d, rfl, h⟩⟩
theorem zsf (ns : List Int) (lo hi : Option Int) : ∃ ms : List Int, rQ (ns.map .int) lo hi = ms.map .int ∧ ms.length ≤ ns.length := by
 refine ⟨(ns.drop (HT.sIx ns.length 0 lo)).take (HT.sIx ns.length ns.length hi - HT.sIx ns.length 0 lo), ?_, ?_⟩
 · unfold rQ
   simp [List.map_take, List.map_drop]
 · rw [List.length_take, List.length_drop]; omega
noncomputable abbrev cV := Int × Int
noncomputable def Rw.tag (r : Rw) : cV := (r.tc, r.th)
noncomputable def Rw.bhd (r : Rw) : cV := (r.bc, r.bh)
theorem zsg {a b : Rw} (h : bC a = bC b) : a = b := by
 cases a; cases b
 simp [bC] at h
 obtain ⟨⟨h1, h2⟩, ⟨h3, h4⟩, h5, h6⟩ := h
 subst h1 h2 h3 h4 h5 h6; rfl
theorem zb3 : ∀ {a b : List Rw}, a.map bC = b.map bC → a = b
 | [], [], _ => rfl
 | [], _ :: _, h => by cases h
 | _ :: _, [], h => by cases h
 | x :: xs, y :: ys, h => by
   rw [List.map_cons, List.map_cons] at h
   injection h with h1 h2
   rw [zsg h1, zb3 h2]
noncomputable def okS (rows : List Rw) : Prop := ∀ r ∈ rows, PyData.strOk r.sg = true
noncomputable def mU (t : cV) : List Rw → Option Nat
 | [] => none
 | r :: rs => if r.tag = t then some 0 else (mU t rs).map (· + 1)
noncomputable def ixD : Option Nat → Dv
 | none => .non
 | some i => .int i
noncomputable def bix (rows : List Rw) (t : cV) : Option Nat := if t = (0, 0) then some 0 else (mU t rows).map (· + 1)
noncomputable def past (t : cV) : List Rw → Nat
 | [] => 0
 | r :: rs => if lat r.tc r.th t.1 t.2 = true then past t rs + 1 else 0
noncomputable def putF (rows : List Rw) (t b : cV) (x : Str) : Option (List Rw) := match mU t rows with
 | some k => if (rows[k]?.any fun r => decide (r.bhd = b ∧ r.sg = x)) = true then some rows else none
 | none => match bix rows b with
   | none => none
   | some s => if lat t.1 t.2 b.1 b.2 = true then some (rows.take (s + past t (rows.drop s)) ++ [⟨t.1, t.2, b.1, b.2, x, false⟩] ++ rows.drop (s + past t (rows.drop s))) else none
noncomputable def zl3 (rows : List Rw) (t : cV) : Option (List Rw) := match mU t rows with
 | some k => match rows[k]? with
   | some r => some (rows.take k ++ [{ r with out := true }] ++ rows.drop (k + 1))
   | none => none
 | none => none
inductive Slip where
 | put (t b : cV) (x : Str)
 | cut (t : cV)
noncomputable def aJ : Slip → Dv
 | .put t b x => .tup [.str "put", .tup [.int t.1, .int t.2], .tup [.int b.1, .int b.2], .str x]
 | .cut t => .tup [.str "cut", .tup [.int t.1, .int t.2]]
noncomputable def zpk (rows : List Rw) : Slip → Option (List Rw)
 | .put t b x => putF rows t b x
 | .cut t => zl3 rows t
noncomputable def okSl : Slip → Prop
 | .put _ _ x => PyData.strOk x = true
 | .cut _ => True
noncomputable def bK : Ds := fun ds S Q => ∃ (rows : List Rw) (c h : Int), ds = [.lst (rows.map bC), .tup [.int c, .int h]] ∧ Q (ixD (mU (c, h) rows)) S
noncomputable def gP : Ds := fun ds S Q => ∃ (rows : List Rw) (c h : Int) (i : Nat), ds = [.lst (rows.map bC), .tup [.int c, .int h]] ∧ mU (c, h) rows = some i ∧ Q (.int i) S
noncomputable def dH : Ds := fun ds S Q => ∃ (rows : List Rw) (c h : Int) (i : Nat), ds = [.lst (rows.map bC), .tup [.int c, .int h]] ∧ bix rows (c, h) = some i ∧ Q (.int i) S
noncomputable def iN : Ds := fun ds S Q => ∃ (rows : List Rw) (p : Nat) (c h : Int), ds = [.lst (rows.map bC), .int p, .tup [.int c, .int h]] ∧ p ≤ rows.length ∧ Q (.int ((p + past (c, h) (rows.drop p) : Nat) : Int)) S
noncomputable def fW : Ds := fun ds S Q => ∃ (rows : List Rw) (c h c' h' : Int) (x : Str) (rows' : List Rw), ds = [.lst (rows.map bC), .tup [.int c, .int h], .tup [.int c', .int h'], .str x] ∧ rows.length ≤ 100000 ∧ okS rows ∧ PyData.strOk x = true ∧ putF rows (c, h) (c', h') x = some rows' ∧ Q (.lst (rows'.map bC)) S
noncomputable def lB : Ds := fun ds S Q => ∃ (rows : List Rw) (c h : Int) (rows' : List Rw), ds = [.lst (rows.map bC), .tup [.int c, .int h]] ∧ rows.length ≤ 100000 ∧ zl3 rows (c, h) = some rows' ∧ Q (.lst (rows'.map bC)) S
noncomputable def rY : Ds := fun ds S Q => ∃ (rows : List Rw) (s : Slip) (rows' : List Rw), ds = [.lst (rows.map bC), aJ s] ∧ rows.length ≤ 100000 ∧ okS rows ∧ okSl s ∧ zpk rows s = some rows' ∧ Q (.lst (rows'.map bC)) S
noncomputable def dB : Ds := fun ds S Q => ∃ c h, ds = [.tup [.int c, .int h]] ∧ Q (.bl true) S
noncomputable def dI : Ds := fun ds S Q => ∃ rows : List Rw, ds = [.lst (rows.map bC)] ∧ Q (.bl true) S
theorem yX : ∀ ds S Q, bK ds S Q → ds.length = 2 := by rintro _ S Q ⟨_, _, _, rfl, _⟩; rfl
theorem ziv : ∀ ds S Q, gP ds S Q → ds.length = 2 := by rintro _ S Q ⟨_, _, _, _, rfl, _⟩; rfl
theorem za1 : ∀ ds S Q, dH ds S Q → ds.length = 2 := by rintro _ S Q ⟨_, _, _, _, rfl, _⟩; rfl
theorem zdl : ∀ ds S Q, iN ds S Q → ds.length = 3 := by rintro _ S Q ⟨_, _, _, _, rfl, _⟩; rfl
theorem ziw : ∀ ds S Q, fW ds S Q → ds.length = 4 := by rintro _ S Q ⟨_, _, _, _, _, _, _, rfl, _⟩; rfl
theorem zix : ∀ ds S Q, lB ds S Q → ds.length = 2 := by rintro _ S Q ⟨_, _, _, _, rfl, _⟩; rfl
theorem zsh : ∀ ds S Q, rY ds S Q → ds.length = 2 := by rintro _ S Q ⟨_, _, _, rfl, _⟩; rfl
theorem zdm : ∀ ds S Q, dB ds S Q → ds.length = 1 := by rintro _ S Q ⟨_, _, rfl, _⟩; rfl
theorem za2 : ∀ ds S Q, dI ds S Q → ds.length = 1 := by rintro _ S Q ⟨_, rfl, _⟩; rfl
@[simp] theorem zl4 {rows : List Rw} {c h : Int} {S : aN} {Q : QE} : bK [.lst (rows.map bC), .tup [.int c, .int h]] S Q = Q (ixD (mU (c, h) rows)) S :=
  propext ⟨fun ⟨r, _, _, e, q⟩ => by
   simp only [List.cons.injEq, Dv.lst.injEq, Dv.tup.injEq, Dv.int.injEq, and_true] at e
   obtain ⟨e1, e2, e3⟩ := e
   rw [zb3 e1, e2, e3]; exact q, fun q => ⟨rows, c, h, rfl, q⟩⟩
@[simp] theorem zqi {c h : Int} {S : aN} {Q : QE} : dB [.tup [.int c, .int h]] S Q = Q (.bl true) S := propext ⟨fun ⟨_, _, _, q⟩ => q, fun q => ⟨c, h, rfl, q⟩⟩
@[simp] theorem zns {rows : List Rw} {S : aN} {Q : QE} : dI [.lst (rows.map bC)] S Q = Q (.bl true) S := propext ⟨fun ⟨_, _, q⟩ => q, fun q => ⟨rows, rfl, q⟩⟩
noncomputable def cW : WS :=
 (eO (bN iL (aU bI (aD 3) (wC (.int 0))) (aD 1))
 (bA (aD 2))
 aY)
noncomputable def mF : WS :=
 (aS (znr 2 3 (aE (aD 0) aO)
 cW)
 (bA (wC .non)))
noncomputable def vO : WS :=
 (aS (cI 2 (bE bK (aE (aD 0) (aE (aD 1) aO))))
 (aS (eO (bN oIs (aD 2) (wC .non))
 wNo
 aY)
 (bA (aD 2))))
noncomputable def vP : WS :=
 (aS (cI 2 (bE gP (aE (aD 0) (aE (aD 1) aO))))
 (aS (cI 3 (aU bI (aD 0) (aD 2)))
 (bA (aU fO (aU fO (wSl (aD 0) none (some (aD 2))) (zf3 (aE (oV (aE (aU bI (aD 3) (wC (.int 0))) (aE (aU bI (aD 3) (wC (.int 1))) (aE (aU bI (aD 3) (wC (.int 2))) (aE (wC (.bl true)) aO))))) aO))) (wSl (aD 0) (some (aU fO (aD 2) (wC (.int 1)))) none)))))
noncomputable def nI : WS :=
 (aS (eO (bN iL (aD 1) (wC dS))
 (bA (wC (.int 0)))
 aY)
 (bA (aU fO (bE gP (aE (aD 0) (aE (aD 1) aO))) (wC (.int 1)))))
noncomputable def zga : WS :=
 (aS (eO (bN iL (aU bI (aD 0) (wC (.int 0))) (aU bI (aD 1) (wC (.int 0))))
 (bA (aU (mS oGt) (aU bI (aD 0) (wC (.int 1))) (aU bI (aD 1) (wC (.int 1)))))
 aY)
 (bA (aU (mS oGt) (aU bI (aD 0) (wC (.int 0))) (aU bI (aD 1) (wC (.int 0))))))
noncomputable def iU : WS :=
 (cI 1 (aU fO (aD 1) (wC (.int 1))))
noncomputable def qN : WS :=
 (aS (zbw (uJ (bN oLt (aD 1) (kZ dZ (aE (aD 0) aO))) (bZ (bE fS (aE (aU bI (aU bI (aD 0) (aD 1)) (wC (.int 0))) (aE (aD 2) aO)))))
 iU)
 (bA (aD 1)))
noncomputable def uS : WS :=
 (bA (aU fO (aU fO (wSl (aD 0) none (some (aD 6))) (zf3 (aE (oV (aE (aD 1) (aE (aD 2) (aE (aD 3) (aE (wC (.bl false)) aO))))) aO))) (wSl (aD 0) (some (aD 6)) none)))
noncomputable def uT : WS :=
 (aS (cI 6 (bE iN (aE (aD 0) (aE (aD 5) (aE (aD 1) aO)))))
 uS)
noncomputable def uU : WS :=
 (aS (eO (eN (bZ (bE fS (aE (aD 1) (aE (aD 2) aO)))))
 wNo
 aY)
 uT)
noncomputable def uV : WS :=
 (aS (cI 5 (bE dH (aE (aD 0) (aE (aD 2) aO))))
 uU)
noncomputable def oY : WS :=
 (aS (eO (bN oW (aD 4) (wC .non))
 (aS (eO (yM (bN pH (aU bI (aU bI (aD 0) (aD 4)) (wC (.int 1))) (aD 2)) (bN pH (aU bI (aU bI (aD 0) (aD 4)) (wC (.int 2))) (aD 3)))
 wNo
 aY)
 (bA (kZ rK (aE (aD 0) aO))))
 aY)
 uV)
noncomputable def vQ : WS :=
 (aS (cI 4 (bE bK (aE (aD 0) (aE (aD 1) aO))))
 oY)
noncomputable def zbl : WS :=
 (aS (eO (bN iL (aU bI (aD 1) (wC (.int 0))) (wC (.str "put")))
 (bA (bE fW (aE (aD 0) (aE (aU bI (aD 1) (wC (.int 1))) (aE (aU bI (aD 1) (wC (.int 2))) (aE (aU bI (aD 1) (wC (.int 3))) aO))))))
 aY)
 (bA (bE lB (aE (aD 0) (aE (aU bI (aD 1) (wC (.int 1))) aO)))))
noncomputable def rZ : WS :=
 (bA (kW (fG "int" (aD 0)) (zer (fG "bool" (aD 0)))))
noncomputable def qO : WS :=
 (aS (eO (yM (eN (bZ (fG "tuple" (aD 0)))) (bN pH (kZ dZ (aE (aD 0) aO)) (wC (.int 2))))
 (bA (wC (.bl false)))
 aY)
 (bA (kW (bE cU (aE (aU bI (aD 0) (wC (.int 0))) aO)) (bE cU (aE (aU bI (aD 0) (wC (.int 1))) aO)))))
noncomputable def dC : WS :=
 (aS (eO (yM (eN (bZ (fG "tuple" (aD 1)))) (bN pH (kZ dZ (aE (aD 1) aO)) (wC (.int 4))))
 (bA (wC (.bl false)))
 aY)
 (aS (eO (yM (eN (bZ (bE dB (aE (aU bI (aD 1) (wC (.int 0))) aO)))) (eN (bZ (bE dB (aE (aU bI (aD 1) (wC (.int 1))) aO)))))
 (bA (wC (.bl false)))
 aY)
 (eO (yM (eN (bZ (fG "str" (aU bI (aD 1) (wC (.int 2)))))) (eN (bZ (fG "bool" (aU bI (aD 1) (wC (.int 3)))))))
 (bA (wC (.bl false)))
 aY)))
noncomputable def nJ : WS :=
 (aS (eO (eN (bZ (fG "list" (aD 0))))
 (bA (wC (.bl false)))
 aY)
 (aS (za0 1 (aD 0)
 dC)
 (bA (wC (.bl true)))))
noncomputable def zb4 : WS :=
 (aS (eO (bN oLt (aD 1) (kZ dZ (aE (aD 0) aO)))
 (bA (aU bI (aD 0) (aD 1)))
 aY)
 (bA (wC (.int 0))))
theorem zsi : ∀ ds S Q, fS ds S Q → zga { nx := fun _ S' => Q .non S', rt := Q } (cK 2 ds) S := by
 rintro _ S Q ⟨a, b, c, d, rfl, q⟩
 simp [zga, cK]
 unfold lat at q
 split <;> simp_all
theorem zpl : ∀ ds S Q, nB ds S Q → zb4 { nx := fun _ S' => Q .non S', rt := Q } (cK 2 ds) S := by
 rintro _ S Q ⟨ns, k, rfl, h0, q⟩
 simp [zb4, cK]
 split
 · rename_i h
   rw [zzd h0 (by omega)]
   exact q
 · rename_i h
   have e : cell ns k = 0 := by unfold cell; rw [List.getD_eq_getElem?_getD, List.getElem?_eq_none (by omega)]; rfl
   rw [e] at q
   exact q
theorem zgb : ∀ ds S Q, cU ds S Q → rZ { nx := fun _ S' => Q .non S', rt := Q } (cK 1 ds) S := by
 rintro _ S Q ⟨i, rfl, q⟩
 simp [rZ, cK]
 exact q
theorem zdn : ∀ ds S Q, dB ds S Q → qO { nx := fun _ S' => Q .non S', rt := Q } (cK 1 ds) S := by
 rintro _ S Q ⟨c, h, rfl, q⟩
 simp [qO, cK]
 exact q
theorem zai {D : Dn} {S : aN} {x0 : Option Dv} (h : ∀ y, D.nx [x0, y] S) : ∀ (rows : List Rw) (x1 : Option Dv), dL 1 dC D (rows.map bC) [x0, x1] S
 | [], x1 => h x1
 | r :: rs, x1 => by
   have step := zai h rs (some (bC r))
   show dC { D with nx := dL 1 dC D (rs.map bC), ct := dL 1 dC D (rs.map bC), bk := D.nx } [x0, some (bC r)] S
   generalize dL 1 dC D (rs.map bC) = N at step ⊢
   simp [dC, bC] at step ⊢
   exact step
theorem za3 : ∀ ds S Q, dI ds S Q → nJ { nx := fun _ S' => Q .non S', rt := Q } (cK 2 ds) S := by
 rintro _ S Q ⟨rows, rfl, q⟩
 simp [nJ, cK]
 exact zai (fun y => by simp; exact q) rows none
theorem zaj {D : Dn} {S : aN} {x0 : Option Dv} {c h : Int} : ∀ (rows : List Rw) (k : Int) (x2 x3 : Option Dv),
 (match mU (c, h) rows with
   | some i => D.rt (.int (k + i)) S
   | none => ∀ y2 y3, D.nx [x0, some (.tup [.int c, .int h]), y2, y3] S) →
 zdk 2 3 cW D k (rows.map bC) [x0, some (.tup [.int c, .int h]), x2, x3] S
 | [], k, x2, x3, q => q x2 x3
 | r :: rs, k, x2, x3, q => by
   have step := zaj (D := D) (S := S) (x0 := x0) (c := c) (h := h) rs (k + 1) (some (.int k)) (some (bC r))
   show cW { D with nx := zdk 2 3 cW D (k + 1) (rs.map bC), ct := zdk 2 3 cW D (k + 1) (rs.map bC), bk := D.nx } [x0, some (.tup [.int c, .int h]), some (.int k), some (bC r)] S
   generalize zdk 2 3 cW D (k + 1) (rs.map bC) = N at step ⊢
   simp [cW, bC] at step ⊢
   unfold mU at q
   split
   · rename_i e
     rw [if_pos (show r.tag = (c, h) from by unfold Rw.tag; rw [e.1, e.2])] at q
     simpa using q
   · rename_i e
     rw [if_neg (show ¬ r.tag = (c, h) from fun z => e (by unfold Rw.tag at z; exact ⟨congrArg Prod.fst z, congrArg Prod.snd z⟩))] at q
     refine step ?_
     cases f : mU (c, h) rs with
     | none => rw [f] at q; exact q
     | some i =>
       rw [f] at q
       have q' : D.rt (.int (k + ((i + 1 : Nat) : Int))) S := q
       have e1 : k + ((i + 1 : Nat) : Int) = k + 1 + i := by omega
       rw [e1] at q'
       exact q'
theorem yY : ∀ ds S Q, bK ds S Q → mF { nx := fun _ S' => Q .non S', rt := Q } (cK 4 ds) S := by
 rintro _ S Q ⟨rows, c, h, rfl, q⟩
 simp [mF, cK]
 refine zaj rows 0 none none ?_
 cases f : mU (c, h) rows with
 | none => rw [f] at q; intro y2 y3; simp; exact q
 | some i => rw [f] at q; simpa [ixD] using q
@[simp] theorem zadm {S : aN} {i : Int} : oIs S (.int i) .non = some false := id rfl
@[simp] theorem zadn {S : aN} : oIs S .non .non = some true := id rfl
@[simp] theorem zzf {S : aN} {i : Int} : oW S (.int i) .non = some true := id rfl
@[simp] theorem zzg {S : aN} : oW S .non .non = some false := id rfl
theorem ziy : ∀ ds S Q, gP ds S Q → vO { nx := fun _ S' => Q .non S', rt := Q } (cK 3 ds) S := by
 rintro _ S Q ⟨rows, c, h, i, rfl, f, q⟩
 simp [vO, cK, f, ixD]
 exact q
theorem za4 : ∀ ds S Q, dH ds S Q → nI { nx := fun _ S' => Q .non S', rt := Q } (cK 2 ds) S := by
 rintro _ S Q ⟨rows, c, h, i, rfl, f, q⟩
 simp [nI, cK, dS]
 unfold bix at f
 split
 · rename_i e
   rw [if_pos (by rw [e.1, e.2])] at f
   cases f
   exact q
 · rename_i e
   rw [if_neg (fun z => e ⟨congrArg Prod.fst z, congrArg Prod.snd z⟩)] at f
   cases g : mU (c, h) rows with
   | none => rw [g] at f; cases f
   | some j =>
     rw [g] at f
     cases f
     exact ⟨rows, c, h, j, rfl, g, by simpa using q⟩
@[simp] theorem zaab {c : WT} {b : WS} {D : Dn} {ρ : Ev} {S : aN} : zbw c b D ρ S = ∃ n, whl c b D n ρ S := id rfl
theorem znt (t : cV) : ∀ rows : List Rw, past t rows ≤ rows.length
 | [] => Nat.le_refl 0
 | r :: rs => by
   unfold past
   split
   · exact Nat.succ_le_succ (znt t rs)
   · exact Nat.zero_le _
theorem zgc {rows : List Rw} {p : Nat} (hp : p < rows.length) (S : aN) : bI S (.lst (rows.map bC)) (.int (p : Int)) = some (bC rows[p]) := eP (by omega) (by simp [hp])
theorem zl5 {D : Dn} {S : aN} {rows : List Rw} {c h : Int} : ∀ (n p : Nat), rows.length - p = n → p ≤ rows.length →
 D.nx [some (.lst (rows.map bC)), some (.int ((p + past (c, h) (rows.drop p) : Nat) : Int)), some (.tup [.int c, .int h])] S →
 whl (uJ (bN oLt (aD 1) (kZ dZ (aE (aD 0) aO))) (bZ (bE fS (aE (aU bI (aU bI (aD 0) (aD 1)) (wC (.int 0))) (aE (aD 2) aO))))) iU D (n + 1) [some (.lst (rows.map bC)), some (.int p), some (.tup [.int c, .int h])] S := by
 intro n
 induction n with
 | zero =>
   intro p hn hp q
   have e : p = rows.length := by omega
   subst e
   simp only [List.drop_length, past, Nat.add_zero] at q
   unfold whl
   simp
   exact q
 | succ n ih =>
   intro p hn hp q
   have hlt : p < rows.length := by omega
   rw [List.drop_eq_getElem_cons hlt] at q
   have step := ih (p + 1) (by omega) hlt
   unfold whl
   generalize whl (uJ (bN oLt (aD 1) (kZ dZ (aE (aD 0) aO))) (bZ (bE fS (aE (aU bI (aU bI (aD 0) (aD 1)) (wC (.int 0))) (aE (aD 2) aO))))) iU D (n + 1) = N at step ⊢
   have ex := zgc hlt
   simp [ex, hlt, bC]
   unfold past at q
   split
   · rename_i hl
     rw [if_pos hl] at q
     simp [iU]
     have z := step (by
      have e1 : p + 1 + past (c, h) (rows.drop (p + 1)) = p + (past (c, h) (rows.drop (p + 1)) + 1) := by omega
      rw [e1]; exact q)
     simpa using z
   · rename_i hl
     rw [if_neg hl] at q
     exact q
theorem zdo : ∀ ds S Q, iN ds S Q → qN { nx := fun _ S' => Q .non S', rt := Q } (cK 3 ds) S := by
 rintro _ S Q ⟨rows, p, c, h, rfl, hp, q⟩
 simp [qN, cK]
 exact ⟨_, zl5 _ p rfl hp (by simp; simpa using q)⟩
theorem zb5 {t : cV} : ∀ {rows : List Rw} {k : Nat}, mU t rows = some k → k < rows.length
 | [], k, h => by cases h
 | r :: rs, k, h => by
   unfold mU at h
   split at h
   · cases h; simp
   · cases f : mU t rs with
     | none => rw [f] at h; cases h
     | some j => rw [f] at h; cases h; simp [zb5 f]
theorem ziz {α : Type} {f : α → Dv} {l : List α} {p : Nat} (hp : p ≤ l.length) : rQ (l.map f) none (some (p : Int)) = (l.take p).map f := by
 unfold rQ
 rw [HT.sIx_none, HT.sIx_nat, List.length_map, Nat.min_eq_left hp, List.drop_zero, Nat.sub_zero, List.map_take]
theorem zi0 {α : Type} {f : α → Dv} {l : List α} {p : Nat} (hp : p ≤ l.length) : rQ (l.map f) (some (p : Int)) none = (l.drop p).map f := by
 unfold rQ
 rw [HT.sIx_none, HT.sIx_nat, List.length_map, Nat.min_eq_left hp, List.map_drop]
 exact List.take_of_length_le (by simp)
theorem pK {S : aN} {a b : List Dv} (h : a.length + b.length ≤ mT) : fO S (.lst a) (.lst b) = some (.lst (a ++ b)) := if_pos h
theorem zgd {S : aN} {x y : Str} (hx : PyData.strOk x = true) (hy : PyData.strOk y = true) : pH S (.str x) (.str y) = some (!decide (x = y)) := by
 have p1 : mE (.str x) = true := by show (true && (PyData.strOk x && decide (0 ≤ 64))) = true; rw [hx]; rfl
 have p2 : mE (.str y) = true := by show (true && (PyData.strOk y && decide (0 ≤ 64))) = true; rw [hy]; rfl
 have e : wR (.str x) (.str y) = (x == y) := rfl
 show (if (mE (.str x) && mE (.str y)) = true then some (!wR (.str x) (.str y)) else none) = _
 rw [p1, p2, e]
 have z : (x == y) = decide (x = y) := by rw [Bool.eq_iff_iff]; simp
 rw [z]; rfl
theorem eV {S : aN} {x y : Str} (hx : PyData.strOk x = true) (hy : PyData.strOk y = true) : iL S (.str x) (.str y) = some (decide (x = y)) := by
 have p1 : mE (.str x) = true := by show (true && (PyData.strOk x && decide (0 ≤ 64))) = true; rw [hx]; rfl
 have p2 : mE (.str y) = true := by show (true && (PyData.strOk y && decide (0 ≤ 64))) = true; rw [hy]; rfl
 have e : wR (.str x) (.str y) = (x == y) := rfl
 show (if (mE (.str x) && mE (.str y)) = true then some (wR (.str x) (.str y)) else none) = _
 rw [p1, p2, e]
 have z : (x == y) = decide (x = y) := by rw [Bool.eq_iff_iff]; simp
 rw [z]; rfl
theorem oZ : PyData.strOk ("put" : Str) = true := by decide +kernel
theorem sA : PyData.strOk ("cut" : Str) = true := by decide +kernel
theorem zb6 : ¬ (("cut" : Str) = "put") := by decide +kernel
theorem zl6 : ¬ (("put" : Str) = "cut") := by decide +kernel
@[simp] theorem zaeu {S : aN} : iL S (.str "put") (.str "put") = some true := by rw [eV oZ oZ]; simp
@[simp] theorem zaev {S : aN} : iL S (.str "cut") (.str "put") = some false := by rw [eV sA oZ, decide_eq_false zb6]
@[simp] theorem zaew {S : aN} : iL S (.str "cut") (.str "cut") = some true := by rw [eV sA sA]; simp
@[simp] theorem zaex {S : aN} : iL S (.str "put") (.str "cut") = some false := by rw [eV oZ sA, decide_eq_false zl6]
theorem zzh {rows : List Rw} {t : cV} {s : Nat} (h : bix rows t = some s) : s ≤ rows.length := by
 unfold bix at h
 split at h
 · cases h; exact Nat.zero_le _
 · cases f : mU t rows with
   | none => rw [f] at h; cases h
   | some j => rw [f] at h; cases h; exact zb5 f
theorem zi1 : ∀ ds S Q, fW ds S Q → vQ { nx := fun _ S' => Q .non S', rt := Q } (cK 7 ds) S := by
 rintro _ S Q ⟨rows, c, h, c', h', x, rows', rfl, hl, ok, okx, f, q⟩
 simp [vQ, cK]
 unfold putF at f
 cases g : mU (c, h) rows with
 | some k =>
   rw [g] at f
   have hk := zb5 g
   have ex := zgc hk
   dsimp only at f
   rw [List.getElem?_eq_getElem hk] at f
   simp at f
   obtain ⟨⟨f1, f2⟩, f3⟩ := f
   subst f3
   have e1 : rows[k].bc = c' := congrArg Prod.fst f1
   have e2 : rows[k].bh = h' := congrArg Prod.snd f1
   have on := zgd (S := S) (ok _ (List.getElem_mem hk)) okx
   rw [f2] at on
   simp [oY, ixD, ex, bC, e1, e2, f2, on]
   exact q
 | none =>
   rw [g] at f
   dsimp only at f
   cases b : bix rows (c', h') with
   | none => rw [b] at f; cases f
   | some s =>
     rw [b] at f
     dsimp only at f
     split at f
     · rename_i hlat
       have f' := Option.some.inj f
       have hs := zzh b
       have hp := znt (c, h) (rows.drop s)
       rw [List.length_drop] at hp
       have hpl : s + past (c, h) (rows.drop s) ≤ rows.length := by omega
       simp [oY, uV, ixD]
       refine ⟨rows, c', h', s, rfl, b, ?_⟩
       simp [uU, uT, hlat]
       refine ⟨rows, s, c, h, rfl, hs, ?_⟩
       have z1 := ziz (f := bC) hpl
       have z2 := zi0 (f := bC) hpl
       simp only [uS, zf7, zy9, zzb, zbk, ev?_z, ev?_s, tQ, zlz, zl0, znq, xF, zb1, zv3, zis, znp, zv2, zabm, List.set_cons_succ, List.set_cons_zero, z1, z2]
       refine ⟨by simp, by simp, ?_⟩
       rw [pK (by simp [mT]; omega)]
       simp only [tQ]
       rw [pK (by simp [mT]; omega)]
       simp only [tQ]
       rw [← f'] at q
       simpa [bC] using q
     · cases f
theorem zi2 : ∀ ds S Q, lB ds S Q → vP { nx := fun _ S' => Q .non S', rt := Q } (cK 4 ds) S := by
 rintro _ S Q ⟨rows, c, h, rows', rfl, hl, f, q⟩
 simp [vP, cK]
 unfold zl3 at f
 cases g : mU (c, h) rows with
 | none => rw [g] at f; cases f
 | some k =>
   rw [g] at f
   have hk := zb5 g
   have ex := zgc hk
   dsimp only at f
   rw [List.getElem?_eq_getElem hk] at f
   have f' := Option.some.inj f
   refine ⟨rows, c, h, k, rfl, g, ?_⟩
   have z1 := ziz (f := bC) (Nat.le_of_lt hk)
   have z2 := zi0 (f := bC) (l := rows) (p := k + 1) hk
   have ec : ((k + 1 : Nat) : Int) = (k : Int) + 1 := by omega
   rw [ec] at z2
   simp [ex, bC, z1, z2]
   rw [pK (by simp [mT]; omega)]
   simp [z2]
   rw [pK (by simp [mT]; omega)]
   simp only [tQ]
   rw [← f'] at q
   simpa [bC] using q
theorem zsj : ∀ ds S Q, rY ds S Q → zbl { nx := fun _ S' => Q .non S', rt := Q } (cK 2 ds) S := by
 rintro _ S Q ⟨rows, s, rows', rfl, hl, ok, oks, f, q⟩
 cases s with
 | put t b x =>
   simp [zbl, cK, aJ]
   exact ⟨rows, t.1, t.2, b.1, b.2, x, rows', rfl, hl, ok, oks, f, q⟩
 | cut t =>
   simp [zbl, cK, aJ]
   exact ⟨rows, t.1, t.2, rows', rfl, hl, f, q⟩
noncomputable def cC (t : cV) : Dv := .tup [.int t.1, .int t.2]
theorem zsk {S : aN} {xs : List Dv} {d : Dv} (h : xs.getLast? = some d) : bI S (.lst xs) (.int (-1)) = some d := by
 rw [List.getLast?_eq_getElem?] at h
 have hl : xs.length - 1 < xs.length := (List.getElem?_eq_some_iff.mp h).1
 show atI xs (-1) = some d
 unfold atI ixN
 rw [if_neg (by decide), if_pos (by omega)]
 have e : ((-1 : Int) + (xs.length : Int)).toNat = xs.length - 1 := by omega
 rw [e]
 exact h
section
variable {D : Dn} {p : Addr} {S0 S : aN} {ns : List Int} {b : Bool} {rows : List Rw} {road : List cV} {xs : List Dv} {k deep : Nat} {n : Int} {x7 : Option Dv} {sg : Str} {d t : Dv}
end
theorem zb7 {t : cV} : ∀ {rows : List Rw} {i : Nat}, mU t rows = some i → ∃ r, rows[i]? = some r ∧ r.tag = t
 | [], _, h => by cases h
 | r :: rs, i, h => by
   unfold mU at h
   split at h
   · rename_i e; cases h; exact ⟨r, rfl, e⟩
   · cases f : mU t rs with
     | none => rw [f] at h; cases h
     | some j =>
       rw [f] at h; cases h
       obtain ⟨q, h1, h2⟩ := zb7 f
       exact ⟨q, by simpa using h1, h2⟩
theorem zge {t : cV} : ∀ {rows : List Rw}, mU t rows = none → ∀ r ∈ rows, r.tag ≠ t
 | [], _, r, hr => by cases hr
 | x :: rs, h, r, hr => by
   unfold mU at h
   split at h
   · cases h
   · rename_i ne
     cases f : mU t rs with
     | some j => rw [f] at h; cases h
     | none =>
       rcases List.mem_cons.mp hr with e | hr
       · rw [e]; exact ne
       · exact zge f r hr
theorem xG {t : cV} : ∀ {rows : List Rw}, (∀ r ∈ rows, r.tag ≠ t) → mU t rows = none
 | [], _ => rfl
 | x :: rs, h => by
   unfold mU
   rw [if_neg (h x List.mem_cons_self), xG fun r hr => h r (List.mem_cons_of_mem _ hr)]; rfl
noncomputable def Uniq (rows : List Rw) : Prop := ∀ (i j : Nat) (a b : Rw), rows[i]? = some a → rows[j]? = some b → a.tag = b.tag → i = j
noncomputable def ltr (a b : cV) : Prop := lat a.1 a.2 b.1 b.2 = true
theorem xH {a b : cV} : ltr a b ↔ b.1 < a.1 ∨ (a.1 = b.1 ∧ b.2 < a.2) := by
 unfold ltr lat
 split
 · rename_i h; simp; omega
 · rename_i h; simp; omega
theorem znu {a : cV} (h : ltr a a) : False := by rw [xH] at h; omega
theorem pL {a b c : cV} (h : ltr a b) (k : ltr b c) : ltr a c := by rw [xH] at h k ⊢; omega
theorem zi3 {a b : cV} (h : ltr a b) (k : ltr b a) : False := znu (pL h k)
theorem zwd {a b : cV} (h : a ≠ b) : ltr a b ∨ ltr b a := by
 rw [xH, xH]
 have : a.1 ≠ b.1 ∨ a.2 ≠ b.2 := by
  by_cases h1 : a.1 = b.1
  · exact .inr fun h2 => h (Prod.ext h1 h2)
  · exact .inl h1
 omega
inductive Wk : List cV → List Rw → List cV → Prop
 | nil {st : List cV} : Wk st [] st
 | cons {st pre post st' : List cV} {r : Rw} {rs : List Rw} : st = pre ++ r.bhd :: post → (∀ y, pre.getLast? = some y → ltr y r.tag) → ltr r.tag r.bhd → Wk (r.tag :: r.bhd :: post) rs st' → Wk st (r :: rs) st'
noncomputable abbrev Srt (st : List cV) : Prop := st.Pairwise ltr
theorem Srt.tail {pre post : List cV} {t p : cV} (h : Srt (pre ++ p :: post)) (k : ltr t p) : Srt (t :: p :: post) := by
 have h2 := (List.pairwise_append.mp h).2.1
 refine List.pairwise_cons.mpr ⟨fun x hx => ?_, h2⟩
 rcases List.mem_cons.mp hx with e | hx
 · rw [e]; exact k
 · exact pL k ((List.pairwise_cons.mp h2).1 x hx)
theorem Wk.app {st m st' : List cV} {a b : List Rw} (h : Wk st a m) (k : Wk m b st') : Wk st (a ++ b) st' := by
 induction h with
 | nil => exact k
 | cons e1 e2 e3 _ ih => exact .cons e1 e2 e3 (ih k)
theorem Wk.split {b : List Rw} {st' : List cV} : ∀ {a : List Rw} {st : List cV}, Wk st (a ++ b) st' → ∃ m, Wk st a m ∧ Wk m b st'
 | [], st, h => ⟨st, .nil, h⟩
 | r :: a, st, h => by
   cases h with
   | cons e1 e2 e3 e4 =>
     obtain ⟨m, h1, h2⟩ := Wk.split e4
     exact ⟨m, .cons e1 e2 e3 h1, h2⟩
theorem Wk.top {r : Rw} : ∀ {a : List Rw} {st m : List cV}, Wk st (a ++ [r]) m → ∃ post, m = r.tag :: post
 | [], st, m, h => by
   cases h with
   | cons e1 e2 e3 e4 => cases e4; exact ⟨_, rfl⟩
 | x :: a, st, m, h => by
   cases h with
   | cons e1 e2 e3 e4 => exact Wk.top e4
theorem Wk.srt {st m : List cV} {a : List Rw} (h : Wk st a m) : Srt st → Srt m := by
 induction h with
 | nil => exact id
 | cons e1 e2 e3 _ ih => intro s; subst e1; exact ih (s.tail e3)
theorem zi4 {pre a : List cV} {b : cV} : (pre ++ b :: a).getLast? = (b :: a).getLast? := by
 rw [List.getLast?_append]
 cases h : (b :: a).getLast? with
 | none => simp at h
 | some y => rfl
theorem Wk.put {t b : cV} {post : List cV} {n : Rw} (hb : ltr t b) (nt : n.tag = t) (nb : n.bhd = b) : ∀ {B : List Rw} {pre st' : List cV}, Wk (pre ++ b :: post) B st' → Srt (pre ++ b :: post) → (∀ x ∈ pre, ltr x t) → (∀ r ∈ B, r.tag ≠ t) →
 ∃ st'', Wk (pre ++ b :: post) (B.take (past t B) ++ n :: B.drop (past t B)) st''
 | [], pre, st', _, _, hp, _ => ⟨_, .cons (pre := pre) (post := post) (by rw [nb]) (fun y hy => by rw [nt]; exact hp y (List.mem_of_getLast? hy)) (by rw [nt, nb]; exact hb) .nil⟩
 | r :: rs, pre, st', h, s, hp, hn => by
   cases h with
   | @cons _ pre1 post1 _ _ _ e1 e2 e3 e4 =>
     have s' : Srt (r.tag :: r.bhd :: post1) := Srt.tail (pre := pre1) (by rw [← e1]; exact s) e3
     have hn' : ∀ x ∈ rs, x.tag ≠ t := fun x hx => hn x (List.mem_cons_of_mem _ hx)
     have here : r.bhd = b ∧ post1 = post ∨ (∃ a, pre1 = pre ++ b :: a ∧ post = a ++ r.bhd :: post1) ∨ ∃ c, pre = pre1 ++ r.bhd :: c ∧ post1 = c ++ b :: post := by
      rcases List.append_eq_append_iff.mp e1 with ⟨a, h1, h2⟩ | ⟨c, h1, h2⟩
      · cases a with
        | nil => injection h2 with h3 h4; exact .inl ⟨h3.symm, h4.symm⟩
        | cons y a => injection h2 with h3 h4; subst h3; exact .inr (.inl ⟨a, h1, h4⟩)
      · cases c with
        | nil => injection h2 with h3 h4; exact .inl ⟨h3, h4⟩
        | cons y c => injection h2 with h3 h4; subst h3; exact .inr (.inr ⟨c, h1, h4⟩)
     unfold past
     by_cases hl : lat r.tc r.th t.1 t.2 = true
     · have hl' : ltr r.tag t := hl
       rw [if_pos hl]
       rcases here with ⟨h1, h2⟩ | ⟨a, h1, h2⟩ | ⟨c, h1, h2⟩
       · subst h2
         rw [h1] at e4 s' e1
         obtain ⟨q, hq⟩ := Wk.put (pre := [r.tag]) hb nt nb e4 s' (fun x hx => by rw [List.mem_singleton.mp hx]; exact hl') hn'
         exact ⟨q, .cons (pre := pre1) (post := post1) (by rw [h1]; exact e1) e2 e3 (by rw [h1]; exact hq)⟩
       · exfalso
         have hy : pre1.getLast? = some ((b :: a).getLast (by simp)) := by
          rw [h1, zi4]; exact List.getLast?_eq_some_getLast _
         have z := e2 _ hy
         have m := List.getLast_mem (l := b :: a) (by simp)
         have sb := (List.pairwise_append.mp s).2.1
         have lb : ltr r.tag b := pL hl' hb
         rcases List.mem_cons.mp m with e | hm
         · rw [e] at z; exact zi3 z lb
         · exact zi3 z (pL lb ((List.pairwise_cons.mp sb).1 _ (by rw [h2]; exact List.mem_append_left _ hm)))
       · subst h2
         have hp' : ∀ x ∈ r.tag :: r.bhd :: c, ltr x t := fun x hx => by
          rcases List.mem_cons.mp hx with e | hx
          · rw [e]; exact hl'
          · exact hp x (by rw [h1]; exact List.mem_append_right _ hx)
         obtain ⟨q, hq⟩ := Wk.put (pre := r.tag :: r.bhd :: c) hb nt nb e4 s' hp' hn'
         exact ⟨q, .cons (pre := pre1) (post := c ++ b :: post) e1 e2 e3 hq⟩
     · rw [if_neg hl]
       have hl' : ltr t r.tag := (zwd (hn r List.mem_cons_self)).resolve_left hl
       refine ⟨st', .cons (pre := pre) (post := post) (by rw [nb]) (fun y hy => by rw [nt]; exact hp y (List.mem_of_getLast? hy)) (by rw [nt, nb]; exact hb) ?_⟩
       rw [nt, nb]
       show Wk (t :: b :: post) (r :: rs) st'
       rcases here with ⟨h1, h2⟩ | ⟨a, h1, h2⟩ | ⟨c, h1, h2⟩
       · exact .cons (pre := [t]) (post := post1) (by rw [h1, h2]; rfl) (fun y hy => by cases hy; exact hl') e3 e4
       · refine .cons (pre := t :: b :: a) (post := post1) (by rw [h2]; rfl) (fun y hy => e2 y ?_) e3 e4
         rw [h1, zi4]
         rw [List.getLast?_cons_cons] at hy
         exact hy
       · exact absurd (pL e3 (hp r.bhd (by rw [h1]; simp))) hl
structure Gd (rows : List Rw) : Prop where
 wk : ∃ st, Wk [(0, 0)] rows st
 nd : (rows.map Rw.tag).Nodup
 nz : ∀ r ∈ rows, r.tag ≠ (0, 0)
theorem Gd.nil : Gd [] := ⟨⟨_, .nil⟩, List.nodup_nil, fun _ h => by cases h⟩
theorem Gd.uniq {rows : List Rw} (g : Gd rows) : Uniq rows := fun i j a b ha hb e => by
 have h1 : (rows.map Rw.tag)[i]? = some a.tag := by rw [List.getElem?_map, ha]; rfl
 have h2 : (rows.map Rw.tag)[j]? = some b.tag := by rw [List.getElem?_map, hb]; rfl
 exact (List.getElem?_inj (List.getElem?_eq_some_iff.mp h1).1 g.nd).mp (by rw [h1, h2, e])
theorem srt0 : Srt [(0, 0)] := List.pairwise_singleton _ _
theorem Gd.ndr {rows : List Rw} (g : Gd rows) : rows.Nodup := by
 have h := g.nd
 rw [List.nodup_iff_pairwise_ne, List.pairwise_map] at h
 exact List.nodup_iff_pairwise_ne.mpr (h.imp fun z e => z (by rw [e]))
theorem Wk.like {st m : List cV} {a : List Rw} (h : Wk st a m) : ∀ {b : List Rw}, a.map (fun r => (r.tag, r.bhd)) = b.map (fun r => (r.tag, r.bhd)) → Wk st b m := by
 induction h with
 | nil => intro b e; cases b with
   | nil => exact .nil
   | cons => cases e
 | @cons st pre post st' r rs e1 e2 e3 _ ih =>
   intro b e
   cases b with
   | nil => cases e
   | cons x b =>
     rw [List.map_cons, List.map_cons] at e
     injection e with h1 h2
     have t : r.tag = x.tag := congrArg Prod.fst h1
     have p : r.bhd = x.bhd := congrArg Prod.snd h1
     rw [t, p] at e3
     rw [t] at e2
     rw [p] at e1
     refine .cons e1 e2 e3 ?_
     rw [← t, ← p]
     exact ih h2
theorem Gd.like {a b : List Rw} (g : Gd a) (e : a.map (fun r => (r.tag, r.bhd)) = b.map (fun r => (r.tag, r.bhd))) : Gd b := by
 have et : a.map Rw.tag = b.map Rw.tag := by
  have z := congrArg (List.map Prod.fst) e
  simpa [List.map_map, Function.comp_def] using z
 refine ⟨g.wk.imp fun _ h => h.like e, by rw [← et]; exact g.nd, fun r hr z => ?_⟩
 have h1 : r.tag ∈ a.map Rw.tag := by rw [et]; exact List.mem_map_of_mem hr
 obtain ⟨q, h2, h3⟩ := List.mem_map.mp h1
 exact g.nz q h2 (h3.trans z)
theorem Wk.at {rows : List Rw} {st' : List cV} {b : cV} {s : Nat} (h : Wk [(0, 0)] rows st') (hb : bix rows b = some s) : ∃ post, Wk [(0, 0)] (rows.take s) (b :: post) ∧ Wk (b :: post) (rows.drop s) st' := by
 unfold bix at hb
 split at hb
 · rename_i e
   cases hb
   subst e
   exact ⟨[], .nil, h⟩
 · cases f : mU b rows with
   | none => rw [f] at hb; cases hb
   | some i =>
     rw [f] at hb
     cases hb
     obtain ⟨r, hr, ht⟩ := zb7 f
     have hi := (List.getElem?_eq_some_iff.mp hr).1
     have er : rows[i] = r := (List.getElem?_eq_some_iff.mp hr).2
     rw [← List.take_append_drop (i + 1) rows] at h
     obtain ⟨m, h1, h2⟩ := Wk.split h
     have e : rows.take (i + 1) = rows.take i ++ [r] := by rw [List.take_succ_eq_append_getElem hi, er]
     rw [e] at h1
     obtain ⟨post, hm⟩ := Wk.top h1
     rw [ht] at hm
     subst hm
     exact ⟨post, by rw [e]; exact h1, h2⟩
theorem Gd.put {rows : List Rw} (g : Gd rows) {t b : cV} {s : Nat} {n : Rw} (f : mU t rows = none) (hb : bix rows b = some s) (hl : ltr t b) (nz : t ≠ (0, 0)) (nt : n.tag = t) (nb : n.bhd = b) :
 Gd (rows.take (s + past t (rows.drop s)) ++ n :: rows.drop (s + past t (rows.drop s))) := by
 have fr := zge f
 obtain ⟨st, hw⟩ := g.wk
 obtain ⟨post, h1, h2⟩ := hw.at hb
 obtain ⟨st2, h3⟩ := Wk.put (pre := []) hl nt nb h2 (h1.srt srt0) (fun x hx => by cases hx) fun r hr => fr r (List.mem_of_mem_drop hr)
 have e1 : rows.take (s + past t (rows.drop s)) = rows.take s ++ (rows.drop s).take (past t (rows.drop s)) := by rw [List.take_add]
 have e2 : rows.drop (s + past t (rows.drop s)) = (rows.drop s).drop (past t (rows.drop s)) := by rw [List.drop_drop]
 have hp : (rows.take (s + past t (rows.drop s)) ++ n :: rows.drop (s + past t (rows.drop s))).Perm (n :: rows) := by
  have z := List.perm_middle (a := n) (l₁ := rows.take (s + past t (rows.drop s))) (l₂ := rows.drop (s + past t (rows.drop s)))
  rw [List.take_append_drop] at z
  exact z
 refine ⟨⟨st2, ?_⟩, ?_, fun r hr => ?_⟩
 · rw [e1, e2, List.append_assoc]
   exact h1.app h3
 · refine (hp.map Rw.tag).nodup_iff.mpr ?_
   rw [List.map_cons]
   refine List.nodup_cons.mpr ⟨fun z => ?_, g.nd⟩
   obtain ⟨q, h4, h5⟩ := List.mem_map.mp z
   exact fr q h4 (h5.trans nt)
 · rcases List.mem_cons.mp (hp.mem_iff.mp hr) with e | hr
   · rw [e, nt]; exact nz
   · exact g.nz r hr
structure Fit (U : Slip → Prop) : Prop where
 put : ∀ t b x, U (.put t b x) → ltr t b ∧ t ≠ (0, 0) ∧ PyData.strOk x = true
 one : ∀ t b x b' x', U (.put t b x) → U (.put t b' x') → b = b' ∧ x = x'
noncomputable def yZ (done : List Slip) : Slip → Prop
 | .put _ b _ => b = (0, 0) ∨ ∃ b' x', Slip.put b b' x' ∈ done
 | .cut t => ∃ b x, Slip.put t b x ∈ done
structure Hrd (U : Slip → Prop) (rows : List Rw) (done : List Slip) : Prop where
 gd : Gd rows
 ok : okS rows
 len : rows.length ≤ done.length
 all : ∀ s ∈ done, U s
 put : ∀ r ∈ rows, Slip.put r.tag r.bhd r.sg ∈ done ∧ (r.out = true ↔ Slip.cut r.tag ∈ done)
 has : ∀ t b x, Slip.put t b x ∈ done → ∃ r ∈ rows, r.tag = t
 cut : ∀ t, Slip.cut t ∈ done → ∃ r ∈ rows, r.tag = t
theorem Hrd.nil {U : Slip → Prop} : Hrd U [] [] := ⟨.nil, fun _ h => (List.not_mem_nil h).elim, Nat.le_refl _, fun _ h => (List.not_mem_nil h).elim, fun _ h => (List.not_mem_nil h).elim, fun _ _ _ h => (List.not_mem_nil h).elim, fun _ h => (List.not_mem_nil h).elim⟩
theorem zi5 {t : cV} {rows : List Rw} {r : Rw} (hr : r ∈ rows) (e : r.tag = t) : ∃ i, mU t rows = some i := by
 cases f : mU t rows with
 | none => exact absurd e (zge f r hr)
 | some i => exact ⟨i, rfl⟩
theorem Hrd.step {U : Slip → Prop} (F : Fit U) {rows : List Rw} {done : List Slip} (h : Hrd U rows done) {s : Slip} (us : U s) (oa : yZ done s) :
 ∃ rows', zpk rows s = some rows' ∧ Hrd U rows' (done ++ [s]) := by
 cases s with
 | put t b x =>
   obtain ⟨hl, nz, okx⟩ := F.put t b x us
   cases f : mU t rows with
   | some i =>
     obtain ⟨r, hr, ht⟩ := zb7 f
     have mr := List.mem_of_getElem? hr
     obtain ⟨h1, h2⟩ := h.put r mr
     rw [ht] at h1
     obtain ⟨e1, e2⟩ := F.one t _ _ b x (h.all _ h1) us
     refine ⟨rows, ?_, h.gd, h.ok, by rw [List.length_append]; exact Nat.le_trans h.len (Nat.le_add_right _ _), fun s hs => ?_, fun q hq => ?_, fun t' b' x' hs => ?_, fun t' hs => ?_⟩
     · show MQ.putF rows t b x = some rows
       unfold MQ.putF
       rw [f]
       simp [hr, e1, e2]
     · rcases List.mem_append.mp hs with hs | hs
       · exact h.all s hs
       · rw [List.mem_singleton.mp hs]; exact us
     · obtain ⟨q1, q2⟩ := h.put q hq
       refine ⟨List.mem_append_left _ q1, q2.trans ⟨fun z => List.mem_append_left _ z, fun z => ?_⟩⟩
       rcases List.mem_append.mp z with z | z
       · exact z
       · cases List.mem_singleton.mp z
     · rcases List.mem_append.mp hs with hs | hs
       · exact h.has _ _ _ hs
       · cases List.mem_singleton.mp hs; exact ⟨r, mr, ht⟩
     · rcases List.mem_append.mp hs with hs | hs
       · exact h.cut _ hs
       · cases List.mem_singleton.mp hs
   | none =>
     obtain ⟨k, hk⟩ : ∃ k, bix rows b = some k := by
      unfold bix
      split
      · exact ⟨0, rfl⟩
      · rename_i nb
        rcases oa with z | ⟨b', x', z⟩
        · exact absurd z nb
        · obtain ⟨q, hq, hq2⟩ := h.has _ _ _ z
          obtain ⟨i, hi⟩ := zi5 hq hq2
          exact ⟨i + 1, by rw [hi]; rfl⟩
     have g' := h.gd.put (n := ⟨t.1, t.2, b.1, b.2, x, false⟩) f hk hl nz rfl rfl
     have hp : (rows.take (k + past t (rows.drop k)) ++ (⟨t.1, t.2, b.1, b.2, x, false⟩ : Rw) :: rows.drop (k + past t (rows.drop k))).Perm (⟨t.1, t.2, b.1, b.2, x, false⟩ :: rows) := by
      have z := List.perm_middle (a := (⟨t.1, t.2, b.1, b.2, x, false⟩ : Rw)) (l₁ := rows.take (k + past t (rows.drop k))) (l₂ := rows.drop (k + past t (rows.drop k)))
      rw [List.take_append_drop] at z
      exact z
     refine ⟨_, ?_, g', fun r hr => ?_, ?_, fun s hs => ?_, fun q hq => ?_, fun t' b' x' hs => ?_, fun t' hs => ?_⟩
     · show MQ.putF rows t b x = _
       unfold MQ.putF
       rw [f, hk]
       dsimp only
       rw [if_pos (show lat t.1 t.2 b.1 b.2 = true from hl), List.append_assoc]
       rfl
     · rcases List.mem_cons.mp (hp.mem_iff.mp hr) with e | hr
       · rw [e]; exact okx
       · exact h.ok r hr
     · rw [hp.length_eq, List.length_append]; exact Nat.succ_le_succ h.len
     · rcases List.mem_append.mp hs with hs | hs
       · exact h.all s hs
       · rw [List.mem_singleton.mp hs]; exact us
     · rcases List.mem_cons.mp (hp.mem_iff.mp hq) with e | hq
       · rw [e]
         refine ⟨List.mem_append_right _ (List.mem_singleton.mpr rfl), ⟨fun z => Bool.noConfusion z, fun z => ?_⟩⟩
         rcases List.mem_append.mp z with z | z
         · obtain ⟨r, hr, ht⟩ := h.cut _ z
           exact absurd ht (zge f r hr)
         · cases List.mem_singleton.mp z
       · obtain ⟨q1, q2⟩ := h.put q hq
         refine ⟨List.mem_append_left _ q1, q2.trans ⟨fun z => List.mem_append_left _ z, fun z => ?_⟩⟩
         rcases List.mem_append.mp z with z | z
         · exact z
         · cases List.mem_singleton.mp z
     · rcases List.mem_append.mp hs with hs | hs
       · obtain ⟨r, hr, ht⟩ := h.has _ _ _ hs
         exact ⟨r, hp.mem_iff.mpr (List.mem_cons_of_mem _ hr), ht⟩
       · cases List.mem_singleton.mp hs
         exact ⟨_, hp.mem_iff.mpr List.mem_cons_self, rfl⟩
     · rcases List.mem_append.mp hs with hs | hs
       · obtain ⟨r, hr, ht⟩ := h.cut _ hs
         exact ⟨r, hp.mem_iff.mpr (List.mem_cons_of_mem _ hr), ht⟩
       · cases List.mem_singleton.mp hs
 | cut t =>
   obtain ⟨b, x, z⟩ := oa
   obtain ⟨q, hq, hq2⟩ := h.has _ _ _ z
   obtain ⟨i, hi⟩ := zi5 hq hq2
   obtain ⟨r, hr, ht⟩ := zb7 hi
   have u := h.gd.uniq
   have il := (List.getElem?_eq_some_iff.mp hr).1
   have mr := List.mem_of_getElem? hr
   have like : rows.map (fun r => (r.tag, r.bhd)) = (rows.set i { r with out := true }).map (fun r => (r.tag, r.bhd)) := by
    rw [List.map_set]
    apply List.ext_getElem?
    intro j
    rw [List.getElem?_set]
    split
    · rename_i ej
      subst ej
      rw [if_pos (by rw [List.length_map]; exact il), List.getElem?_map, hr]; rfl
    · rfl
   have back : ∀ r' ∈ rows.set i { r with out := true }, (r' ∈ rows ∧ r'.tag ≠ t) ∨ r' = { r with out := true } := fun r' hr' => by
    obtain ⟨j, hj⟩ := List.mem_iff_getElem?.mp hr'
    rw [List.getElem?_set] at hj
    split at hj
    · rename_i ej
      exact .inr (Option.some.inj hj).symm
    · rename_i ej
      refine .inl ⟨List.mem_of_getElem? hj, fun e => ej ?_⟩
      exact u i j r r' hr hj (by rw [ht, e])
   have keep : ∀ t', (∃ r ∈ rows, r.tag = t') → ∃ r' ∈ rows.set i { r with out := true }, r'.tag = t' := fun t' ⟨r', h1, h2⟩ => by
    have et : rows.map Rw.tag = (rows.set i { r with out := true }).map Rw.tag := by
     have z := congrArg (List.map Prod.fst) like
     simpa [List.map_map, Function.comp_def] using z
    have m : t' ∈ rows.map Rw.tag := by rw [← h2]; exact List.mem_map_of_mem h1
    rw [et] at m
    exact List.mem_map.mp m
   refine ⟨rows.set i { r with out := true }, ?_, h.gd.like like, fun r' hr' => ?_, ?_, fun s hs => ?_, fun r' hr' => ?_, fun t' b' x' hs => ?_, fun t' hs => ?_⟩
   · show zl3 rows t = _
     unfold zl3
     rw [hi]
     dsimp only
     rw [hr, List.set_eq_take_append_cons_drop, if_pos il]
     simp
   · rcases back r' hr' with ⟨h1, _⟩ | h1
     · exact h.ok r' h1
     · rw [h1]; exact h.ok r mr
   · rw [List.length_set, List.length_append]; exact Nat.le_trans h.len (Nat.le_add_right _ _)
   · rcases List.mem_append.mp hs with hs | hs
     · exact h.all s hs
     · rw [List.mem_singleton.mp hs]; exact us
   · rcases back r' hr' with ⟨h1, h2⟩ | h1
     · obtain ⟨q1, q2⟩ := h.put r' h1
       refine ⟨List.mem_append_left _ q1, q2.trans ⟨fun z => List.mem_append_left _ z, fun z => ?_⟩⟩
       rcases List.mem_append.mp z with z | z
       · exact z
       · have e := List.mem_singleton.mp z
         injection e with e
         exact absurd e h2
     · rw [h1]
       exact ⟨List.mem_append_left _ (h.put r mr).1, fun _ => List.mem_append_right _ (List.mem_singleton.mpr (by show Slip.cut r.tag = Slip.cut t; rw [ht])), fun _ => rfl⟩
   · rcases List.mem_append.mp hs with hs | hs
     · exact keep _ (h.has _ _ _ hs)
     · cases List.mem_singleton.mp hs
   · rcases List.mem_append.mp hs with hs | hs
     · exact keep _ (h.cut _ hs)
     · cases List.mem_singleton.mp hs; exact ⟨_, List.mem_iff_getElem?.mpr ⟨i, List.getElem?_set_self il⟩, ht⟩
noncomputable def Cz (done : List Slip) : List Slip → Prop
 | [] => True
 | s :: ss => yZ done s ∧ Cz (done ++ [s]) ss
theorem zA {a b : List Slip} (h : ∀ s ∈ a, s ∈ b) {s : Slip} (k : yZ a s) : yZ b s := by
 cases s with
 | put t p x =>
   rcases k with e | ⟨b', x', k⟩
   · exact .inl e
   · exact .inr ⟨b', x', h _ k⟩
 | cut t => obtain ⟨p, x, k⟩ := k; exact ⟨p, x, h _ k⟩
theorem Cz.app : ∀ {a b d : List Slip}, Cz d (a ++ b) ↔ Cz d a ∧ Cz (d ++ a) b
 | [], b, d => by rw [List.nil_append, List.append_nil]; exact ⟨fun h => ⟨trivial, h⟩, fun h => h.2⟩
 | s :: a, b, d => by
   show yZ d s ∧ Cz (d ++ [s]) (a ++ b) ↔ (yZ d s ∧ Cz (d ++ [s]) a) ∧ Cz (d ++ s :: a) b
   rw [Cz.app, List.append_assoc, List.singleton_append, and_assoc]
section
variable {X : Cx}
end
theorem zsl {K : W.Frag} {H : Hp} {d e : Dv} {vs : List V} (h : bM K H [d, e] vs) : ∃ v w, vs = [v, w] ∧ gN K H d v ∧ gN K H e w := by
 obtain ⟨v, r, rfl, h2, h3⟩ := (show ∃ v r, vs = v :: r ∧ gN K H d v ∧ bM K H [e] r from h)
 obtain ⟨w, rfl, h4⟩ := rV h3
 exact ⟨v, w, rfl, h2, h4⟩
section
variable {X : Cx} {o e e2 : Expr} {es : List Expr} {wo : WE} {wa : WA} {apos cpos : Pos}
end
section
variable {X : Cx} {pins : List (Addr × Obj)} {σ : L2.St} {H : Hp} {s : Shared}
theorem zev {C : Addr} {h' : Heap} (I : L2.Inv X pins σ H s) (f : jV X pins H C) (sb : Heap.SameBut C s.heap h') : L2.Inv X pins σ H { s with heap := h' } := by
 have kp : ∀ b ob, b ≠ C → s.heap.get? b = some ob → h'.get? b = some ob := fun b ob hb e => (sb.2 b hb).trans e
 refine I.call' (s' := { s with heap := h' }) (ch := [C]) rfl ⟨fun b ob e n hb hx => ?_, fun b ob e n hb hx => ⟨ob.slots, ?_⟩, fun b ob e n hx => n, fun b ob e hx => ⟨ob, ?_⟩, fun b xs e => e, fun b ob u e => e, fun b ps e => ⟨#[], ?_⟩⟩ ?_ I.bare fun b hb => ?_
 · exact kp b ob (fun z => hx (by simp [z])) e
 · exact kp b ob (fun z => hx (by simp [z])) e
 · exact kp b ob (fun z => hx (by simp [z])) e
 · rw [Array.append_empty]; exact e
 · intro b u q
   refine (I.hok b u q).stay (fun c w hc e => kp c w (fun z => ?_) e) (fun c hc => hc) fun c zs hc => hc
   rcases hc with hc | hc
   · rw [← hc, z, f.1] at q; cases q
   · rw [z, f.1] at hc; cases hc
 · rw [List.mem_singleton.mp hb]
   exact ⟨f.2.2.2.1, f.2.1, f.2.2.2.2.1, f.2.2.2.2.2⟩
end
section
variable {X : Cx} {elt iter : Expr} {ifs : List Expr} {x y : Str} {px py pos spos : Pos} {sc : Scope} {src : WE} {wt : WT} {we : WE} {i : Nat}
noncomputable def CP (X : Cx) (pins : List (Addr × Obj)) (D : Ends) (y : Str) (py : Pos) (acc : Value) (cenv : Env) (r : Result) (s' : Shared) : Prop := match r with
 | .ok _ => wpAny (model X.prog X.w) X.A (assign (.Name y py) X.env acc) (fun _ s'' => ∃ m, s''.heap.Ns cenv.locals m ∧ ∀ h', Heap.SameBut cenv.locals s''.heap h' → SP X pins D .next { s'' with heap := h' }) X.xe s'
 | .error z => ∃ m, s'.heap.Ns cenv.locals m ∧ ∀ h', Heap.SameBut cenv.locals s'.heap h' → wpAny (model X.prog X.w) X.A (passOn "comprehension.variables-let-go" z cenv) (fun (_ : Value) s' => SP X pins D .next s') X.xe { s' with heap := h' }
theorem zsm (hN : X.N.Nodup) (hi : DE X iter src) (ht : ∀ C s H fp, iT (rR X sc x C s H fp) ifs wt) (he : ∀ C s H fp, DE (rR X sc x C s H fp) elt we)
 (hfree : ∀ y ∈ sc.names, y.2 ≠ .free) (hcell : ∀ y ∈ sc.names, y.2 ≠ .cell) (hkind : sc.kind = .function) (hnames : ∀ y ∈ sc.names, y.2 = .local → sc.names.lookup y.1 = some .local) (hx : sc.names.lookup x = some .local) (hcalm : X.calm = true)
 (hs : ∀ x, foldedSetIterable iter X.env x = pure x) (hiy : X.N[i]? = some y) (hxy : Loc X.env.scope y) (hsw : swapsWith (.ListComp elt [⟨.Name x px, iter, ifs, 0⟩] sc pos) (some (.Name y py)) spos.line X.env = pure true)
 (hf : X.fn y = true ∨ X.env.scope.names.lookup y = some .local) : DS X (.Assign [.Name y py] (.ListComp elt [⟨.Name x px, iter, ifs, 0⟩] sc pos) spos) (cI i (iS src wt we)) := by
 intro pins s σ H D I ⟨ρ, S, D', env, st, hw, dn⟩
 rw [exec_Assign_Name_used _ _ _ _ hsw]
 refine wpAny_bind (wpAny_standAt (wpAny_bind ?_))
 show wpAny _ X.A (do let _ ← comprehension (.ListComp elt [⟨.Name x px, iter, ifs, 0⟩] sc pos) sc X.env _ (newList []) false (eval iter X.env) (some (assign (.Name y py) X.env))) _ _ s
 refine wpAny_bind (wpAny_mono (wpAny_comprehension_use (Q := fun _ s' => SP X pins D .next s') rfl hs hfree hkind hnames ?_) (fun _ s' hq => wpAny_pure (wpAny_pure hq)) fun _ _ e => e)
 have hpi := wT (tg := .Name x px) hi pins s σ H (fun J H1 => ∃ a vs ds S1, J = Itl X.K a ∧ SqR X.K H1 a vs ∧ bM X.K H1 ds vs ∧ cG X.K H1 S1 ∧ Ext H H1 ∧ cmpL wt we ds S1 [] fun ys S2 => D'.nx (ρ.set i (some (.lst ys))) S2) I
  ⟨ρ, S, _, env, st, hw, fun d S1 v H1 q e st1 hd => by
   obtain ⟨ds, hds, q⟩ := jY q
   obtain ⟨a, vs, rfl, hq, hv⟩ := yN hd hds
   exact ⟨a, rfl, ⟨vs, hq.sq⟩, a, vs, ds, S1, rfl, hq, hv, st1, e, q⟩⟩
 refine thn hpi fun xv s1 h1 => thn h1 fun itv s2 h2 => ?_
 obtain ⟨it, fp, tn, J, H2, rfl, I2, T, t2, f2, a, vs, ds, S1, rfl, hq, hv, sto, ex, hc⟩ := h2
 refine wpAny_newObj_type (wpAny_newFunctionEnv hcell (by intro y hy; cases hy) (fun h₁ hns hsb => ?_) hkind)
 have hlt : ∀ b ∈ fp, b < s2.heap.objs.size := fun b hb => by
  obtain ⟨o, e, _⟩ := T.obj 0 s2.heap t2 b hb
  exact Heap.lt_size e
 have eC : (s2.heap.push { cls := .type "list", data := .seq #[] }).objs.size = s2.heap.objs.size + 1 := Heap.size_push ..
 have keep : ∀ b o, s2.heap.get? b = some o → h₁.get? b = some o := fun b o e => by
  have z : b ≠ (s2.heap.push { cls := .type "list", data := .seq #[] }).objs.size := by
   rw [eC]; exact Nat.ne_of_lt (Nat.lt_succ_of_lt (Heap.lt_size e))
  exact (hsb.2 b z).trans (Heap.get?_push_of_some _ (Heap.get?_push_of_some _ e))
 have acc0 : iC h₁ s2.heap.objs.size [] := by
  have z : s2.heap.objs.size ≠ (s2.heap.push { cls := .type "list", data := .seq #[] }).objs.size := by
   rw [eC]; exact Nat.ne_of_lt (Nat.lt_succ_self _)
  exact ⟨_, (hsb.2 _ z).trans (Heap.get?_push_of_some _ (Heap.get?_push_size _ rfl))⟩
 have hns' : h₁.Ns (s2.heap.objs.size + 1) fun x => List.lookup x ([] : List (Str × Value)).reverse := by
  have q := hns
  dsimp only at q
  rw [eC] at q
  exact q
 have I4 : ∀ t, L2.Inv (rR X sc x (s2.heap.objs.size + 1) s2 H2 fp) [] [none] H2 { s2 with heap := h₁, toks := t } := fun t => zio I2 (Nat.le_succ _) keep hns' hfree hcell hkind f2 hlt
 have hz : vs.length ≤ sizeLine := (I2.list hq.sq).choose_spec.2.2
 have loop : ∀ t, codeAny (model X.prog X.w) X.A (.compLoop (.ListComp elt [⟨.Name x px, iter, ifs, 0⟩] sc pos) 0 (.ref it) (.ref s2.heap.objs.size) (rR X sc x (s2.heap.objs.size + 1) s2 H2 fp).env)
  (CP X pins D y py (.ref s2.heap.objs.size) (rR X sc x (s2.heap.objs.size + 1) s2 H2 fp).env) { s2 with heap := h₁, toks := t } := fun t => by
  refine zet (C := s2.heap.objs.size + 1) (D := s2.heap.objs.size) (s2 := s2) (H2 := H2) (vs := vs) (ds := ds) ht he hx hcalm T ?_ ?_ (fun z => absurd (hlt _ z) (Nat.lt_irrefl _)) hq hv hz ?_ 0 [] [] [] [none] H2 S1 _ (Nat.zero_le _) (I4 t) (T.keep 0 s2.heap h₁ t2 fun b hb o e => keep b o e) (fun b hb => (f2 b hb).1) I2.fresh acc0 .nil (Nat.le_refl _) dR sto (Ext.refl _) hc
  · intro H' d
    refine ⟨d, Nat.ne_of_lt (Nat.lt_succ_self _), oX I2 (Nat.ne_of_gt I2.lt) (I2.nofs (Nat.le_refl _)), .inr (Nat.le_refl _), fun y c e => ?_, fun p hp => ?_⟩
    · have e' : ([] : List (Str × Addr)).lookup y = some c := e
      cases e'
    · have hp' : p ∈ ([] : List (Addr × Obj)) := hp
      cases hp'
  · intro H' hn b hb
    refine ⟨hn b hb, Nat.ne_of_lt (Nat.lt_succ_of_lt (hlt b hb)), oX I2 (f2 b hb).2.1 (f2 b hb).2.2.1, .inl hb, fun y c e => ?_, fun p hp => ?_⟩
    · have e' : ([] : List (Str × Addr)).lookup y = some c := e
      cases e'
    · have hp' : p ∈ ([] : List (Addr × Obj)) := hp
      cases hp'
  · intro acc us ys σ' H' S' s' I' d' a' v' z' e' st' x' q'
    obtain ⟨m, hm, _⟩ := I'.loc
    obtain ⟨o, I''⟩ := ziq I2 f2 I' (Nat.lt_succ_self _) d' a' v' z' (Heap.SameBut.refl _ _)
    have sm := fP d' (.frz o (.lst ys))
    have hCn : H' (s2.heap.objs.size + 1) = none := I'.free
    have fC : jV X pins (upd H' s2.heap.objs.size (.frz o (.lst ys))) (s2.heap.objs.size + 1) := I2.fpOk (Nat.le_succ _) (by rw [bD (Nat.succ_ne_self _)]; exact hCn)
    refine wpAny_assign_Name (yG I'' hN hiy hxy (v := .ref s2.heap.objs.size) rfl (fun s'' Iq ⟨b, sba, hb⟩ => ?_) hf)
    have nb : s2.heap.objs.size + 1 ≠ b := fun z => by
     rcases hb with hb | hb
     · exact fC.2.1 (z.trans hb)
     · exact fC.2.2.2.2.1 _ _ hb z.symm
    refine ⟨m, hm.sameBut sba nb, fun h' sb => ⟨_, _, zev Iq fC sb, ?_⟩⟩
    exact dn.nx _ S' _ _ q' ((ex.trans x').trans (bF sm)) ((env.ext ((ex.trans x').trans (bF sm))).set (d := .lst acc) ⟨_, o, ys, rfl, bP, cA (bF sm) _ _ e'⟩) (st'.same sm)
 have fin := codeAny_compStart_list (loop (s2.toks + ([] : List (Str × Value)).length)) (T.self X.A 0 _ _ _ (T.keep 0 s2.heap h₁ t2 fun b hb o e => keep b o e) (loop _))
 simp only [eC]
 exact fin
end
theorem znv {X : Cx} {elt iter c : Expr} {x y : Str} {px py pos spos : Pos} {sc : Scope} {src : WE} {wt : WT} {we : WE} {i : Nat} (hN : X.N.Nodup) (hi : DE X iter src) (ht : ∀ C s H fp, DT (rR X sc x C s H fp) c wt) (he : ∀ C s H fp, DE (rR X sc x C s H fp) elt we)
 (hfree : ∀ y ∈ sc.names, y.2 ≠ .free := by decide) (hcell : ∀ y ∈ sc.names, y.2 ≠ .cell := by decide) (hkind : sc.kind = .function := by rfl) (hnames : ∀ y ∈ sc.names, y.2 = .local → sc.names.lookup y.1 = some .local := by decide) (hx : sc.names.lookup x = some .local := by rfl) (hcalm : X.calm = true := by rfl)
 (hs : ∀ x, foldedSetIterable iter X.env x = pure x := by intro _; rfl) (hiy : X.N[i]? = some y := by rfl) (hxy : Loc X.env.scope y := by first | exact Or.inl rfl | exact Or.inr rfl) (hsw : swapsWith (.ListComp elt [⟨.Name x px, iter, [c], 0⟩] sc pos) (some (.Name y py)) spos.line X.env = pure true := by rfl)
 (hf : X.fn y = true ∨ X.env.scope.names.lookup y = some .local := by first | exact .inl rfl | exact .inr rfl | assumption) : DS X (.Assign [.Name y py] (.ListComp elt [⟨.Name x px, iter, [c], 0⟩] sc pos) spos) (cI i (iS src wt we)) :=
 zsm hN hi (fun C s H fp => yT (ht C s H fp)) he hfree hcell hkind hnames hx hcalm hs hiy hxy hsw hf
noncomputable def zi6 (ds : List Dv) (x : Dv) : Nat := ds.countP fun y => wR y x
theorem zl7 (ds : List Dv) (d : PyData) : (mZ ds).countP (fun y => PyData.eqv y d) = ds.countP fun y => PyData.eqv (dP y) d := by
 induction ds with
 | nil => rfl
 | cons a l ih => rw [mZ, List.countP_cons, List.countP_cons, ih]
section
variable {X : Cx}
noncomputable def rCnt (K : W.Frag) : V → List V → Hp → VK → Prop := fun x vs H Q => ∃ (ds : List Dv) (dx : Dv) (y : V), vs = [y] ∧ gN K H (.lst ds) x ∧ gN K H dx y ∧ mE (.lst ds) = true ∧ mE dx = true ∧ Q (.int (zi6 ds dx : Nat)) H
theorem zsn (hu : X.A.units + 128 < cLine) : MtR X "list.count" (rCnt X.K) := by
 intro pins s σ H x vs v us Q I rx rv ⟨ds, dx, y, e0, hd, hy, p1, p2, q⟩
 subst e0
 obtain ⟨u, rfl, ru⟩ := rv.one
 obtain ⟨n1, s1⟩ := jZ p1
 obtain ⟨n2, s2⟩ := jZ p2
 obtain ⟨as, r1⟩ := pJ I _ _ _ n1 hd rx
 obtain ⟨bs, r2⟩ := pJ I _ _ _ n2 hy ru
 obtain ⟨c1, c2⟩ := nG (.inl rfl) s1
 have d2 := SeqAt.depth_of_shaped s2
 have hu2 : X.A.units + 1 + min (PyData.depthAll (mZ ds)) (dP dx).depth < cLine := by
  have := Nat.min_le_left (PyData.depthAll (mZ ds)) (dP dx).depth
  omega
 cases r1 with
 | @list a o its n xs as' h1 h2 h3 h4 =>
   obtain ⟨cl, dd, da, sl⟩ := o
   cases (show cl = .type "list" from h2)
   cases (show da = .seq its n from h3)
   refine call_meets F.slot_list_count ⟨_, h1, rfl⟩ F.entry_list_count (F.args_list_count_2 _ _) (SeqAt.list_countAt a its n dd sl u fun y => PyData.eqv (SeqAt.readOf s.heap y) (dP dx)) ⟨h1, SeqAt.items_eqAt h4 r2 c1 (SeqAt.canLay_of_shaped s2) hu2, ?_⟩
   have e : its.toList.countP (fun y => PyData.eqv (SeqAt.readOf s.heap y) (dP dx)) = zi6 ds dx := by
    unfold zi6
    have z := SeqAt.readsAll_map (mZ ds) _ _ c1 h4
    have z2 : (mZ ds).countP (fun y => PyData.eqv y (dP dx)) = its.toList.countP (fun y => PyData.eqv (SeqAt.readOf s.heap y) (dP dx)) := by
     rw [← z, List.countP_map]; rfl
    rw [← z2, zl7]; rfl
   rw [e]
   exact ⟨.int (zi6 ds dx : Nat), H, I.tok _, ⟨_, rfl⟩, q⟩
end
noncomputable def isL (d : Dv) (k : List Dv → Prop) : Prop := match d with
 | .lst ds => k ds
 | _ => False
theorem znw {d : Dv} {k : List Dv → Prop} (h : isL d k) : ∃ ds, d = .lst ds ∧ k ds := by
 unfold isL at h
 split at h
 · exact ⟨_, rfl, h⟩
 · exact h.elim
noncomputable def zl8 (o : WE) (a : WA) : WE := fun ρ S Q => o ρ S fun d S1 => isL d fun ds => a ρ S1 fun l S2 => one l fun x => mE (.lst ds) = true ∧ mE x = true ∧ Q (.int (zi6 ds x : Nat)) S2
section
variable {X : Cx} {o e : Expr} {wo : WE} {wa : WA} {apos cpos : Pos}
theorem zso (hu : X.A.units + 128 < cLine) (ho : DE X o wo) (ha : DA X [e] wa) (hbase : attributeBase o "count" X.env (eval o X.env) = eval o X.env := by rfl)
 (hfew : ((backTo cpos (starEach [e] X.env)).all (fun x => !x.1) && (backToKw cpos (keywordEach [] X.env)).all (fun x => x.1.isSome)
   && decide ([e].length + ([] : List Keyword).length + (if ([] : List Keyword).isEmpty then 0 else 1) < 30)) = true := by rfl)
 (hline : (apos.endLine == cpos.line) = true := by rfl) (hs : starEach [e] X.env = (false, eval e X.env) :: starEach [] X.env := by rfl) (hplain : (backTo cpos (starEach [] X.env)).any (·.1) = false := by rfl) :
 DE X (.Call (.Attribute o "count" apos) [e] [] cpos) (zl8 wo wa) :=
 PE.weak (zq9 PySem.F.plainAttrs_list PySem.F.slot_list_count PySem.F.type_list_count (zsn hu) ho ha hbase hfew hline hs hplain) fun σ H Q ⟨ρ, S, Q', env, st, hw, post⟩ => ⟨ρ, S, _, env, st, hw, fun d S1 v H1 q1 e1 st1 hd => by
  obtain ⟨ds, rfl, q1⟩ := znw q1
  obtain ⟨a, vs, rfl, hq, hv⟩ := yN (d := .lst ds) hd rfl
  refine ⟨.inl ⟨rfl, vs, hq.sq⟩, ρ, S1, _, env.ext e1, st1, q1, fun l S2 us H2 q2 e2 st2 hl => ?_⟩
  obtain ⟨x, rfl, p1, p2, q⟩ := xD q2
  obtain ⟨u, rfl, hx⟩ := rV hl
  exact ⟨ds, x, u, rfl, dJ e2 _ _ hd, hx, p1, p2, post _ S2 _ H2 q (e1.trans e2) st2 rfl⟩⟩
end
noncomputable def zzi (d : Dv) (k : List Dv → Prop) (_ : Kp k := ⟨⟩) (_ : True := trivial) : Prop := isL d k
@[simp] theorem zado {ds : List Dv} {k : List Dv → Prop} : zzi (.lst ds) k = k ds := id rfl
@[simp ↓] theorem zaac {o : WE} {a : WA} {ρ : Ev} {S : aN} {Q : QE} : zl8 o a ρ S Q = o ρ S (fun d S1 => zzi d fun ds => a ρ S1 fun l S2 => zpf l fun x => mE (.lst ds) = true ∧ mE x = true ∧ Q (.int (zi6 ds x : Nat)) S2) := id rfl
noncomputable def zb8 : Ds := fun ds S Q => ∃ ns : List Int, ds = [.scr ns] ∧ ns.length ≤ 63 ∧ ∀ S', Q (.bl true) S'
theorem zl9 (ds : List Dv) (S : aN) (Q : QE) (h : zb8 ds S Q) : ds.length = 1 := by obtain ⟨ns, rfl, _⟩ := h; rfl
theorem zma {K : W.Frag} {H : Hp} {a : Addr} {ns : List Int} (hl : ns.length ≤ 63) (hO : zvm H) (hS : uR K H a (ns.map V.int)) : lSp K zb8 [.ref a] H (fun v _ => v = .bl true) fun _ _ _ => False := by
 have hR : SqR K H a (ns.map V.int) := by
  rcases hS with (h | ⟨o, h⟩) | h
  · rcases hO a with z | ⟨ob, xs, z⟩
    · rw [h] at z; cases z
    · rw [h] at z; cases z
  · exact .inl ⟨o, h⟩
  · exact .inr h
 exact ⟨[.scr ns], fun _ => none, fun d _ => d = .bl true, dE ⟨a, rfl, hR⟩ dR, (fun b o e => by cases e), ⟨ns, rfl, hl, fun _ => rfl⟩, fun d S' v H' e _ _ hd => by
  subst e; exact hd⟩
section
variable {S0 : aN} {p p2 : Addr} {m t m' t' : List Dv} {k : Addr → List Dv → Prop} {i : Int} {d : Dv}
end
noncomputable def sgn (x : Str) (i : Nat) : Option V := x.cps[i]?.map fun c => .str ⟨#[c]⟩
noncomputable def Its (x : Str) : It := ⟨fun i _ => i < x.cps.size, fun i H v H' => H' = H ∧ sgn x i = some v, fun i _ => x.cps.size ≤ i⟩
theorem zmb {P : Program} {w : World} {K : W.Frag} {tg : Expr} (it : Addr) (x : Str) (t : Tok) : Turn P w K tg (Its x) [it] it (fun i h => h.IsStrIter it "str_ascii_iterator" x t i) where
 mem := by simp
 obj := fun i h st b hb => by
  have e : b = it := by simpa using hb
  subst e
  obtain ⟨o, e, c, d⟩ := st
  exact ⟨o, e, fun v z => by rw [d] at z; cases z⟩
 keep := fun i h h' st k => by
  obtain ⟨o, e, r⟩ := st
  exact ⟨o, k it (by simp) o e, r⟩
 item := by
  intro X hP hw hK hc i pins s σ H E I hf st hg
  subst hP hw hK
  obtain ⟨f0, f1, f2, f3, f4, f5⟩ := hf it (by simp)
  have hg' : i < x.cps.size := hg
  have hx : x.cps[i]? = some x.cps[i] := by simp [hg']
  refine wpAny_pyNext_ascii_item st hx fun h' st' sb => ?_
  have I1 : Inv X pins σ H { s with heap := h', toks := s.toks + 1 } := I.turned (t' := s.toks + 1) (fun b o hb e => (sb.2 b hb).trans e) f0 f1 f3 f4 f5
  obtain ⟨o, e, c, d⟩ := id st'
  exact ⟨_, rfl, zna (s := { s with heap := h', toks := s.toks + 1 }) e c d (by decide) ⟨.str ⟨#[x.cps[i]]⟩, H, I1, ⟨_, rfl⟩, ⟨rfl, by unfold sgn; rw [hx]; rfl⟩, st', fun b hb => (hf b hb).1⟩⟩
 done := by
  intro X hP hw hK hc i pins s σ H E I hf st hg
  subst hP hw hK
  obtain ⟨f0, f1, f2, f3, f4, f5⟩ := hf it (by simp)
  have hg' : x.cps.size ≤ i := hg
  exact wpAny_pyNext_ascii_end (I.ok.hd hc) st (by simp [hg']) fun h' eb => ⟨rfl, I.turned (t' := s.toks) (fun b o hb e => eb b o hb e) f0 f1 f3 f4 f5⟩
 self := fun _ _ _ _ _ st h => wpAny_pyIter_striter_ascii st h
theorem zpm {P : Program} {w : World} {K : W.Frag} {tg : Expr} (it : Addr) (x : Str) (t : Tok) : Turn P w K tg (Its x) [it] it (fun i h => h.IsStrIter it "str_iterator" x t i) where
 mem := by simp
 obj := fun i h st b hb => by
  have e : b = it := by simpa using hb
  subst e
  obtain ⟨o, e, c, d⟩ := st
  exact ⟨o, e, fun v z => by rw [d] at z; cases z⟩
 keep := fun i h h' st k => by
  obtain ⟨o, e, r⟩ := st
  exact ⟨o, k it (by simp) o e, r⟩
 item := by
  intro X hP hw hK hc i pins s σ H E I hf st hg
  subst hP hw hK
  obtain ⟨f0, f1, f2, f3, f4, f5⟩ := hf it (by simp)
  have hg' : i < x.cps.size := hg
  have hx : x.cps[i]? = some x.cps[i] := by simp [hg']
  refine wpAny_pyNext_wide_item st hx fun h' st' sb => ?_
  have I1 : Inv X pins σ H { s with heap := h', toks := s.toks + 1 } := I.turned (t' := s.toks + 1) (fun b o hb e => (sb.2 b hb).trans e) f0 f1 f3 f4 f5
  obtain ⟨o, e, c, d⟩ := id st'
  exact ⟨_, rfl, zna (s := { s with heap := h', toks := s.toks + 1 }) e c d (by decide) ⟨.str ⟨#[x.cps[i]]⟩, H, I1, ⟨_, rfl⟩, ⟨rfl, by unfold sgn; rw [hx]; rfl⟩, st', fun b hb => (hf b hb).1⟩⟩
 done := by
  intro X hP hw hK hc i pins s σ H E I hf st hg
  subst hP hw hK
  obtain ⟨f0, f1, f2, f3, f4, f5⟩ := hf it (by simp)
  have hg' : x.cps.size ≤ i := hg
  exact wpAny_pyNext_wide_end (I.ok.hd hc) st (by simp [hg']) fun h' eb => ⟨rfl, I.turned (t' := s.toks) (fun b o hb e => eb b o hb e) f0 f1 f3 f4 f5⟩
 self := fun _ _ _ _ _ st h => wpAny_pyIter_striter_wide st h
section
variable {X : Cx} {tg l : Expr} {tl : TE}
noncomputable def iStr (tl : TE) : TI := fun σ H R => tl σ H fun v H1 => ∃ x, v = .str x ∧ R (Its x) H1
theorem zzj (hl : PE X l tl) : PI X tg l (iStr tl) := by
 intro pins s σ H R I h
 refine thn (hl pins s σ H _ I h) fun v s1 ⟨y, H1, I1, r1, q1⟩ => ?_
 obtain ⟨x, e, q⟩ := q1
 subst e
 obtain ⟨t, rfl⟩ := r1
 have fp : ∀ b ∈ [s1.heap.objs.size], jV X pins H1 b := fun b hb => by
  have e : b = s1.heap.objs.size := by simpa using hb
  subst e
  exact I1.fpOk (Nat.le_refl _) (I1.hok.fresh (Nat.le_refl _))
 cases ha : x.cps.all (· < 128)
 · exact wpAny_pyIter_wide ha ⟨s1.heap.objs.size, [s1.heap.objs.size], _, _, H1, rfl, I1.kept (t' := s1.toks) fun b o e => Heap.get?_push_of_some _ e, zpm _ x t, ⟨_, Heap.get?_push_size _ rfl, rfl, rfl⟩, fp, q⟩
 · exact wpAny_pyIter_ascii ha ⟨s1.heap.objs.size, [s1.heap.objs.size], _, _, H1, rfl, I1.kept (t' := s1.toks) fun b o e => Heap.get?_push_of_some _ e, zmb _ x t, ⟨_, Heap.get?_push_size _ rfl, rfl, rfl⟩, fp, q⟩
end
theorem zwe {x : Str} {g : TG} {tb : TS} {D : Ends} {σ : L2.St} {H : Hp} (Pv : Nat → L2.St → Hp → Prop) (h0 : Pv 0 σ H)
 (hs : ∀ i v σ H, sgn x i = some v → Pv i σ H → g v σ H fun σ2 H2 => tb { D with nx := Pv (i + 1), ct := Pv (i + 1), bk := D.nx } σ2 H2) (hd : ∀ σ H, Pv x.cps.size σ H → D.nx σ H) :
 ∃ W : Nat → Nat → L2.St → Hp → Prop, (∃ m, W 0 m σ H) ∧ ∀ i m σ H, W i m σ H →
   ((Its x).stop i H ∧ D.nx σ H) ∨ ((Its x).go i H ∧ ∃ N : L2.St → Hp → Prop, (∀ σ' H', N σ' H' → ∃ m', m' < m ∧ W (i + 1) m' σ' H') ∧ ∀ v H', (Its x).yld i H v H' → g v σ H' fun σ2 H2 => tb { D with nx := N, ct := N, bk := D.nx } σ2 H2) := by
 refine ⟨fun i m σ H => m = x.cps.size - i ∧ i ≤ x.cps.size ∧ Pv i σ H, ⟨x.cps.size, by simp, Nat.zero_le _, h0⟩, ?_⟩
 rintro i m σ H ⟨rfl, hi, p⟩
 by_cases hlt : i < x.cps.size
 · refine .inr ⟨hlt, Pv (i + 1), fun σ' H' p' => ⟨x.cps.size - (i + 1), by omega, rfl, hlt, p'⟩, fun v H' y => ?_⟩
   obtain ⟨e, y⟩ := y
   subst e
   exact hs i v σ _ y p
 · have e : i = x.cps.size := by omega
   subst e
   exact .inl ⟨Nat.le_refl _, hd σ H p⟩
noncomputable def sgs (x : Str) : List Dv := x.cps.toList.map fun c => .str ⟨#[c]⟩
noncomputable def isS (d : Dv) (k : Str → Prop) : Prop := match d with
 | .str x => k x
 | _ => False
theorem znx {d : Dv} {k : Str → Prop} (h : isS d k) : ∃ x, d = .str x ∧ k x := by
 unfold isS at h
 split at h
 · exact ⟨_, rfl, h⟩
 · exact h.elim
noncomputable def zny (i : Nat) (src : WE) (b : WS) : WS := fun D ρ S => src ρ S fun d S1 => isS d fun x => dL i b D (sgs x) ρ S1
theorem znz {X : Cx} {i : Nat} {x : Str} {iter : Expr} {body : List Stmt} {src : WE} {tb : WS} {pos px : Pos} (hp : PassesOwn (model X.prog X.w) X.A X.env X.xe) (hN : X.N.Nodup) (hi : DE X iter src) (hb : DSs X body tb) (hc : X.calm = true := by rfl)
 (hix : X.N[i]? = some x := by rfl) (hx : Loc X.env.scope x := by first | exact Or.inl rfl | exact Or.inr rfl) (hf : X.fn x = true ∨ X.env.scope.names.lookup x = some .local := by first | exact .inl rfl | exact .inr rfl | assumption)
 (hs : ∀ x, foldedSetIterable iter X.env x = pure x := by intro _; rfl) : DS X (.For (.Name x px) iter body [] pos) (zny i src tb) :=
 PS.weak (zbr hp hc (zzj hi) (mQ hN hix hx hf) hb hs) fun D σ H ⟨ρ, S, D', env, st, hw, dn⟩ => ⟨ρ, S, _, env, st, hw, fun d S1 v H1 q e st1 hd => by
  obtain ⟨z, rfl, q⟩ := znx q
  cases (show v = .str z from hd)
  refine ⟨z, rfl, ?_⟩
  refine zwe (x := z) (fun j σ2 H2 => LoopAt X.K H1 (dL i tb D' ((sgs z).drop j)) σ2 H2) ⟨ρ, S1, env.ext e, st1, Ext.refl _, q⟩ ?_ ?_
  · rintro j v σ2 H2 hv ⟨ρ2, S2, env2, st2, e2, q2⟩
    unfold sgn at hv
    cases hc : z.cps[j]? with
    | none => rw [hc] at hv; cases hv
    | some c =>
      rw [hc] at hv
      cases hv
      have hy : (sgs z)[j]? = some (.str ⟨#[c]⟩) := by unfold sgs; rw [List.getElem?_map, Array.getElem?_toList, hc]; rfl
      rw [iX hy] at q2
      refine ⟨ρ2.set i (some (.str ⟨#[c]⟩)), S2, _, env2.set (d := .str ⟨#[c]⟩) (v := .str ⟨#[c]⟩) rfl, st2, q2, ⟨?_, ?_, ?_, ?_⟩⟩
      · exact fun ρ3 S3 σ3 H3 q3 e3 env3 st3 => ⟨ρ3, S3, env3, st3, e2.trans e3, q3⟩
      · exact fun d S3 v H3 q3 e3 st3 hd => dn.rt d S3 v H3 q3 ((e.trans e2).trans e3) st3 hd
      · exact fun ρ3 S3 σ3 H3 q3 e3 env3 st3 => dn.nx ρ3 S3 σ3 H3 q3 ((e.trans e2).trans e3) env3 st3
      · exact fun ρ3 S3 σ3 H3 q3 e3 env3 st3 => ⟨ρ3, S3, env3, st3, e2.trans e3, q3⟩
  · rintro σ2 H2 ⟨ρ2, S2, env2, st2, e2, q2⟩
    rw [List.drop_eq_nil_of_le (by unfold sgs; simp)] at q2
    exact dn.nx ρ2 S2 σ2 H2 q2 (e.trans e2) env2 st2⟩
section
variable {X : Cx}
noncomputable def za5 (sep : Str) (ts : List Str) : Str := Builtin.Str.glued sep ts
theorem zi7 (g : Array Nat) : ∀ (ps : List Str) (a : Array Nat), (ps.foldl (fun acc p => acc ++ g ++ p.cps) a).size = a.size + (ps.map (·.length)).sum + ps.length * g.size
 | [], a => by simp
 | p :: ps, a => by
   rw [List.foldl_cons, zi7 g ps, Array.size_append, Array.size_append, List.map_cons, List.sum_cons, List.length_cons, Nat.succ_mul]
   have : p.cps.size = p.length := rfl
   omega
theorem zsp (sep : Str) : ∀ ts : List Str, (za5 sep ts).length ≤ (ts.map (·.length)).sum + ts.length * sep.length
 | [] => Nat.zero_le _
 | t :: ts => by
   show (ts.foldl (fun acc p => acc ++ sep.cps ++ p.cps) t.cps).size ≤ _
   rw [zi7, List.map_cons, List.sum_cons, List.length_cons, Nat.succ_mul]
   have e1 : t.cps.size = t.length := rfl
   have e2 : sep.cps.size = sep.length := rfl
   rw [e1, e2]
   omega
theorem zew : ∀ {ts : List Str} {us : List Value}, bU (ts.map V.str) us → ∃ l : List (Str × Tok), strValues l = us ∧ l.map (·.1) = ts
 | [], us, h => by cases h; exact ⟨[], rfl, rfl⟩
 | t :: ts, us, h => by
   cases h with
   | cons h1 h2 =>
     obtain ⟨tk, rfl⟩ := h1
     obtain ⟨l, rfl, e⟩ := zew h2
     exact ⟨(t, tk) :: l, rfl, by rw [List.map_cons, e]⟩
noncomputable def zab9 : V → List V → Hp → VK → Prop := fun x vs H Q => ∃ (sep : Str) (a : Addr) (o : Obj) (ts : List Str), x = .str sep ∧ vs = [.ref a] ∧ H a = some (.frz o (.lst (ts.map V.str))) ∧ (ts.map (·.length)).sum + ts.length * sep.length ≤ 1000000 ∧ Q (.str (za5 sep ts)) H
theorem zwf : MtR X "str.join" zab9 := by
 intro pins s σ H x vs v us Q I rx rv ⟨sep, a, o, ts, e1, e2, hH, hz, q⟩
 subst e1 e2
 obtain ⟨t, rfl⟩ := rx
 obtain ⟨u, rfl, ru⟩ := rv.one
 cases ru
 obtain ⟨its, rv2, p, _⟩ := I.list (.inl (.inr ⟨o, hH⟩))
 obtain ⟨l, rfl, el⟩ := zew rv2
 have hl : Builtin.Str.tooLong ((l.map (·.1)).toArray.foldl (· + ·.length + sep.length) 0) = false := by
  rw [StrLaws.joinTotal, el]
  exact decide_eq_false (by show ¬ sizeLine < _; have : 1000000 ≤ sizeLine := by decide
                            omega)
 refine call_meets F.slot_str_join (typeIs_str _ _ _) F.entry_str_join (F.args_str_join_2 _ _) (meets_str_join_list sep t a l hl) ⟨p.isList, ?_⟩
 have hlen : (za5 sep ts).length ≤ sizeLine := Nat.le_trans (zsp sep ts) (Nat.le_trans hz (by decide))
 have made : (Made.str (za5 sep ts)).post (fun v s' => wants (EP X pins σ Q) X.xe (.ok (.ret v)) s') s := ⟨hlen, ⟨.str (za5 sep ts), H, I.tok _, ⟨_, rfl⟩, q⟩⟩
 subst el
 cases l with
 | nil => exact made
 | cons p0 l =>
   cases l with
   | nil => exact ⟨.str (za5 sep [p0.1]), H, I, ⟨p0.2, rfl⟩, q⟩
   | cons p1 l => exact made
end
theorem zex {K : W.Frag} {H : Hp} : ∀ {ts : List Str} {vs : List V}, bM K H (ts.map .str) vs → vs = ts.map V.str
 | [], vs, h => h
 | t :: ts, vs, h => by
   obtain ⟨v, r, rfl, h2, h3⟩ := (show ∃ v r, vs = v :: r ∧ gN K H (.str t) v ∧ bM K H (ts.map .str) r from h)
   cases (show v = .str t from h2)
   rw [zex h3]; rfl
noncomputable def zi8 (o : WE) (a : WA) : WE := fun ρ S Q => o ρ S fun d S1 => isS d fun sep => a ρ S1 fun l S2 => one l fun x => isL x fun ds => ∃ ts, ds = ts.map .str ∧ (ts.map (·.length)).sum + ts.length * sep.length ≤ 1000000 ∧ Q (.str (za5 sep ts)) S2
section
variable {X : Cx} {o e : Expr} {wo : WE} {wa : WA} {apos cpos : Pos}
theorem zgf (ho : DE X o wo) (ha : DA X [e] wa) (hbase : attributeBase o "join" X.env (eval o X.env) = eval o X.env := by rfl)
 (hfew : ((backTo cpos (starEach [e] X.env)).all (fun x => !x.1) && (backToKw cpos (keywordEach [] X.env)).all (fun x => x.1.isSome)
   && decide ([e].length + ([] : List Keyword).length + (if ([] : List Keyword).isEmpty then 0 else 1) < 30)) = true := by rfl)
 (hline : (apos.endLine == cpos.line) = true := by rfl) (hs : starEach [e] X.env = (false, eval e X.env) :: starEach [] X.env := by rfl) (hplain : (backTo cpos (starEach [] X.env)).any (·.1) = false := by rfl) :
 DE X (.Call (.Attribute o "join" apos) [e] [] cpos) (zi8 wo wa) :=
 PE.weak (zq9 PySem.F.plainAttrs_str PySem.F.slot_str_join PySem.F.type_str_join zwf ho ha hbase hfew hline hs hplain) fun σ H Q ⟨ρ, S, Q', env, st, hw, post⟩ => ⟨ρ, S, _, env, st, hw, fun d S1 v H1 q1 e1 st1 hd => by
  obtain ⟨sep, rfl, q1⟩ := znx q1
  cases (show v = .str sep from hd)
  refine ⟨rfl, ρ, S1, _, env.ext e1, st1, q1, fun l S2 us H2 q2 e2 st2 hl => ?_⟩
  obtain ⟨x, rfl, q2⟩ := xD q2
  obtain ⟨ds, rfl, ts, rfl, hz, q⟩ := znw q2
  obtain ⟨u, rfl, hx⟩ := rV hl
  obtain ⟨a, ob, vs, rfl, h1, h2⟩ := (show ∃ a o vs, u = .ref a ∧ H2 a = some (.frz o (.lst vs)) ∧ bM X.K H2 (ts.map .str) vs from hx)
  rw [zex h2] at h1
  exact ⟨sep, a, ob, ts, rfl, rfl, h1, hz, post _ S2 _ H2 q (e1.trans e2) st2 rfl⟩⟩
end
noncomputable def zwg (d : Dv) (k : Str → Prop) (_ : Kp k := ⟨⟩) (_ : True := trivial) : Prop := isS d k
@[simp] theorem zadp {x : Str} {k : Str → Prop} : zwg (.str x) k = k x := id rfl
@[simp ↓] theorem zaca {i : Nat} {src : WE} {b : WS} {D : Dn} {ρ : Ev} {S : aN} : zny i src b D ρ S = src ρ S (fun d S1 => zwg d fun x => dL i b D (sgs x) ρ S1) := id rfl
@[simp ↓] theorem zacb {o : WE} {a : WA} {ρ : Ev} {S : aN} {Q : QE} : zi8 o a ρ S Q = o ρ S (fun d S1 => zwg d fun sep => a ρ S1 fun l S2 => zpf l fun x => zzi x fun ds => ∃ ts, ds = ts.map .str ∧ (ts.map (·.length)).sum + ts.length * sep.length ≤ 1000000 ∧ Q (.str (za5 sep ts)) S2) := id rfl
noncomputable def zsq : Fn := fun _ l => match l with
 | [.int i, .int j] => some (.int (if j < i then j else i))
 | _ => none
noncomputable def zwh : Fn := fun _ l => match l with
 | [.int i, .int j] => some (.int (if j > i then j else i))
 | _ => none
section
variable {X : Cx}
theorem zacc (hc : X.calm = true) : nE X (.builtin "min") (rC X.K zsq) := by
 intro pins s σ H xs us Q I r ⟨S, ds, d, st, hds, hf, q⟩
 unfold zsq at hf
 split at hf
 · cases hf
   obtain ⟨v, u, rfl, hv, hu⟩ := zsl hds
   cases (fQ hv)
   cases (fQ hu)
   exact zo1 hc pins s σ H _ us Q I r ⟨_, _, rfl, q _ H (eW.refl H) rfl⟩
 · cases hf
theorem zacd (hc : X.calm = true) : nE X (.builtin "max") (rC X.K zwh) := by
 intro pins s σ H xs us Q I r ⟨S, ds, d, st, hds, hf, q⟩
 unfold zwh at hf
 split at hf
 · cases hf
   obtain ⟨v, u, rfl, hv, hu⟩ := zsl hds
   cases (fQ hv)
   cases (fQ hu)
   exact zo0 hc pins s σ H _ us Q I r ⟨_, _, rfl, q _ H (eW.refl H) rfl⟩
 · cases hf
theorem zpn : bootBuiltins "min" = some (.builtin "min") := by decide +kernel
theorem zpo : bootBuiltins "max" = some (.builtin "max") := by decide +kernel
noncomputable def zdp (x : Str) (lo hi : Option Int) : Str := ⟨((x.cps.toList.drop (HT.sIx x.length 0 lo)).take (HT.sIx x.length x.length hi - HT.sIx x.length 0 lo)).toArray⟩
theorem zn0 {v : Value} {o : Option Int} (p : IsPart v o) : ∃ l : Option (Int × Tok), v = partValue l ∧ o = l.map (·.1) := by
 cases p with
 | none => exact ⟨none, rfl, rfl⟩
 | int i t => exact ⟨some (i, t), rfl, rfl⟩
theorem zpp (lo hi : Option Int) (n : Nat) : Builtin.Str.strSliceIndices lo hi 1 n = (List.range (HT.sIx n n hi - HT.sIx n 0 lo)).map (HT.sIx n 0 lo + ·) := by
 have c1 : ∀ (v : Int) (d : Nat), max 0 (min (if v < 0 then v + (n : Int) else v) (n : Int)) = ((HT.sIx n d (some v) : Nat) : Int) := fun v d => by
  show _ = (((if v < 0 then (v + (n : Int)).toNat else min v.toNat n) : Nat) : Int)
  by_cases hv : v < 0
  · simp only [if_pos hv]; omega
  · simp only [if_neg hv]; omega
 have h1 : (1 : Int) > 0 := by decide
 rw [← sliceRange_one]
 unfold Builtin.Str.strSliceIndices
 cases lo <;> cases hi <;> simp only [h1, if_true, c1 _ 0, c1 _ n] <;> rfl
noncomputable def rSlS : V → Option Int → Option Int → Hp → VK → Prop := fun x lo hi H Q => ∃ z : Str, x = .str z ∧ z.length ≤ sizeLine ∧ Q (.str (zdp z lo hi)) H
theorem zzk : SlR X rSlS := by
 intro pins s σ H x v vl vu lo hi sl Q I rx hs pl pu ⟨z, ex, hz, q⟩
 subst ex
 obtain ⟨t, rfl⟩ := rx
 obtain ⟨l, rfl, rfl⟩ := zn0 pl
 obtain ⟨u, rfl, rfl⟩ := zn0 pu
 refine ⟨"str", _, F.slot_str_getitem.lookup, typeIs_str _ _ _, wpAny_getItem_str_slice (l := l) (u := u) (st := none) hs rfl ?_⟩
 have ep : slicePicked z l u none = (List.range (HT.sIx z.length z.length (u.map (·.1)) - HT.sIx z.length 0 (l.map (·.1)))).map (HT.sIx z.length 0 (l.map (·.1)) + ·) := zpp _ _ _
 have el : (slicePicked z l u none).length = HT.sIx z.length z.length (u.map (·.1)) - HT.sIx z.length 0 (l.map (·.1)) := by rw [ep]; simp
 have ek : (⟨((slicePicked z l u none).filterMap (z.cps[·]?)).toArray⟩ : Str) = zdp z (l.map (·.1)) (u.map (·.1)) := by
  rw [ep, pick_run]; rfl
 have hle := HT.sIx_le z.length z.length (Nat.le_refl _) (u.map (·.1))
 unfold sliceMade
 split
 · rename_i hc
   have hn : (slicePicked z l u none).length = z.length := by simpa using hc
   have hcz : zdp z (l.map (·.1)) (u.map (·.1)) = z := by
    unfold zdp
    have h0 : z.length ≤ HT.sIx z.length z.length (u.map (·.1)) - HT.sIx z.length 0 (l.map (·.1)) := by rw [← el, hn]; exact Nat.le_refl _
    have hzl : z.cps.toList.length = z.length := by simp [Str.length]
    by_cases h00 : z.length = 0
    · have e0 : z.cps.toList = [] := List.length_eq_zero_iff.mp (by rw [hzl]; exact h00)
      have e1 : z.cps = #[] := by simpa using e0
      rw [e1]; obtain ⟨c⟩ := z; simp at e1 ⊢; exact e1
    · have h1 : HT.sIx z.length 0 (l.map (·.1)) = 0 := by omega
      rw [h1, List.drop_zero, List.take_of_length_le (by rw [hzl]; omega)]
   rw [hcz] at q
   exact ⟨.str z, H, I, ⟨t, rfl⟩, q⟩
 · rw [ek]
   refine ⟨?_, ⟨.str _, H, I.tok _, ⟨_, rfl⟩, q⟩⟩
   refine Nat.le_trans ?_ hz
   show (((z.cps.toList.drop _).take _).toArray).size ≤ z.cps.size
   rw [List.size_toArray, List.length_take, List.length_drop, Array.length_toList]
   omega
noncomputable def zzl (e : WE) (lo hi : Option WE) : WE := fun ρ S Q => e ρ S fun d S1 => kX lo ρ S1 fun l S2 => kX hi ρ S2 fun h S3 => isS d fun z => z.length ≤ mT ∧ Q (.str (zdp z l h)) S3
theorem zpq {e : Expr} {lo hi : Option Expr} {we : WE} {wl wh : Option WE} {pos p2 : Pos} (he : DE X e we) (hl : PO X lo (lO X.K (kX wl))) (hh : PO X hi (lO X.K (kX wh))) : DE X (.Subscript e (.Slice lo hi none p2) pos) (zzl we wl wh) :=
 PE.weak (zh9 zzk he hl hh) fun σ H Q ⟨ρ, S, Q', env, st, hw, post⟩ => ⟨ρ, S, _, env, st, hw, fun d S1 v H1 q1 e1 st1 hd =>
  ⟨ρ, S1, _, env.ext e1, st1, q1, fun l S2 H2 q2 e2 st2 => ⟨ρ, S2, _, env.ext (e1.trans e2), st2, q2, fun h S3 H3 q3 e3 st3 => by
   cases d with
   | str z =>
     cases (yO hd)
     exact ⟨z, rfl, rT q3.1, post _ S3 _ H3 q3.2 (e1.trans (e2.trans e3)) st3 rfl⟩
   | _ => exact (show False from q3).elim⟩⟩⟩
end
theorem zsr {X : Cx} {k : Nat} {ps : List Str} {sp : Ds} {x : Str} {p pos : Pos} (G : Has X.prog X.w X.K X.mg X.base k x ps sp) (hr : Room k X.A) (hg : Gl X x := by rfl) (hdb : (x == ("__debug__" : Str)) = false := by decide) :
 DE X (.Call (.Name x p) [] [] pos) (bE sp aO) := by
 obtain ⟨f, fd, F, hm, hk, hb⟩ := G.ex
 exact PE.weak (zq6 F hr hg hm hk hb .nil znd hdb) fun σ H Q ⟨ρ, S, Q', env, st, hw, post⟩ => ⟨[], S, Q', dR, st, hw, fun d S2 v H2 q2 e2 st2 hd => post d S2 v H2 q2 e2 st2 hd⟩
@[simp ↓] theorem zadq {e : WE} {lo hi : Option WE} {ρ : Ev} {S : aN} {Q : QE} : zzl e lo hi ρ S Q = e ρ S (fun d S1 => kX lo ρ S1 fun l S2 => kX hi ρ S2 fun h S3 => zwg d fun z => z.length ≤ mT ∧ Q (.str (zdp z l h)) S3) := id rfl
noncomputable def tx (a : Str) (ts : List Str) : Str := ts.foldl (· ++ ·) a
noncomputable def there (rows : List Rw) : List Rw := rows.filter fun r => !r.out
noncomputable def one1 (rows : List Rw) : Prop := ∀ r ∈ rows, r.sg.length = 1
noncomputable def chs (z : Str) : List Str := z.cps.toList.map fun c => ⟨#[c]⟩
noncomputable def zey : Str := " !\"#$&'()*+,-./0123456789:;<=>?@ABCDEFGHIJKLMNOPQRSTUVWXYZ" ++ "[\\]^_`abcdefghijklmnopqrstuvwxyz{|}~"
theorem zez : zey.length = 94 := by decide +kernel
theorem zss : PyData.strOk zey = true := by decide +kernel
noncomputable def most (rows : List Rw) : Int := match rows with
 | [] => 0
 | r :: rs => big r.tc (rs.map (·.tc))
noncomputable def jG (rows : List Rw) (p : Nat) : cV := ((((0, 0) : cV) :: ((there rows).map Rw.tag).take p).getLast?).getD (0, 0)
noncomputable def cX (c n : Int) (b : cV) : List Str → List Slip
 | [] => []
 | x :: xs => .put (c, n) b x :: cX (c + 1) n (c, n) xs
noncomputable def fH : Ds := fun ds S Q => ds = [] ∧ Q (.str zey) S
theorem zgg : ∀ ds S Q, fH ds S Q → ds.length = 0 := by rintro _ S Q ⟨rfl, _⟩; rfl
noncomputable def fX : Ds := fun ds S Q => ∃ rows : List Rw, ds = [.lst (rows.map bC)] ∧ Q (.lst ((there rows).map fun r => cC r.tag)) S
theorem zi9 : ∀ ds S Q, fX ds S Q → ds.length = 1 := by rintro _ S Q ⟨_, rfl, _⟩; rfl
noncomputable def iO : Ds := fun ds S Q => ∃ (rows : List Rw) (p : Nat), ds = [.lst (rows.map bC), .int p] ∧ rows.length ≤ 1000 ∧ Q (cC (jG rows p)) S
theorem zdr : ∀ ds S Q, iO ds S Q → ds.length = 2 := by rintro _ S Q ⟨_, _, rfl, _⟩; rfl
noncomputable def sB : Ds := fun ds S Q => ∃ (rows : List Rw) (n : Int), ds = [.lst (rows.map bC), .int n] ∧ Q (.tup [.int (most rows + 1), .int n]) S
theorem zst : ∀ ds S Q, sB ds S Q → ds.length = 2 := by rintro _ S Q ⟨i, n, rfl, _⟩; rfl
noncomputable def nK : Ds := fun ds S Q => ∃ (rows : List Rw) (n : Int) (p : Nat) (z : Str), ds = [.lst (rows.map bC), .int n, .int p, .str z] ∧ rows.length ≤ 1000 ∧ z.length ≤ 1000 ∧ Q (.lst ((cX (most rows + 1) n (jG rows p) (chs z)).map aJ)) S
theorem zmc : ∀ ds S Q, nK ds S Q → ds.length = 4 := by rintro _ S Q ⟨_, _, _, _, rfl, _⟩; rfl
theorem bL {x y : WS} (h : x = y) (D : Dn) (ρ : Ev) (S : aN) : x D ρ S = y D ρ S := congrFun (congrFun (congrFun h D) ρ) S
noncomputable def sC : WS :=
 (aS (cI 0 (wC (.str " !\"#$&'()*+,-./0123456789:;<=>?@ABCDEFGHIJKLMNOPQRSTUVWXYZ")))
 (bA (aU fO (aD 0) (wC (.str "[\\]^_`abcdefghijklmnopqrstuvwxyz{|}~")))))
def zds {D ρ S} := bL sC.eq_1 D ρ S
noncomputable def vR : WS :=
 (bA (iS (aD 0) (eN (bZ (aU bI (aD 0) (wC (.int 3))))) (aU bI (aD 0) (wC (.int 0)))))
def zgh {D ρ S} := bL vR.eq_1 D ρ S
noncomputable def qP : WS :=
 (bA (aU bI (aU fO (zf3 (aE (wC dS) aO)) (wSl (bE fX (aE (aD 0) aO)) none (some (aD 1)))) (wC (.int (-1)))))
def zb9 {D ρ S} := bL qP.eq_1 D ρ S
noncomputable def zgi : WS :=
 (aS (cI 2 (zr3 (aE (zag (aD 0) (aU bI (aU bI (aD 0) (wC (.int 0))) (wC (.int 0)))) aO) (wC (.int 0))))
 (bA (oV (aE (aU fO (aD 2) (wC (.int 1))) (aE (aD 1) aO)))))
noncomputable def gA : WS :=
 (aS (mL (yS (aD 4) (aE (oV (aE (wC (.str "put")) (aE (aD 6) (aE (aD 5) (aE (aD 7) aO))))) aO)))
 (aS (cI 5 (aD 6))
 (cI 6 (oV (aE (aU fO (aU bI (aD 6) (wC (.int 0))) (wC (.int 1))) (aE (aD 1) aO))))))
def zca {D ρ S} := bL gA.eq_1 D ρ S
noncomputable def zB : WS :=
 (aS (cI 4 (wZ aO))
 (aS (cI 5 (bE iO (aE (aD 0) (aE (aD 2) aO))))
 (aS (cI 6 (bE sB (aE (aD 0) (aE (aD 1) aO))))
 (aS (zes 4 (zny 7 (aD 3)
 gA))
 (bA (aD 4))))))
def zja {D ρ S} := bL zB.eq_1 D ρ S
theorem zwi (x : Str) : (⟨x.cps⟩ : Str) = x := by cases x; rfl
theorem tR : ("" : Str).cps = #[] := by decide +kernel
theorem zwj (a b : Str) : (a ++ b).cps = a.cps ++ b.cps := rfl
theorem zwk (a b : Str) : (a ++ b).length = a.length + b.length := Array.size_append ..
theorem zpr (a : Str) : "" ++ a = a := by
 show (⟨("" : Str).cps ++ a.cps⟩ : Str) = a
 rw [tR, Array.empty_append]
theorem tS : ("" : Str).length = 0 := by show ("" : Str).cps.size = 0; rw [tR]; rfl
theorem zsu : ∀ (ts : List Str) (a : Str), (tx a ts).length = a.length + (ts.map (·.length)).sum
 | [], a => by simp [tx]
 | t :: ts, a => by
   show (tx (a ++ t) ts).length = _
   rw [zsu ts, zwk, List.map_cons, List.sum_cons]; omega
theorem zcb : ∀ {rows : List Rw}, one1 rows → ((rows.map Rw.sg).map (·.length)).sum = rows.length
 | [], _ => rfl
 | r :: rs, h => by
   rw [List.map_cons, List.map_cons, List.sum_cons, h r List.mem_cons_self, zcb fun q hq => h q (List.mem_cons_of_mem _ hq), List.length_cons]; omega
theorem zbm (ts : List Str) : za5 "" ts = tx "" ts := by
 have fold : ∀ (ps : List Str) (a : Str), (⟨ps.foldl (fun acc p => acc ++ ("" : Str).cps ++ p.cps) a.cps⟩ : Str) = tx a ps := by
  intro ps
  induction ps with
  | nil => intro a; exact zwi a
  | cons p ps ih =>
    intro a
    have z := ih (a ++ p)
    rw [List.foldl_cons, tR, Array.append_empty]
    rw [zwj, tR] at z
    exact z
 cases ts with
 | nil => show (⟨Str.empty.cps⟩ : Str) = ""; exact by decide +kernel
 | cons t ts =>
   show (⟨ts.foldl (fun acc p => acc ++ ("" : Str).cps ++ p.cps) t.cps⟩ : Str) = tx ("" ++ t) ts
   rw [fold, zpr]
theorem zzm {a b : Str} (ha : PyData.strOk a = true) (hb : PyData.strOk b = true) : PyData.strOk (a ++ b) = true := by
 have h1 : a.cps.all (· < 0x110000) = true := ha
 have h2 : b.cps.all (· < 0x110000) = true := hb
 show (a.cps ++ b.cps).all (· < 0x110000) = true
 rw [Array.all_append, h1, h2]; rfl
theorem zsv : ∀ {ts : List Str} {a : Str}, PyData.strOk a = true → (∀ t ∈ ts, PyData.strOk t = true) → PyData.strOk (tx a ts) = true
 | [], a, ha, _ => ha
 | t :: ts, a, ha, h => zsv (ts := ts) (zzm ha (h t List.mem_cons_self)) fun q hq => h q (List.mem_cons_of_mem _ hq)
theorem zjb : PyData.strOk ("" : Str) = true := by decide +kernel
theorem pM (rows : List Rw) : (there rows).length ≤ rows.length := List.length_filter_le ..
theorem kI {rows : List Rw} {r : Rw} (h : r ∈ there rows) : r ∈ rows := (List.mem_filter.mp h).1
theorem zn1 {S : aN} {Q : List Dv → aN → Prop} : ∀ (rows : List Rw) (acc : List Dv), Q (acc ++ rows.map fun r => Dv.int r.tc) S → cmpL rW (aU bI (aU bI (aD 0) (wC (.int 0))) (wC (.int 0))) (rows.map bC) S acc Q
 | [], acc, q => by simpa [cmpL] using q
 | r :: rs, acc, q => by
   simp [cmpL, bC]
   exact zn1 rs (acc ++ [.int r.tc]) (by simpa using q)
theorem zsw (l : List Int) : ints? (l.map Dv.int) = some l := by
 induction l with
 | nil => rfl
 | cons a l ih => simp [ints?, ih]
theorem zsx : ∀ ds S Q, sB ds S Q → zgi { nx := fun _ S' => Q .non S', rt := Q } (cK 3 ds) S := by
 rintro _ S Q ⟨rows, n, rfl, q⟩
 simp [zgi, cK]
 refine zn1 rows [] ?_
 have e : (rows.map fun r => Dv.int r.tc) = (rows.map (·.tc)).map Dv.int := by simp
 rw [List.nil_append, e]
 simp only [xF, zb1, zsw]
 cases rows with
 | nil =>
   have q' : Q (.tup [.int (0 + 1), .int n]) S := q
   unfold zy8 goM
   simp at q' ⊢
   exact q'
 | cons r rs =>
   have q' : Q (.tup [.int (big r.tc (rs.map (·.tc)) + 1), .int n]) S := q
   unfold zy8 goM
   simp at q' ⊢
   exact q'
@[simp] theorem zsy {S : aN} {Q : QE} : fH [] S Q = Q (.str zey) S := by simp [fH]
theorem zgj : ∀ ds S Q, fH ds S Q → sC { nx := fun _ S' => Q .non S', rt := Q } (cK 1 ds) S := by
 rintro _ S Q ⟨rfl, q⟩
 have e : ∀ S : aN, fO S (.str " !\"#$&'()*+,-./0123456789:;<=>?@ABCDEFGHIJKLMNOPQRSTUVWXYZ") (.str "[\\]^_`abcdefghijklmnopqrstuvwxyz{|}~") = some (.str zey) := fun S => by
  show (if (" !\"#$&'()*+,-./0123456789:;<=>?@ABCDEFGHIJKLMNOPQRSTUVWXYZ" : Str).length + ("[\\]^_`abcdefghijklmnopqrstuvwxyz{|}~" : Str).length ≤ mT then some (Dv.str (" !\"#$&'()*+,-./0123456789:;<=>?@ABCDEFGHIJKLMNOPQRSTUVWXYZ" ++ "[\\]^_`abcdefghijklmnopqrstuvwxyz{|}~")) else none) = _
  exact if_pos (by decide +kernel)
 simp [zds, cK, e]
 exact q
theorem zC {S : aN} {Q : List Dv → aN → Prop} : ∀ (rows : List Rw) (acc : List Dv), Q (acc ++ (there rows).map fun r => cC r.tag) S → cmpL (eN (bZ (aU bI (aD 0) (wC (.int 3))))) (aU bI (aD 0) (wC (.int 0))) (rows.map bC) S acc Q
 | [], acc, q => by simpa [cmpL, there] using q
 | r :: rs, acc, q => by
   cases ho : r.out with
   | true =>
     have e : there (r :: rs) = there rs := by unfold there; rw [List.filter_cons, ho]; rfl
     rw [e] at q
     have z := zC (S := S) (Q := Q) rs acc q
     simp [cmpL, iI, ho]
     exact z
   | false =>
     have e : there (r :: rs) = r :: there rs := by unfold there; rw [List.filter_cons, ho]; rfl
     rw [e] at q
     have z := zC (S := S) (Q := Q) rs (acc ++ [cC r.tag]) (by simpa using q)
     simp [cmpL, iI, ho]
     exact z
theorem zjc : ∀ ds S Q, fX ds S Q → vR { nx := fun _ S' => Q .non S', rt := Q } (cK 1 ds) S := by
 rintro _ S Q ⟨rows, rfl, q⟩
 simp [zgh, cK]
 exact zC rows [] q
@[simp] theorem zus {rows : List Rw} {S : aN} {Q : QE} : fX [.lst (rows.map bC)] S Q = Q (.lst ((there rows).map fun r => cC r.tag)) S :=
  propext ⟨fun ⟨r, e, q⟩ => by
   simp only [List.cons.injEq, Dv.lst.injEq, and_true] at e
   rw [zb3 e]; exact q, fun q => ⟨rows, rfl, q⟩⟩
theorem zps {α : Type} {f : α → Dv} {l : List α} {p : Nat} : rQ (l.map f) none (some (p : Int)) = (l.take p).map f := by
 unfold rQ
 rw [HT.sIx_nat, HT.sIx_none, List.drop_zero, Nat.sub_zero, List.length_map, ← List.map_take]
 rcases Nat.le_total p l.length with h | h
 · rw [Nat.min_eq_left h]
 · rw [Nat.min_eq_right h, List.take_of_length_le (Nat.le_refl _), List.take_of_length_le h]
theorem zcc (rows : List Rw) (p : Nat) : (((0, 0) : cV) :: ((there rows).map Rw.tag).take p).getLast? = some (jG rows p) := by
 unfold jG
 cases h : (((0, 0) : cV) :: ((there rows).map Rw.tag).take p).getLast? with
 | none => simp at h
 | some x => rfl
theorem zdt : ∀ ds S Q, iO ds S Q → qP { nx := fun _ S' => Q .non S', rt := Q } (cK 2 ds) S := by
 rintro _ S Q ⟨rows, p, rfl, hl, q⟩
 have hle := pM rows
 have e1 : rQ ((there rows).map fun r => cC r.tag) none (some (p : Int)) = ((there rows).take p).map fun r => cC r.tag := zps
 have e2 : ∀ S : aN, fO S (.lst [dS]) (.lst (((there rows).take p).map fun r => cC r.tag)) = some (.lst (dS :: ((there rows).take p).map fun r => cC r.tag)) := fun S => pK (by
  rw [List.length_map, List.length_take]
  show 1 + _ ≤ mT
  unfold mT; omega)
 have e3 : ∀ S : aN, bI S (.lst (dS :: ((there rows).take p).map fun r => cC r.tag)) (.int (-1)) = some (cC (jG rows p)) := fun S => zsk (by
  have e : dS :: ((there rows).take p).map (fun r => cC r.tag) = (((0, 0) : cV) :: ((there rows).map Rw.tag).take p).map cC := by
   rw [List.map_cons, ← List.map_take, List.map_map]; rfl
  rw [e, List.getLast?_map, zcc]; rfl)
 simp only [zb9, cK]
 generalize ((there rows).take p).map (fun r => cC r.tag) = T at e1 e2 e3
 simp [e1, e2, e3]
 exact q
theorem zgk (t : cV) : cC t = .tup [.int t.1, .int t.2] := rfl
theorem zn2 (z : Str) : sgs z = (chs z).map .str := by unfold sgs chs; rw [List.map_map]; rfl
theorem zgl (z : Str) : (chs z).length = z.length := by unfold chs; simp [Str.length]
theorem zcd (n : Int) : ∀ (xs : List Str) (c : Int) (b : cV), (cX c n b xs).length = xs.length
 | [], _, _ => rfl
 | x :: xs, c, b => by unfold cX; rw [List.length_cons, List.length_cons, zcd n xs]
theorem uW {D : Dn} {S0 : aN} {p : Addr} {n : Int} {x0 x2 x3 : Option Dv} : ∀ (xs : List Str) (done : List Slip) (c : Int) (b : cV) (x7 : Option Dv), done.length + xs.length ≤ 1000 →
 (∀ ρ, ev? ρ 4 = some (.ref p) → ρ.length = 8 → D.nx ρ (cB S0 p (.lst ((done ++ cX c n b xs).map aJ)))) → dL 7 gA D (xs.map .str) [x0, some (.int n), x2, x3, some (.ref p), some (cC b), some (.tup [.int c, .int n]), x7] (cB S0 p (.lst (done.map aJ)))
 | [], done, c, b, x7, hl, fin => by
   unfold cX at fin
   rw [List.append_nil] at fin
   exact fin _ (by simp) (by simp)
 | x :: xs, done, c, b, x7, hl, fin => by
   rw [List.length_cons] at hl
   have step := uW (D := D) (S0 := S0) (p := p) (n := n) (x0 := x0) (x2 := x2) (x3 := x3) xs (done ++ [.put (c, n) b x]) (c + 1) (c, n) (some (.str x)) (by rw [List.length_append, List.length_singleton]; omega) (fun ρ h1 h2 => by
    have z := fin ρ h1 h2
    rw [show cX c n b (x :: xs) = .put (c, n) b x :: cX (c + 1) n (c, n) xs from rfl] at z
    rw [List.append_assoc]; exact z)
   rw [List.map_append, show [Slip.put (c, n) b x].map aJ = [.tup [.str "put", .tup [.int c, .int n], .tup [.int b.1, .int b.2], .str x]] from rfl, zgk] at step
   show gA { D with nx := dL 7 gA D (xs.map .str), ct := dL 7 gA D (xs.map .str), bk := D.nx } [x0, some (.int n), x2, x3, some (.ref p), some (cC b), some (.tup [.int c, .int n]), some (.str x)] (cB S0 p (.lst (done.map aJ)))
   generalize dL 7 gA D (xs.map .str) = N at step ⊢
   have hlim : done.length < mT := by unfold mT; omega
   rw [zgk]
   simp [zca, hlim, dF]
   exact step
theorem zmd : ∀ ds S Q, nK ds S Q → zB { nx := fun _ S' => Q .non S', rt := Q } (cK 8 ds) S := by
 rintro _ S Q ⟨rows, n, pl, z, rfl, hl, hz, q⟩
 simp [zja, cK]
 intro p hp
 refine ⟨rows, pl, rfl, hl, rows, n, rfl, ?_⟩
 simp
 rw [zn2]
 refine uW (S0 := S) (p := p) (chs z) [] _ (jG rows pl) none (by rw [zgl]; simpa using hz) ?_
 intro ρ h4 h8
 rw [List.nil_append]
 dsimp only
 refine yW h4 hp ?_
 have e : ev? (ρ.set 4 (some (.lst ((cX (most rows + 1) n (jG rows pl) (chs z)).map aJ)))) 4 = some (.lst ((cX (most rows + 1) n (jG rows pl) (chs z)).map aJ)) := by simp [ev?, h8]
 simp only [zf7, zbk, e, tQ]
 exact q
theorem zwl {t b : cV} {x : Str} (h : PyData.strOk x = true) : mE (aJ (.put t b x)) = true := by
 unfold mE aJ
 simp [kE, iY, dP, mZ, SeqAt.shaped]
 refine ⟨?_, rfl⟩
 show (PyData.strOk ("put" : Str) && (true && (true && (PyData.strOk x && true)))) = true
 rw [h, oZ]; rfl
theorem zzn {z : Str} (h : PyData.strOk z = true) : ∀ x ∈ chs z, PyData.strOk x = true := fun x hx => by
 unfold chs at hx
 obtain ⟨c, hc, rfl⟩ := List.mem_map.mp hx
 have all : z.cps.all (· < 0x110000) = true := h
 rw [← Array.all_toList, List.all_eq_true] at all
 have q := all c hc
 show (#[c] : Array Nat).all (· < 0x110000) = true
 simpa using q
theorem zsz : ∀ (l : List Int) (m : Int), m ≤ big m l ∧ ∀ x ∈ l, x ≤ big m l
 | [], m => ⟨Int.le_refl _, fun _ h => (List.not_mem_nil h).elim⟩
 | a :: l, m => by
   have z := zsz l (if m < a then a else m)
   have e : big m (a :: l) = big (if m < a then a else m) l := rfl
   rw [e]
   obtain ⟨z1, z2⟩ := z
   by_cases h : m < a
   · rw [if_pos h] at z1 z2 ⊢
     refine ⟨by omega, fun x hx => ?_⟩
     rcases List.mem_cons.mp hx with e | e
     · rw [e]; exact z1
     · exact z2 x e
   · rw [if_neg h] at z1 z2 ⊢
     refine ⟨z1, fun x hx => ?_⟩
     rcases List.mem_cons.mp hx with e | e
     · rw [e]; omega
     · exact z2 x e
theorem tT {rows : List Rw} : ∀ r ∈ rows, r.tc ≤ most rows := fun r hr => by
 cases rows with
 | nil => cases hr
 | cons a rs =>
   obtain ⟨z1, z2⟩ := zsz (rs.map (·.tc)) a.tc
   show r.tc ≤ big a.tc (rs.map (·.tc))
   rcases List.mem_cons.mp hr with e | e
   · rw [e]; exact z1
   · exact z2 _ (List.mem_map_of_mem e)
theorem zgm {rows : List Rw} (h : ∀ r ∈ rows, 1 ≤ r.tc) : 0 ≤ most rows := by
 cases rows with
 | nil => exact Int.le_refl _
 | cons a rs =>
   have h1 := h a List.mem_cons_self
   have h2 := tT (rows := a :: rs) a List.mem_cons_self
   omega
noncomputable abbrev jT (X : Cx) (sc : Scope) (x : Str) (fy : List Str) (cl : List (Str × Addr)) (C : Addr) (s : Shared) (H : Hp) (fp : List Addr) : Cx where
 prog := X.prog
 w := X.w
 K := X.K
 mg := X.mg
 base := X.base
 A := X.A
 N := x :: fy
 s₀ := s
 H₀ := H
 env := { scope := relabel sc X.env, locals := C, globals := X.env.globals, cells := cl, qual := X.env.qual, func := none, code := X.env.code, frame := X.env.frame, builtins := X.env.builtins }
 outer := X.stack
 stack := X.stack
 ex := fp
 fn := fun _ => false
 calm := X.calm
 pn := []
 xe := fun _ _ => False
structure ClOk (X : Cx) (sc : Scope) (fy : List Str) (cl : List (Str × Addr)) (vys : List V) (h : Heap) : Prop where
 sub : ∀ z c, cl.lookup z = some c → X.env.cells.lookup z = some c
 has : ∀ z, ((relabel sc X.env).names.lookup z = some .cell ∨ (relabel sc X.env).names.lookup z = some .free) → ∃ c, cl.lookup z = some c
 len : vys.length = fy.length
 at_ : ∀ (j : Nat) y v, fy[j]? = some y → vys[j]? = some v → (relabel sc X.env).names.lookup y = some .cell ∧ ∃ u c, dG v u ∧ cl.lookup y = some c ∧ h.IsCell c (some u)
section
variable {X : Cx} {pins : List (Addr × Obj)} {σ : L2.St} {H : Hp} {s : Shared}
theorem ze0 {sc : Scope} {x : Str} {fy : List Str} {cl : List (Str × Addr)} {vys : List V} {C : Addr} {fp : List Addr} {h₁ : Heap} {m : Str → Option Value} {t : Nat} (I : Inv X pins σ H s) (cok : ClOk X sc fy cl vys s.heap) (hC : s.heap.objs.size ≤ C) (keep : ∀ b o, s.heap.get? b = some o → h₁.get? b = some o) (hns : h₁.Ns C m)
 (hkind : sc.kind = .function) (hfp : ∀ b ∈ fp, jV X pins H b) (hlt : ∀ b ∈ fp, b < s.heap.objs.size) :
 Inv (jT X sc x fy cl C s H fp) [] (none :: vys.map some) H { s with heap := h₁, toks := t } := by
 refine ⟨⟨I.ok.mod, hkind, I.ok.glob, I.ok.blt, hC, fun y z c h1 h2 => I.ok.inj y z c (cok.sub y c h1) (cok.sub z c h2), fun y hy => cok.has y hy, fun y c h _ => (by cases h), I.ok.hd, I.ok.frames, .inl rfl, fun b hb => ⟨?_, fun y c h => (hfp b hb).2.2.2.2.1 y c (cok.sub y c h)⟩, fun b o e => I.bs b o e, Nat.le_trans I.ok.bsz I.sz, fun b o e hb => ?_, fun b hb => ?_, I.stack, I.stkFree⟩,
  rfl, I.bare, Un.kept keep, ⟨m, hns, fun i y v h1 h2 _ => ?_⟩, fun y c h => ?_, I.hok.fresh hC, fun y c h => I.freeC y c (cok.sub y c h), fun p hp => ?_, I.hok.kept keep, ?_⟩
 · exact Nat.ne_of_lt (Nat.lt_of_lt_of_le (hlt b hb) hC)
 · obtain ⟨_, _, _, z, _⟩ := hfp b hb
   rcases z with z | z
   · exact I.ok.noex b o e z
   · exact absurd (Nat.lt_of_lt_of_le (Heap.lt_size e) (Nat.le_trans I.ok.bsz z)) (Nat.lt_irrefl _)
 · obtain ⟨_, z1, z2, _⟩ := hfp b hb
   exact oX I z1 z2
 · cases i with
   | zero => simp at h2
   | succ i =>
     obtain ⟨k, u, c, r, hc, ⟨o, e, d⟩⟩ := cok.at_ i y v (by simpa using h1) (by simpa using h2)
     exact ⟨u, r, .inr ⟨.inl k, c, hc, o, keep c o e, d⟩⟩
 · obtain ⟨v, o, e, d⟩ := I.cell y c (cok.sub y c h)
   exact ⟨v, o, keep c o e, d⟩
 · have hp' : p ∈ ([] : List (Addr × Obj)) := hp
   cases hp'
 · show (none :: vys.map some).length = (x :: fy).length
   simp [cok.len]
end
noncomputable def yE (dys : List Dv) (wt : WT) : WT := fun ρ S Q => wt (ρ ++ dys.map some) S Q
noncomputable def wS (dys : List Dv) (we : WE) : WE := fun ρ S Q => we (ρ ++ dys.map some) S Q
section
variable {X : Cx} {elt iter : Expr} {x : Str} {fy : List Str} {px pos : Pos} {ifs : List Expr} {sc : Scope} {src : WE} {wt : WT} {we : WE}
theorem zme {cl : List (Str × Addr)} {vys : List V} {dys : List Dv} {C D it a : Addr} {fp : List Addr} {tn : Nat → Heap → Prop} {s2 : Shared} {H2 : Hp} {vs : List V} {ds : List Dv} {R : Result → Shared → Prop} {Qf : List Dv → aN → Prop}
 (ht : ∀ cl C s H fp, iT (jT X sc x fy cl C s H fp) ifs wt) (he : ∀ cl C s H fp, DE (jT X sc x fy cl C s H fp) elt we) (hx : (relabel sc X.env).names.lookup x = some .local) (hdy : bM X.K H2 dys vys) (hnd : (x :: fy).Nodup) (hcalm : X.calm = true)
 (T : Turn X.prog X.w X.K (.Name x px) (Itl X.K a) fp it tn) (hfD : ∀ H', H' D = none → jV (jT X sc x fy cl C s2 H2 fp) [] H' D) (hff : ∀ H', (∀ b ∈ fp, H' b = none) → ∀ b ∈ fp, jV (jT X sc x fy cl C s2 H2 fp) [] H' b) (hDf : D ∉ fp)
 (hq : SqR X.K H2 a vs) (hv : bM X.K H2 ds vs) (hz : vs.length ≤ sizeLine)
 (fin : ∀ (acc : List Dv) (us : List Value) (ys : List V) (σ' : L2.St) (H' : Hp) (S' : aN) (s' : Shared), Inv (jT X sc x fy cl C s2 H2 fp) [] σ' H' s' → H' D = none → iC s'.heap D us → bU ys us → ys.length ≤ sizeLine → bM X.K H' acc ys → cG X.K H' S' → Ext H2 H' → Qf acc S' → R (.ok .next) s') :
 ∀ (i : Nat) (acc : List Dv) (us : List Value) (ys : List V) (σ' : L2.St) (H' : Hp) (S' : aN) (s' : Shared), i ≤ vs.length → Inv (jT X sc x fy cl C s2 H2 fp) [] σ' H' s' → σ'.tail = vys.map some → tn i s'.heap → (∀ b ∈ fp, H' b = none) → H' D = none → iC s'.heap D us → bU ys us → ys.length ≤ i → bM X.K H' acc ys → cG X.K H' S' → Ext H2 H' →
   cmpL (yE dys wt) (wS dys we) (ds.drop i) S' acc Qf → codeAny (model X.prog X.w) X.A (.compLoop (.ListComp elt [⟨.Name x px, iter, ifs, 0⟩] sc pos) 0 (.ref it) (.ref D) (jT X sc x fy cl C s2 H2 fp).env) R s' := by
 intro i₀ acc₀ us₀ ys₀ σ₀ H₀ S₀ s₀ hi₀ I₀ y₀ t₀ f₀ d₀ a₀ v₀ l₀ e₀ st₀ x₀ c₀
 refine codeAny_compLoop_tests (fun n s' => ∃ (i : Nat) (acc : List Dv) (us : List Value) (ys : List V) (σ' : L2.St) (H' : Hp) (S' : aN), n = vs.length - i ∧ i ≤ vs.length ∧ Inv (jT X sc x fy cl C s2 H2 fp) [] σ' H' s' ∧ σ'.tail = vys.map some ∧ tn i s'.heap ∧ (∀ b ∈ fp, H' b = none) ∧ H' D = none ∧ iC s'.heap D us ∧ bU ys us ∧ ys.length ≤ i ∧ bM X.K H' acc ys ∧ cG X.K H' S' ∧ Ext H2 H' ∧ cmpL (yE dys wt) (wS dys we) (ds.drop i) S' acc Qf)
  ?_ (vs.length - i₀) ⟨i₀, acc₀, us₀, ys₀, σ₀, H₀, S₀, rfl, hi₀, I₀, y₀, t₀, f₀, d₀, a₀, v₀, l₀, e₀, st₀, x₀, c₀⟩
 rintro n s3 ⟨i, acc, us, ys, σ', H', S', rfl, hi, I3, y3, t3, f3, d3, ⟨k, a3⟩, v3, l3, e3, st3, x3, c3⟩
 have notc : ∀ v, ({ cls := .type "list", data := .seq us.toArray k } : Obj).data ≠ .cell v := fun v z => by
  have z' : Data.seq us.toArray k = Data.cell v := z
  cases z'
 have I3d := Inv.pin1 I3 (hfD H' d3) a3 notc
 have hl := bX hv
 by_cases hlt : i < vs.length
 · have hvi : vs[i]? = some vs[i] := by simp [hlt]
   obtain ⟨dx, hdx, ddx⟩ := mY hv hvi
   rw [iX hdx] at c3
   have ffp : ∀ b ∈ fp, jV (jT X sc x fy cl C s2 H2 fp) ([] ++ [(D, { cls := .type "list", data := .seq us.toArray k })]) H' b := fun b hb => by
    obtain ⟨g0, g1, g2, g3, g4, g5⟩ := hff H' f3 b hb
    refine ⟨g0, g1, g2, g3, g4, fun p hp z => ?_⟩
    have hp' : p ∈ ([(D, { cls := .type "list", data := .seq us.toArray k })] : List (Addr × Obj)) := hp
    cases List.mem_singleton.mp hp'
    exact hDf (by rw [show D = b from z]; exact hb)
   refine thn (T.item (jT X sc x fy cl C s2 H2 fp) rfl rfl rfl hcalm i _ s3 σ' H' _ I3d ffp t3 ⟨vs, vs[i], (x3.sqR hq).sq, hvi⟩) fun r s4 ⟨u, er, h4⟩ => ?_
   subst er
   show wpAny _ _ (letOwnedTupleGo (.Name x px) (.ref it) u >>= fun _ => assign (.Name x px) (jT X sc x fy cl C s2 H2 fp).env u) _ _ s4
   refine wpAny_bind (thn h4 fun _ s5 ⟨xv, H5, I5, r5, ⟨eH, y5⟩, t5, f5⟩ => ?_)
   subst eH
   have exv : xv = vs[i] := by
    have z := y5 vs (x3.sqR hq).sq
    rw [hvi] at z
    exact (Option.some.inj z).symm
   subst exv
   have I5p := I5.pinned (fp := fp) ffp (T.obj _ _ t5)
   refine thx (mQ (X := jT X sc x fy cl C s2 H2 fp) (i := 0) (x := x) (pos := px) hnd rfl (Or.inl hx) (Or.inr hx) _ s5 σ' H5 _ u (fun σ6 H6 => σ6 = σ'.set 0 (some vs[i]) ∧ H6 = H5) I5p r5 ⟨rfl, rfl⟩) fun _ s6 ⟨σ6, H6, I6, eσ, eH⟩ => ?_
   subst eσ eH
   obtain ⟨s0', hs0'⟩ : ∃ a, σ' = a :: vys.map some := by
    have hσ : σ'.length = (x :: fy).length := I3.len
    cases σ' with
    | nil => simp at hσ
    | cons a r => exact ⟨a, by rw [← y3]; rfl⟩
   have env6 : EnvOk X.K H6 (some dx :: dys.map some) (σ'.set 0 (some vs[i])) := by
    rw [hs0']
    refine ⟨by simp [bX hdy], fun j e q => ?_⟩
    cases j with
    | zero =>
      have q' : dx = e := Option.some.inj (Option.some.inj q)
      subst q'
      exact ⟨vs[i], rfl, dJ x3 _ _ ddx⟩
    | succ j =>
      have q' : dys[j]? = some e := by simpa using q
      obtain ⟨v, h1, h2⟩ := nF (cA x3 _ _ hdy) q'
      exact ⟨v, by simp [h1], h2⟩
   have y6 : (σ'.set 0 (some vs[i])).tail = vys.map some := by rw [hs0']; rfl
   have again : ∀ (acc' : List Dv) (us' : List Value) (ys' : List V) (σ7 : L2.St) (H7 : Hp) (S7 : aN) (s7 : Shared) (pl : List (Addr × Obj)), Inv (jT X sc x fy cl C s2 H2 fp) pl σ7 H7 s7 → σ7.tail = vys.map some → (∀ b ∈ fp, ∀ o, s5.heap.get? b = some o → s7.heap.get? b = some o) → (∀ b ∈ fp, H7 b = none) → H7 D = none → iC s7.heap D us' → bU ys' us' → ys'.length ≤ i + 1 → bM X.K H7 acc' ys' → cG X.K H7 S7 → Ext H2 H7 →
    cmpL (yE dys wt) (wS dys we) (ds.drop (i + 1)) S7 acc' Qf → ∃ m, m < vs.length - i ∧ ∃ (i : Nat) (acc : List Dv) (us : List Value) (ys : List V) (σ' : L2.St) (H' : Hp) (S' : aN), m = vs.length - i ∧ i ≤ vs.length ∧ Inv (jT X sc x fy cl C s2 H2 fp) [] σ' H' s7 ∧ σ'.tail = vys.map some ∧ tn i s7.heap ∧ (∀ b ∈ fp, H' b = none) ∧ H' D = none ∧ iC s7.heap D us ∧ bU ys us ∧ ys.length ≤ i ∧ bM X.K H' acc ys ∧ cG X.K H' S' ∧ Ext H2 H' ∧ cmpL (yE dys wt) (wS dys we) (ds.drop i) S' acc Qf :=
    fun acc' us' ys' σ7 H7 S7 s7 pl I7 y7 k7 f7 d7 a7 v7 l7 e7 st7 x7 c7 => ⟨vs.length - (i + 1), by omega, i + 1, acc', us', ys', σ7, H7, S7, rfl, hlt, I7.pins_of (fun p hp => by cases hp), y7, T.keep _ _ _ t5 fun b hb o e => k7 b hb o e, f7, d7, a7, v7, l7, e7, st7, x7, c7⟩
   have pinD : ∀ {σ7 : L2.St} {H7 : Hp} {s7 : Shared}, L2.Inv (jT X sc x fy cl C s2 H2 fp) (([] ++ [(D, { cls := .type "list", data := .seq us.toArray k })]) ++ oR fp s5.heap) σ7 H7 s7 → s7.heap.get? D = some { cls := .type "list", data := .seq us.toArray k } ∧ H7 D = none := fun {σ7 H7 s7} J =>
    let z := J.pin (D, { cls := .type "list", data := .seq us.toArray k }) (List.mem_append_right _ (List.mem_append_left _ (List.mem_append_right _ (List.mem_singleton.mpr rfl))))
    ⟨z.1, z.2.1⟩
   have pinF : ∀ {σ7 : L2.St} {H7 : Hp} {s7 : Shared}, L2.Inv (jT X sc x fy cl C s2 H2 fp) (([] ++ [(D, { cls := .type "list", data := .seq us.toArray k })]) ++ oR fp s5.heap) σ7 H7 s7 → (∀ b ∈ fp, ∀ o, s5.heap.get? b = some o → s7.heap.get? b = some o) ∧ ∀ b ∈ fp, H7 b = none := fun {σ7 H7 s7} J =>
    ⟨fun b hb o e => (J.pin (b, o) (List.mem_append_right _ (List.mem_append_right _ (gM hb e)))).1, fun b hb => by
     obtain ⟨o, e, _⟩ := T.obj _ _ t5 b hb
     exact (J.pin (b, o) (List.mem_append_right _ (List.mem_append_right _ (gM hb e)))).2.1⟩
   refine thx (ht cl C s2 H2 fp _ s6 _ H6 (fun b H7 => ∃ S7, cG X.K H7 S7 ∧ Ext H6 H7 ∧ if b = true then wS dys we [some dx] S7 fun y S8 => cmpL (yE dys wt) (wS dys we) (ds.drop (i + 1)) S8 (acc ++ [y]) Qf else cmpL (yE dys wt) (wS dys we) (ds.drop (i + 1)) S7 acc Qf) I6 ⟨some dx :: dys.map some, S', _, env6, st3, c3, fun b S7 H7 q7 x7 st7 => ⟨S7, st7, x7, q7⟩⟩) fun b s7 ⟨H7, I7, S7, st7, x7, q7⟩ => ?_
   cases b with
   | false =>
     exact again acc us ys _ H7 S7 s7 _ I7 y6 (pinF I7).1 (pinF I7).2 (pinD I7).2 ⟨k, (pinD I7).1⟩ v3 (Nat.le_succ_of_le l3) (cA x7 _ _ e3) st7 (x3.trans x7) q7
   | true =>
     refine thx (he cl C s2 H2 fp _ s7 _ H7 (fun v H8 => ∃ y S8, cG X.K H8 S8 ∧ Ext H7 H8 ∧ gN X.K H8 y v ∧ cmpL (yE dys wt) (wS dys we) (ds.drop (i + 1)) S8 (acc ++ [y]) Qf) I7 ⟨some dx :: dys.map some, S7, _, env6.ext x7, st7, q7, fun y S8 v H8 q8 x8 st8 hd8 => ⟨y, S8, st8, x8, hd8, q8⟩⟩) fun u8 s8 ⟨v8, H8, I8, r8, y, S8, st8, x8, hd8, q8⟩ => ?_
     obtain ⟨a8, d8⟩ := pinD I8
     refine call_meets F.slot_list_append ⟨_, a8, rfl⟩ F.entry_list_append (F.args_list_append_2 _ _) (PySem.list_append D us.toArray k u8 (by rw [List.size_toArray, ← v3.length]; omega)) ⟨a8, ?_⟩
     have q := PySem.IsL.update a8 (fun xs => xs.push u8)
     have eu : us.toArray.push u8 = (us ++ [u8]).toArray := by simp
     rw [eu] at q
     obtain ⟨fk, f8⟩ := pinF I8
     have fD := hfD H8 d8
     have I9 : ∀ t', L2.Inv (jT X sc x fy cl C s2 H2 fp) [] (σ'.set 0 (some vs[i])) H8 { s8 with heap := s8.heap.update D (Obj.mapSeq fun xs => xs.push u8), toks := t' } := fun t' =>
      (I8.pins_of (pins' := []) (fun p hp => by cases hp)).turned (it := D) (fun b o hb e => (Heap.get?_update_other s8.heap (Obj.mapSeq fun xs => xs.push u8) (Ne.symm hb)).trans e) d8 fD.2.1 fD.2.2.2.1 fD.2.2.2.2.1 fD.2.2.2.2.2
     refine again (acc ++ [y]) (us ++ [u8]) (ys ++ [v8]) _ H8 S8 _ [] (I9 _) y6 (fun b hb o e => (Heap.get?_update_other s8.heap (Obj.mapSeq fun xs => xs.push u8) (fun z => hDf (by rw [z]; exact hb))).trans (fk b hb o e)) f8 d8 ⟨_, q⟩ (v3.append (.cons r8 .nil)) ?_ (jF (cA (x7.trans x8) _ _ e3) (dE hd8 dR)) st8 (x3.trans (x7.trans x8)) q8
     rw [List.length_append, List.length_singleton]
     exact Nat.succ_le_succ l3
 · have ei : i = vs.length := by omega
   have ffp : ∀ b ∈ fp, jV (jT X sc x fy cl C s2 H2 fp) ([] ++ [(D, { cls := .type "list", data := .seq us.toArray k })]) H' b := fun b hb => by
    obtain ⟨g0, g1, g2, g3, g4, g5⟩ := hff H' f3 b hb
    refine ⟨g0, g1, g2, g3, g4, fun p hp z => ?_⟩
    have hp' : p ∈ ([(D, { cls := .type "list", data := .seq us.toArray k })] : List (Addr × Obj)) := hp
    cases List.mem_singleton.mp hp'
    exact hDf (by rw [show D = b from z]; exact hb)
   refine thn (T.done (jT X sc x fy cl C s2 H2 fp) rfl rfl rfl hcalm i _ s3 σ' H' _ I3d ffp t3 ⟨vs, (x3.sqR hq).sq, by omega⟩) fun r s4 ⟨er, I4⟩ => ?_
   subst er
   obtain ⟨a4, d4⟩ := Inv.pinned1 I4
   rw [List.drop_eq_nil_of_le (by omega)] at c3
   exact fin acc us ys σ' H' S' s4 (I4.pins_of (pins' := []) (fun p hp => by cases hp)) d4 ⟨k, a4⟩ v3 (by omega) e3 st3 x3 c3
theorem zD {pins : List (Addr × Obj)} {σ σ' : L2.St} {H2 H' : Hp} {s2 s' : Shared} {cl : List (Str × Addr)} {C : Addr} {fp : List Addr} {h' : Heap} {us : List Value} {ys : List V} (I2 : L2.Inv X pins σ H2 s2) (f2 : ∀ b ∈ fp, jV X pins H2 b)
 (I : L2.Inv (jT X sc x fy cl C s2 H2 fp) [] σ' H' s') (hC : s2.heap.objs.size < C) (d : H' s2.heap.objs.size = none) (hu : iC s'.heap s2.heap.objs.size us) (v : bU ys us) (hz : ys.length ≤ sizeLine) (sb : Heap.SameBut C s'.heap h') :
 ∃ o, L2.Inv X pins σ (upd H' s2.heap.objs.size (.frz o (.lst ys))) { s' with heap := h' } := by
 obtain ⟨k, hk⟩ := hu
 have hD : h'.get? s2.heap.objs.size = some { cls := .type "list", data := .seq us.toArray k } := (sb.2 _ (Nat.ne_of_lt hC)).trans hk
 have hCn : H' C = none := I.free
 have kp : ∀ b ob, b ≠ C → s'.heap.get? b = some ob → h'.get? b = some ob := fun b ob hb e => (sb.2 b hb).trans e
 have old : ∀ b ob, s2.heap.get? b = some ob → b ≠ C ∧ b ≠ s2.heap.objs.size := fun b ob e => ⟨Nat.ne_of_lt (Nat.lt_trans (Heap.lt_size e) hC), Nat.ne_of_lt (Heap.lt_size e)⟩
 have B := I.base
 refine ⟨{ cls := .type "list", data := .seq us.toArray k }, I2.call' (s' := { s' with heap := h' }) (ch := fp) I.os ⟨fun b ob e n hb hx => ?_, fun b ob e n hb hx => ?_, fun b ob e n hx => ?_, fun b ob e hx => ?_, fun b xs e => ?_, fun b ob u e => ?_, fun b ps e => ?_⟩ ?_ I.bare fun b hb => ?_⟩
 · exact kp b ob (old b ob e).1 (B.keep b ob e n hb hx)
 · obtain ⟨sl, q⟩ := B.slot b ob e n hb hx
   exact ⟨sl, kp b _ (old b ob e).1 q⟩
 · rw [bD (old b ob e).2]
   exact B.free b ob e n hx
 · obtain ⟨o', q⟩ := B.there b ob e hx
   exact ⟨o', kp b _ (old b ob e).1 q⟩
 · rw [bD (fun z => by have q := B.tups b xs e; rw [z, d] at q; cases q)]
   exact B.tups b xs e
 · rw [bD (fun z => by have q := B.frzs b ob u e; rw [z, d] at q; cases q)]
   exact B.frzs b ob u e
 · obtain ⟨more, q⟩ := B.tbls b ps e
   exact ⟨more, by rw [bD (fun z => by rw [z, d] at q; cases q)]; exact q⟩
 · intro b u q
   by_cases hb : b = s2.heap.objs.size
   · subst hb
     rw [bP] at q
     cases q
     exact ⟨hD, hz, us, k, v, hD⟩
   · rw [bD hb] at q
     refine (I.hok b u q).stay (fun c w hc e => kp c w (fun z => ?_) e) (fun c hc => ?_) fun c zs hc => ?_
     · rcases hc with hc | hc
       · rw [← hc, z, hCn] at q; cases q
       · rw [z, hCn] at hc; cases hc
     · rw [bD (fun z => by rw [z, d] at hc; cases hc)]; exact hc
     · rw [bD (fun z => by rw [z, d] at hc; cases hc)]; exact hc
 · obtain ⟨_, z1, _, z3, z4, z5⟩ := f2 b hb
   exact ⟨z3, z1, z4, z5⟩
end
noncomputable def evs? (ρ : Ev) : List Nat → Option (List Dv)
 | [] => some []
 | i :: r => match ev? ρ i, evs? ρ r with
   | some d, some ds => some (d :: ds)
   | _, _ => none
theorem zgn {ρ : Ev} : ∀ {is : List Nat} {ds : List Dv}, evs? ρ is = some ds → ds.length = is.length ∧ ∀ (j : Nat) i d, is[j]? = some i → ds[j]? = some d → ρ[i]? = some (some d)
 | [], ds, h => by cases h; exact ⟨rfl, fun j i d h => by simp at h⟩
 | i :: r, ds, h => by
   unfold evs? at h
   split at h
   · rename_i d ds' e1 e2
     cases h
     obtain ⟨l, z⟩ := zgn e2
     refine ⟨by simp [l], fun j i' d' h1 h2 => ?_⟩
     cases j with
     | zero =>
       simp at h1 h2
       subst h1 h2
       exact ev?_at e1
     | succ j => exact z j i' d' (by simpa using h1) (by simpa using h2)
   · cases h
noncomputable def zgo (is : List Nat) (src : WE) (wt : WT) (we : WE) : WE := fun ρ S Q => src ρ S fun d S1 => goL (roL d) fun xs => goL (evs? ρ is) fun dys => cmpL (yE dys wt) (wS dys we) xs S1 [] fun zs S2 => Q (.lst zs) S2
structure Frees (X : Cx) (sc : Scope) (is : List Nat) (fy : List Str) : Prop where
 len : is.length = fy.length
 at_ : ∀ (j : Nat) i y, is[j]? = some i → fy[j]? = some y → X.N[i]? = some y ∧ X.env.kindOf y = some .cell ∧ (relabel sc X.env).names.lookup y = some .cell
 clos : ∀ cs : List Addr, cs.length = fy.length → (∀ (j : Nat) y c, fy[j]? = some y → cs[j]? = some c → X.env.cells.lookup y = some c) → ∃ cl, closureFor sc X.env = pure cl ∧ (∀ z c, cl.lookup z = some c → X.env.cells.lookup z = some c) ∧ ∀ y ∈ fy, ∃ c, cl.lookup y = some c
 only : ∀ z, ((relabel sc X.env).names.lookup z = some .cell ∨ (relabel sc X.env).names.lookup z = some .free) → z ∈ fy
theorem zjd {X : Cx} : ∀ {fy : List Str}, X.Ok → (∀ y ∈ fy, X.env.kindOf y = some .cell) → ∃ cs : List Addr, cs.length = fy.length ∧ ∀ (j : Nat) y c, fy[j]? = some y → cs[j]? = some c → X.env.cells.lookup y = some c
 | [], _, _ => ⟨[], rfl, fun j y c h => by simp at h⟩
 | y :: fy, ok, h => by
   obtain ⟨c, hc⟩ := ok.has y (.inl (h y List.mem_cons_self))
   obtain ⟨cs, l, z⟩ := zjd ok fun y hy => h y (List.mem_cons_of_mem _ hy)
   refine ⟨c :: cs, by simp [l], fun j y' c' h1 h2 => ?_⟩
   cases j with
   | zero =>
     simp at h1 h2
     subst h1 h2
     exact hc
   | succ j => exact z j y' c' (by simpa using h1) (by simpa using h2)
theorem zbn {X : Cx} {ρ : Ev} {σ : L2.St} {H : Hp} (env : EnvOk X.K H ρ σ) : ∀ {is : List Nat} {dys : List Dv}, evs? ρ is = some dys → ∃ vys : List V, bM X.K H dys vys ∧ ∀ (j : Nat) i v, is[j]? = some i → vys[j]? = some v → σ[i]? = some (some v)
 | [], dys, h => by cases h; exact ⟨[], dR, fun j i v h => by simp at h⟩
 | i :: r, dys, h => by
   unfold evs? at h
   split at h
   · rename_i d ds' e1 e2
     cases h
     obtain ⟨v, h1, h2⟩ := env.at_ i d (ev?_at e1)
     obtain ⟨vs, z1, z2⟩ := zbn env e2
     refine ⟨v :: vs, dE h2 z1, fun j i' v' h3 h4 => ?_⟩
     cases j with
     | zero =>
       simp at h3 h4
       subst h3 h4
       exact h1
     | succ j => exact z2 j i' v' (by simpa using h3) (by simpa using h4)
   · cases h
theorem zgp {X : Cx} {sc : Scope} {is : List Nat} {fy : List Str} (ok : X.Ok) (fr : Frees X sc is fy) : ∃ cl, closureFor sc X.env = pure cl ∧ (∀ z c, cl.lookup z = some c → X.env.cells.lookup z = some c) ∧ ∀ y ∈ fy, ∃ c, cl.lookup y = some c := by
 obtain ⟨cs, lc, hc⟩ := zjd (fy := fy) ok fun y hy => by
  obtain ⟨j, hj⟩ := List.getElem?_of_mem hy
  have hjl := (List.getElem?_eq_some_iff.mp hj).1
  have hji : j < is.length := by rw [fr.len]; exact hjl
  exact (fr.at_ j is[j] y (List.getElem?_eq_getElem hji) hj).2.1
 exact fr.clos cs lc hc
theorem zgq {X : Cx} {pins : List (Addr × Obj)} {σ : L2.St} {H : Hp} {s : Shared} {sc : Scope} {is : List Nat} {fy : List Str} {vys : List V} {cl : List (Str × Addr)} (I : Inv X pins σ H s) (fr : Frees X sc is fy) (sub : ∀ z c, cl.lookup z = some c → X.env.cells.lookup z = some c) (has : ∀ y ∈ fy, ∃ c, cl.lookup y = some c)
 (hl : vys.length = fy.length) (hv : ∀ (j : Nat) i v, is[j]? = some i → vys[j]? = some v → σ[i]? = some (some v)) : ClOk X sc fy cl vys s.heap := by
 refine ⟨sub, fun z hz => has z (fr.only z hz), hl, fun j y v h1 h2 => ?_⟩
 have hjl := (List.getElem?_eq_some_iff.mp h1).1
 have hji : j < is.length := by rw [fr.len]; exact hjl
 obtain ⟨k1, k2, k3⟩ := fr.at_ j is[j] y (List.getElem?_eq_getElem hji) h1
 refine ⟨k3, ?_⟩
 obtain ⟨m, _, z⟩ := I.loc
 obtain ⟨u, ru, lk⟩ := z is[j] y v k1 (hv j is[j] v (List.getElem?_eq_getElem hji) h2) (.inr (.inl k2))
 rcases lk with ⟨k, _⟩ | ⟨_, c, h3, h4⟩
 · rw [k2] at k; cases k
 · obtain ⟨c', h5⟩ := has y (List.mem_of_getElem? h1)
   have e5 := sub y c' h5
   rw [h3] at e5
   cases e5
   exact ⟨u, c, ru, h5, h4⟩
section
variable {X : Cx} {elt iter : Expr} {x : Str} {is : List Nat} {fy : List Str} {px pos : Pos} {ifs : List Expr} {sc : Scope} {src : WE} {wt : WT} {we : WE}
theorem zpt {pins : List (Addr × Obj)} {σ : L2.St} {H2 : Hp} {s2 : Shared} {it a : Addr} {fp : List Addr} {tn : Nat → Heap → Prop} {vs : List V} {ds : List Dv} {vys : List V} {dys : List Dv} {cl : List (Str × Addr)} {S1 : aN} {Qf : List Dv → aN → Prop} {R : Value → Addr → Result → Shared → Prop} {E : Value → Shared → Prop}
 (ht : ∀ cl C s H fp, iT (jT X sc x fy cl C s H fp) ifs wt) (he : ∀ cl C s H fp, DE (jT X sc x fy cl C s H fp) elt we) (hcell : ∀ y ∈ sc.names, y.2 ≠ .cell) (hkind : sc.kind = .function) (hx : (relabel sc X.env).names.lookup x = some .local) (hnd : (x :: fy).Nodup) (hcalm : X.calm = true)
 (I2 : L2.Inv X pins σ H2 s2) (cok : ClOk X sc fy cl vys s2.heap) (T : Turn X.prog X.w X.K (.Name x px) (Itl X.K a) fp it tn) (t2 : tn 0 s2.heap) (f2 : ∀ b ∈ fp, jV X pins H2 b) (hq : SqR X.K H2 a vs) (hv : bM X.K H2 ds vs) (hdy : bM X.K H2 dys vys) (sto : cG X.K H2 S1)
 (hc : cmpL (yE dys wt) (wS dys we) ds S1 [] Qf)
 (fin : ∀ (acc : List Dv) (us : List Value) (zs : List V) (σ' : L2.St) (H' : Hp) (S' : aN) (s' : Shared), Inv (jT X sc x fy cl (s2.heap.objs.size + 1) s2 H2 fp) [] σ' H' s' → H' s2.heap.objs.size = none → iC s'.heap s2.heap.objs.size us → bU zs us → zs.length ≤ sizeLine → bM X.K H' acc zs → cG X.K H' S' → Ext H2 H' → Qf acc S' → R (.ref s2.heap.objs.size) (s2.heap.objs.size + 1) (.ok .next) s') :
 wpAny (model X.prog X.w) X.A (newList []) (fun acc s₃ => wpAny (model X.prog X.w) X.A (newFunctionEnv sc X.env.globals cl [] X.env.qual none .none (some X.env)) (fun cenv s₄ =>
  codeAny (model X.prog X.w) X.A (.compStart (.ListComp elt [⟨.Name x px, iter, ifs, 0⟩] sc pos) 0 (.ref it) acc { cenv with scope := relabel sc X.env }) (R acc cenv.locals) s₄) E s₃) E s2 := by
 refine wpAny_newObj_type (wpAny_newFunctionEnv hcell (by intro y hy; cases hy) (fun h₁ hns hsb => ?_) hkind)
 have hlt : ∀ b ∈ fp, b < s2.heap.objs.size := fun b hb => by
  obtain ⟨o, e, _⟩ := T.obj 0 s2.heap t2 b hb
  exact Heap.lt_size e
 have eC : (s2.heap.push { cls := .type "list", data := .seq #[] }).objs.size = s2.heap.objs.size + 1 := Heap.size_push ..
 have keep : ∀ b o, s2.heap.get? b = some o → h₁.get? b = some o := fun b o e => by
  have z : b ≠ (s2.heap.push { cls := .type "list", data := .seq #[] }).objs.size := by
   rw [eC]; exact Nat.ne_of_lt (Nat.lt_succ_of_lt (Heap.lt_size e))
  exact (hsb.2 b z).trans (Heap.get?_push_of_some _ (Heap.get?_push_of_some _ e))
 have acc0 : iC h₁ s2.heap.objs.size [] := by
  have z : s2.heap.objs.size ≠ (s2.heap.push { cls := .type "list", data := .seq #[] }).objs.size := by
   rw [eC]; exact Nat.ne_of_lt (Nat.lt_succ_self _)
  exact ⟨_, (hsb.2 _ z).trans (Heap.get?_push_of_some _ (Heap.get?_push_size _ rfl))⟩
 have hns' : h₁.Ns (s2.heap.objs.size + 1) fun x => List.lookup x ([] : List (Str × Value)).reverse := by
  have q := hns
  dsimp only at q
  rw [eC] at q
  exact q
 have I4 : ∀ t, L2.Inv (jT X sc x fy cl (s2.heap.objs.size + 1) s2 H2 fp) [] (none :: vys.map some) H2 { s2 with heap := h₁, toks := t } := fun t => ze0 I2 cok (Nat.le_succ _) keep hns' hkind f2 hlt
 have hz : vs.length ≤ sizeLine := (I2.list hq.sq).choose_spec.2.2
 have zpg : ∀ y c, cl.lookup y = some c → c < s2.heap.objs.size := fun y c e => by
  obtain ⟨v, o, e, _⟩ := I2.cell y c (cok.sub y c e)
  exact Heap.lt_size e
 have loop : ∀ t, codeAny (model X.prog X.w) X.A (.compLoop (.ListComp elt [⟨.Name x px, iter, ifs, 0⟩] sc pos) 0 (.ref it) (.ref s2.heap.objs.size) (jT X sc x fy cl (s2.heap.objs.size + 1) s2 H2 fp).env)
  (R (.ref s2.heap.objs.size) (s2.heap.objs.size + 1)) { s2 with heap := h₁, toks := t } := fun t => by
  refine zme (C := s2.heap.objs.size + 1) (D := s2.heap.objs.size) (s2 := s2) (H2 := H2) (vs := vs) (ds := ds) (dys := dys) ht he hx hdy hnd hcalm T ?_ ?_ (fun z => absurd (hlt _ z) (Nat.lt_irrefl _)) hq hv hz ?_ 0 [] [] [] (none :: vys.map some) H2 S1 _ (Nat.zero_le _) (I4 t) rfl (T.keep 0 s2.heap h₁ t2 fun b hb o e => keep b o e) (fun b hb => (f2 b hb).1) I2.fresh acc0 .nil (Nat.le_refl _) dR sto (Ext.refl _) hc
  · intro H' d
    refine ⟨d, Nat.ne_of_lt (Nat.lt_succ_self _), oX I2 (Nat.ne_of_gt I2.lt) (I2.nofs (Nat.le_refl _)), .inr (Nat.le_refl _), fun y c e => Nat.ne_of_lt (zpg y c e), fun p hp => ?_⟩
    have hp' : p ∈ ([] : List (Addr × Obj)) := hp
    cases hp'
  · intro H' hn b hb
    refine ⟨hn b hb, Nat.ne_of_lt (Nat.lt_succ_of_lt (hlt b hb)), oX I2 (f2 b hb).2.1 (f2 b hb).2.2.1, .inl hb, fun y c e => (f2 b hb).2.2.2.2.1 y c (cok.sub y c e), fun p hp => ?_⟩
    have hp' : p ∈ ([] : List (Addr × Obj)) := hp
    cases hp'
  · exact fin
 have fin := codeAny_compStart_list (loop (s2.toks + ([] : List (Str × Value)).length)) (T.self X.A 0 _ _ _ (T.keep 0 s2.heap h₁ t2 fun b hb o e => keep b o e) (loop _))
 simp only [eC]
 exact fin
theorem de_compFG (fr : Frees X sc is fy) (hi : DE X iter src) (ht : ∀ cl C s H fp, iT (jT X sc x fy cl C s H fp) ifs wt) (he : ∀ cl C s H fp, DE (jT X sc x fy cl C s H fp) elt we)
 (hcell : ∀ y ∈ sc.names, y.2 ≠ .cell) (hkind : sc.kind = .function) (hnames : ∀ y ∈ sc.names, y.2 = .local → sc.names.lookup y.1 = some .local) (hx : (relabel sc X.env).names.lookup x = some .local) (hnd : (x :: fy).Nodup) (hcalm : X.calm = true)
 (hs : ∀ x, foldedSetIterable iter X.env x = pure x) : DE X (.ListComp elt [⟨.Name x px, iter, ifs, 0⟩] sc pos) (zgo is src wt we) := by
 intro pins s σ H Q I ⟨ρ, S, Q', env, st, hw, post⟩
 have hpi := wT (tg := .Name x px) hi pins s σ H (fun J H1 => ∃ a vs ds S1, J = Itl X.K a ∧ SqR X.K H1 a vs ∧ bM X.K H1 ds vs ∧ cG X.K H1 S1 ∧ Ext H H1 ∧ goL (evs? ρ is) fun dys => cmpL (yE dys wt) (wS dys we) ds S1 [] fun fy S2 => Q' (.lst fy) S2) I
  ⟨ρ, S, _, env, st, hw, fun d S1 v H1 q e st1 hd => by
   obtain ⟨ds, hds, q⟩ := jY q
   obtain ⟨a, vs, rfl, hq, hv⟩ := yN hd hds
   exact ⟨a, rfl, ⟨vs, hq.sq⟩, a, vs, ds, S1, rfl, hq, hv, st1, e, q⟩⟩
 obtain ⟨cl, hclos, sub, has⟩ := zgp I.ok fr
 rw [eval_ListComp]
 refine wpAny_comprehension_free (g := ⟨.Name x px, iter, ifs, 0⟩) (gs := []) rfl hs hclos hkind hnames (thn hpi fun xv s1 h1 => thn h1 fun itv s2 h2 => ?_)
 obtain ⟨it, fp, tn, J, H2, rfl, I2, T, t2, f2, a, vs, ds, S1, rfl, hq, hv, sto, ex, hc⟩ := h2
 obtain ⟨dys, hdys, hc⟩ := jY hc
 obtain ⟨vys, hdy, hvy⟩ := zbn (X := X) (env.ext ex) hdys
 have cok := zgq I2 fr sub has (by rw [bX hdy, (zgn hdys).1, fr.len]) hvy
 refine zpt (R := compPost (model X.prog X.w) X.A X.xe none (EP X pins σ Q)) ht he hcell hkind hx hnd hcalm I2 cok T t2 f2 hq hv hdy sto hc fun acc us zs σ' H' S' s' I' d' a' v' z' e' st' x' q' => ?_
 obtain ⟨m, hm, _⟩ := I'.loc
 refine ⟨m, hm, fun h' sb => ?_⟩
 obtain ⟨o, I''⟩ := zD I2 f2 I' (Nat.lt_succ_self _) d' a' v' z' sb
 have sm := fP d' (.frz o (.lst zs))
 exact ⟨.ref s2.heap.objs.size, _, I'', rfl, post (.lst acc) S' (.ref s2.heap.objs.size) _ q' ((ex.trans x').trans (bF sm)) (st'.same sm) ⟨_, o, zs, rfl, bP, cA (bF sm) _ _ e'⟩⟩
end
theorem zzo {X : Cx} {sc : Scope} {i : Nat} {y : Str} (h1 : X.N[i]? = some y) (h2 : X.env.kindOf y = some .cell) (h3 : (relabel sc X.env).names.lookup y = some .cell) (h4 : ∀ c, X.env.cells.lookup y = some c → closureFor sc X.env = pure [(y, c)])
 (h5 : ∀ z ∈ sc.names, z.2 ≠ .cell) (h6 : ∀ z ∈ sc.names, z.2 = .free → z.1 = y) : Frees X sc [i] [y] := by
 refine ⟨rfl, fun j i' y' e1 e2 => ?_, fun cs l h => ?_, fun z hz => ?_⟩
 · cases j with
   | zero => simp at e1 e2; subst e1 e2; exact ⟨h1, h2, h3⟩
   | succ j => simp at e1
 · match cs, l with
   | [c], _ =>
     have hc := h 0 y c rfl rfl
     refine ⟨[(y, c)], h4 c hc, fun z d e => ?_, fun z hz => ?_⟩
     · rw [List.lookup_cons] at e
       split at e
       · rename_i hb
         have ez : z = y := by simpa using hb
         cases e
         rw [ez]; exact hc
       · simp at e
     · rw [List.mem_singleton.mp hz]
       exact ⟨c, by simp⟩
 · have hm : ∃ k, (z, k) ∈ (relabel sc X.env).names ∧ (k = .cell ∨ k = .free) := by
    rcases hz with e | e
    · exact ⟨.cell, PySem.mem_of_lookup e, .inl rfl⟩
    · exact ⟨.free, PySem.mem_of_lookup e, .inr rfl⟩
   obtain ⟨k, hm, hk⟩ := hm
   obtain ⟨⟨n, k0⟩, hn, e⟩ := List.mem_map.mp hm
   dsimp only at e
   have key : n = y ∧ n = z := by
    split at e
    · rename_i hc
      cases e
      have hf : k0 = .free := by
       have z1 := (Bool.and_eq_true_iff.mp (Bool.and_eq_true_iff.mp hc).1).1
       simpa using z1
      exact ⟨h6 _ hn hf, rfl⟩
    · cases e
      rcases hk with hk | hk
      · exact absurd hk (h5 _ hn)
      · exact ⟨h6 _ hn hk, rfl⟩
   rw [← key.2, key.1]; exact List.mem_singleton.mpr rfl
@[simp] theorem evs?_nil {ρ : Ev} : evs? ρ [] = some [] := id rfl
@[simp] theorem evs?_one {ρ : Ev} {i : Nat} : evs? ρ [i] = (ev? ρ i).map fun d => [d] := by
  unfold evs? evs?; cases ev? ρ i <;> rfl
@[simp ↓] theorem zaaf {is : List Nat} {src : WE} {wt : WT} {we : WE} {ρ : Ev} {S : aN} {Q : QE} : zgo is src wt we ρ S Q = src ρ S (fun d S1 => zdj (roL d) fun xs => zdj (evs? ρ is) fun dys => cmpL (yE dys wt) (wS dys we) xs S1 [] fun zs S2 => Q (.lst zs) S2) := id rfl
@[simp ↓] theorem zae2 {dys : List Dv} {wt : WT} {ρ : Ev} {S : aN} {Q : Bool → aN → Prop} : yE dys wt ρ S Q = wt (ρ ++ dys.map some) S Q := id rfl
@[simp ↓] theorem zae3 {dys : List Dv} {we : WE} {ρ : Ev} {S : aN} {Q : QE} : wS dys we ρ S Q = we (ρ ++ dys.map some) S Q := id rfl
noncomputable def aT (ss : List Slip) : List cV := ss.filterMap fun s => match s with
 | .put t _ _ => some t
 | .cut _ => none
noncomputable def bQ (ss : List Slip) : List cV := ss.filterMap fun s => match s with
 | .put _ _ _ => none
 | .cut t => some t
theorem bT {ss : List Slip} {t : cV} : t ∈ aT ss ↔ ∃ b x, Slip.put t b x ∈ ss := by
 unfold aT
 rw [List.mem_filterMap]
 constructor
 · rintro ⟨s, h1, h2⟩
   cases s with
   | put t' b x => cases h2; exact ⟨b, x, h1⟩
   | cut t' => cases h2
 · rintro ⟨b, x, h⟩; exact ⟨_, h, rfl⟩
theorem lC {ss : List Slip} {t : cV} : t ∈ bQ ss ↔ Slip.cut t ∈ ss := by
 unfold bQ
 rw [List.mem_filterMap]
 constructor
 · rintro ⟨s, h1, h2⟩
   cases s with
   | put t' b x => cases h2
   | cut t' => cases h2; exact h1
 · exact fun h => ⟨_, h, rfl⟩
theorem zgr (a b : Rw) : wR (bC a) (bC b) = true ↔ a = b := by
 have e : wR (bC a) (bC b) = ((a.tc == b.tc && (a.th == b.th && true)) && ((a.bc == b.bc && (a.bh == b.bh && true)) && (a.sg == b.sg && (a.out == b.out && true)))) := rfl
 rw [e]
 cases a; cases b
 simp
 constructor
 · rintro ⟨⟨h1, h2⟩, ⟨h3, h4⟩, h5, h6⟩; exact ⟨h1, h2, h3, h4, h5, h6⟩
 · rintro ⟨h1, h2, h3, h4, h5, h6⟩; exact ⟨⟨h1, h2⟩, ⟨h3, h4⟩, h5, h6⟩
theorem zs0 {rows : List Rw} (nd : rows.Nodup) {r : Rw} (h : r ∈ rows) : zi6 (rows.map bC) (bC r) = 1 := by
 unfold zi6
 rw [List.countP_map]
 induction rows with
 | nil => cases h
 | cons a l ih =>
   obtain ⟨n1, n2⟩ := List.nodup_cons.mp nd
   rw [List.countP_cons]
   show List.countP ((fun y => wR y (bC r)) ∘ bC) l + (if wR (bC a) (bC r) = true then 1 else 0) = 1
   by_cases e : a = r
   · subst e
     have z : List.countP ((fun y => wR y (bC a)) ∘ bC) l = 0 := by
      rw [List.countP_eq_zero]
      intro q hq
      show ¬ wR (bC q) (bC a) = true
      rw [zgr]
      exact fun z => n1 (by rw [← z]; exact hq)
     rw [z, if_pos ((zgr a a).mpr rfl)]
   · rcases List.mem_cons.mp h with z | z
     · exact absurd z.symm e
     · rw [ih n2 z, if_neg (fun z => e ((zgr a r).mp z))]
theorem zwm {r : Rw} (h : PyData.strOk r.sg = true) : mE (bC r) = true := by
 unfold mE bC
 simp [kE, iY, dP, mZ, SeqAt.shaped]
 refine ⟨?_, rfl⟩
 show (true && (true && (PyData.strOk r.sg && (true && true)))) = true
 rw [h]; rfl
theorem zak : ∀ ts : List cV, iY (ts.map cC) = true
 | [] => rfl
 | t :: ts => by
   show (kE (cC t) && iY (ts.map cC)) = true
   rw [zak ts]; rfl
theorem zje : ∀ ts : List cV, PyData.canLayAll0 (mZ (ts.map cC)) = true ∧ PyData.depthAll (mZ (ts.map cC)) ≤ 1
 | [] => ⟨rfl, by simp [mZ, PyData.depthAll]⟩
 | t :: ts => by
   obtain ⟨h1, h2⟩ := zje ts
   refine ⟨?_, ?_⟩
   · rw [List.map_cons, mZ, PyData.canLayAll0, h1, Bool.and_true]; rfl
   · rw [List.map_cons, mZ, PyData.depthAll]
     exact Nat.max_le.mpr ⟨Nat.le_refl 1, h2⟩
theorem zs1 (ts : List cV) : mE (.lst (ts.map cC)) = true := by
 obtain ⟨h1, h2⟩ := zje ts
 have e1 : kE (.lst (ts.map cC)) = true := zak ts
 have e2 : SeqAt.shaped (dP (.lst (ts.map cC))) = true := by
  show (PyData.canLayAll0 (mZ (ts.map cC)) && decide (PyData.depthAll (mZ (ts.map cC)) + 1 ≤ 64)) = true
  rw [h1, decide_eq_true (by omega)]; rfl
 show (kE (.lst (ts.map cC)) && SeqAt.shaped (dP (.lst (ts.map cC)))) = true
 rw [e1, e2]; rfl
theorem zn3 : ∀ (ts : List cV) (a b : Int), inP (mZ (ts.map cC)) (dP (.tup [.int a, .int b])) = decide ((a, b) ∈ ts)
 | [], a, b => by simp [inP, mZ]
 | t :: ts, a, b => by
   have ih := zn3 ts a b
   unfold inP at ih ⊢
   rw [List.map_cons, mZ, List.any_cons, ih]
   have e : PyData.eqv (dP (cC t)) (dP (.tup [.int a, .int b])) = decide (t.1 = a ∧ t.2 = b) := zf8 (a := t.1) (b := t.2) (c := a) (d := b)
   rw [e, Bool.eq_iff_iff]
   simp only [Bool.or_eq_true, decide_eq_true_eq, List.mem_cons]
   constructor
   · rintro (⟨h1, h2⟩ | h)
     · exact .inl (by rw [← h1, ← h2])
     · exact .inr h
   · rintro (h | h)
     · exact .inl (by rw [← h]; exact ⟨rfl, rfl⟩)
     · exact .inr h
theorem zs2 {S : aN} {ts : List cV} {a b : Int} : oIn S (.tup [.int a, .int b]) (.lst (ts.map cC)) = some (decide ((a, b) ∈ ts)) := by
 show (if (mE (.tup [.int a, .int b]) && mE (.lst (ts.map cC))) = true then some (inP (mZ (ts.map cC)) (dP (.tup [.int a, .int b]))) else none) = _
 rw [zs1, zn3]
 exact if_pos rfl
noncomputable def fN : Slip → Bool
 | .put _ _ _ => true
 | .cut _ => false
theorem zce {S : aN} {Q : List Dv → aN → Prop} : ∀ (slips : List Slip) (acc : List Dv), Q (acc ++ (bQ slips).map cC) S → cmpL (bN iL (aU bI (aD 0) (wC (.int 0))) (wC (.str "cut"))) (aU bI (aD 0) (wC (.int 1))) (slips.map aJ) S acc Q
 | [], acc, q => by simpa [cmpL, bQ] using q
 | .put t b x :: ss, acc, q => by
   have z := zce (S := S) (Q := Q) ss acc (by simpa [bQ] using q)
   simp [cmpL, aJ]
   exact z
 | .cut t :: ss, acc, q => by
   have z := zce (S := S) (Q := Q) ss (acc ++ [cC t]) (by simpa [bQ] using q)
   simp [cmpL, aJ]
   exact z
theorem zcf {S : aN} {Q : List Dv → aN → Prop} : ∀ (slips : List Slip) (acc : List Dv), Q (acc ++ (slips.filter fN).map aJ) S → cmpL (bN iL (aU bI (aD 0) (wC (.int 0))) (wC (.str "put"))) (aD 0) (slips.map aJ) S acc Q
 | [], acc, q => by simpa [cmpL] using q
 | .put t b x :: ss, acc, q => by
   have z := zcf (S := S) (Q := Q) ss (acc ++ [aJ (.put t b x)]) (by
    rw [show (Slip.put t b x :: ss).filter fN = Slip.put t b x :: ss.filter fN from rfl] at q
    simpa using q)
   simp [cmpL, aJ] at z ⊢
   exact z
 | .cut t :: ss, acc, q => by
   have z := zcf (S := S) (Q := Q) ss acc (by
    rw [show (Slip.cut t :: ss).filter fN = ss.filter fN from rfl] at q
    exact q)
   simp [cmpL, aJ]
   exact z
theorem zcg : ∀ slips : List Slip, (slips.filter fN).length = (aT slips).length
 | [] => rfl
 | .put t b x :: ss => by
   rw [show (Slip.put t b x :: ss).filter fN = Slip.put t b x :: ss.filter fN from rfl, show aT (Slip.put t b x :: ss) = t :: aT ss from rfl, List.length_cons, List.length_cons, zcg ss]
 | .cut t :: ss => by
   rw [show (Slip.cut t :: ss).filter fN = ss.filter fN from rfl, show aT (Slip.cut t :: ss) = aT ss from rfl, zcg ss]
theorem zwn {rows rows' : List Rw} {t b : cV} {x : Str} (f : mU t rows = none) (h : putF rows t b x = some rows') : ∃ A B, rows = A ++ B ∧ rows' = A ++ [⟨t.1, t.2, b.1, b.2, x, false⟩] ++ B := by
 unfold putF at h
 rw [f] at h
 dsimp only at h
 cases e : bix rows b with
 | none => rw [e] at h; cases h
 | some s =>
   rw [e] at h
   dsimp only at h
   split at h
   · cases h
     exact ⟨_, _, (List.take_append_drop _ _).symm, rfl⟩
   · cases h
theorem Hrd.wide {U V : Slip → Prop} {rows : List Rw} {done : List Slip} (h : Hrd U rows done) (k : ∀ s ∈ done, V s) : Hrd V rows done := ⟨h.gd, h.ok, h.len, k, h.put, h.has, h.cut⟩
theorem Hrd.tags {U : Slip → Prop} {rows : List Rw} {done : List Slip} (h : Hrd U rows done) {t : cV} : (∃ r ∈ rows, r.tag = t) ↔ t ∈ aT done := by
 constructor
 · rintro ⟨r, hr, e⟩
   exact bT.mpr ⟨_, _, by rw [← e]; exact (h.put r hr).1⟩
 · intro m
   obtain ⟨b, x, m⟩ := bT.mp m
   exact h.has t b x m
theorem u1 {n : Nat} (h : n + 128 < cLine) : n + 1 < cLine := Nat.lt_of_le_of_lt (by omega) h
noncomputable def zn4 : Dv → Option (List fJ)
 | .tup [.int a, .int b] => some [.inl a, .inl b]
 | _ => none
theorem zjf {d : Dv} {k : List fJ} (h : zn4 d = some k) : ∃ a b, d = .tup [.int a, .int b] ∧ k = [.inl a, .inl b] := by
 unfold zn4 at h
 split at h
 · rename_i a b; cases h; exact ⟨a, b, rfl, rfl⟩
 · cases h
noncomputable def uK (kvs : List (List fJ × Dv)) (k : List fJ) : Bool := kvs.any fun kv => decide (kv.1 = k)
noncomputable def vS (kvs : List (List fJ × Dv)) (k : List fJ) (d : Dv) : List (List fJ × Dv) :=
 if uK kvs k = true then kvs.map (fun kv => if kv.1 = k then (kv.1, d) else kv) else kvs ++ [(k, d)]
noncomputable def zch (S : aN) : Dv → Option (Addr × List (List fJ × Dv))
 | .ref p => match S p with
   | some (.dic kvs) => some (p, kvs)
   | _ => none
 | _ => none
theorem zci {S : aN} {d : Dv} {p : Addr} {kvs : List (List fJ × Dv)} (h : zch S d = some (p, kvs)) : d = .ref p ∧ S p = some (.dic kvs) := by
 cases d with
 | ref a =>
   have h' : (match S a with
    | some (.dic kvs) => some (a, kvs)
    | _ => none) = some (p, kvs) := h
   split at h'
   · rename_i kv e; cases h'; exact ⟨rfl, e⟩
   · cases h'
 | _ => cases h
noncomputable def zpu : F2b := fun S x y => match zn4 x, zch S y with
 | some k, some (_, kvs) => some (uK kvs k)
 | _, _ => none
noncomputable def tU : F2b := fun S x y => match zn4 x, zch S y with
 | some k, some (_, kvs) => some (!uK kvs k)
 | _, _ => none
theorem zcj {K : W.Frag} {H : Hp} {kvs : List (List fJ × Dv)} {ks : List (List fJ × V)} (h : zf0 K H kvs ks) (k : List fJ) : uK kvs k = (zib ks k).isSome := by
 rw [← wX]
 unfold zf0 at h
 unfold uK
 induction h with
 | nil => rfl
 | @cons p q ps qs h t ih => rw [List.any_cons, List.any_cons, ih, h.1]
theorem zs3 {K : W.Frag} {H : Hp} {kvs : List (List fJ × Dv)} {ks : List (List fJ × V)} (h : zf0 K H kvs ks) (k : List fJ) {d : Dv} {v : V} (hd : gN K H d v) : zf0 K H (vS kvs k d) (wW ks k v) := by
 have e := zcj h k
 rw [← wX] at e
 unfold vS wW
 rw [e]
 split
 · rename_i hh
   clear hh
   unfold zf0 at h ⊢
   clear e
   induction h with
   | nil => exact .nil
   | @cons p q ps qs h t ih =>
     rw [List.map_cons, List.map_cons]
     refine .cons ?_ ih
     rw [h.1]
     split
     · exact ⟨rfl, hd⟩
     · exact h
 · exact Paired.snoc h ⟨rfl, hd⟩
theorem zs4 {K : W.Frag} {H : Hp} {kvs : List (List fJ × Dv)} {ks : List (List fJ × V)} (h : zf0 K H kvs ks) : ks.length = kvs.length := (Paired.length h).symm
theorem zck {K : W.Frag} {H : Hp} {a b : Int} {vs : List V} (h : bM K H [.int a, .int b] vs) : vs = ([.inl a, .inl b] : List fJ).map kV := by
 obtain ⟨v, u, rfl, hv, hu⟩ := zsl h
 cases (fQ hv)
 cases (fQ hu)
 rfl
section
variable {X : Cx}
theorem zs5 {pins : List (Addr × Obj)} {σ : L2.St} {H : Hp} {s : Shared} {ks : List fJ} {b : Addr} (I : L2.Inv X pins σ H s) (h : SqT X.K H b (ks.map kV)) : (tupleKind (fY X.prog X.w)).is s.heap ks b := by
 obtain ⟨its, r, ⟨o, h1, h2, n, h3⟩, _⟩ := I.tuple h
 exact ⟨o, its.toArray, n, h1, h2, h3, by simpa using yJ r⟩
theorem zace (hu : X.A.units + 1 < cLine) : qH X (compareOp .In) (rD X.K (mS zpu)) := by
 intro pins s σ H x y v u Q I rx ry ⟨S, dx, dy, d, st, hx, hy, hf, q⟩
 unfold mS zpu at hf
 split at hf
 · rename_i k p kvs e1 e2
   obtain ⟨a, b, rfl, rfl⟩ := zjf e1
   obtain ⟨rfl, hs⟩ := zci e2
   cases hf
   cases (show y = .ref p from hy)
   cases ry
   obtain ⟨t, vs, rfl, h1, h2⟩ := qL hx
   have ev := zck h2
   subst ev
   cases rx
   obtain ⟨ks, hk, hkv⟩ := st p _ hs
   obtain ⟨z, hd, xs, rel, dd⟩ := zrd I.hok hk
   refine wpAny_in_heap (tupleKind_room_in1 hu) (zs5 I h1) hd dd ?_
   have e := (rel.val [.inl a, .inl b]).isSome_eq
   rw [Option.isSome_map] at e
   rw [← e, ← zcj hkv]
   exact ⟨.bl _, H, I.tok _, rfl, q _ H (eW.refl H) rfl⟩
 · cases hf
theorem zs6 (hu : X.A.units + 1 < cLine) : qH X (compareOp .NotIn) (rD X.K (mS tU)) := by
 intro pins s σ H x y v u Q I rx ry ⟨S, dx, dy, d, st, hx, hy, hf, q⟩
 unfold mS tU at hf
 split at hf
 · rename_i k p kvs e1 e2
   obtain ⟨a, b, rfl, rfl⟩ := zjf e1
   obtain ⟨rfl, hs⟩ := zci e2
   cases hf
   cases (show y = .ref p from hy)
   cases ry
   obtain ⟨t, vs, rfl, h1, h2⟩ := qL hx
   have ev := zck h2
   subst ev
   cases rx
   obtain ⟨ks, hk, hkv⟩ := st p _ hs
   obtain ⟨z, hd, xs, rel, dd⟩ := zrd I.hok hk
   refine wpAny_notIn_heap (tupleKind_room_in1 hu) (zs5 I h1) hd dd ?_
   have e := (rel.val [.inl a, .inl b]).isSome_eq
   rw [Option.isSome_map] at e
   rw [← e, ← zcj hkv]
   exact ⟨.bl _, H, I.tok _, rfl, q _ H (eW.refl H) rfl⟩
 · cases hf
theorem zwo {K : W.Frag} {H : Hp} {a b : Int} {v : V} (h : gN K H (.tup [.int a, .int b]) v) (nz : ¬ (a = 0 ∧ b = 0)) : ∃ t, v = .ref t ∧ H t = some (.tup (([.inl a, .inl b] : List fJ).map kV)) := by
 obtain ⟨t, vs, rfl, h1, h2⟩ := znm h
 have ev := zck h2
 subst ev
 rcases h1 with h1 | ⟨_, e⟩
 · exact ⟨t, rfl, h1⟩
 · exact absurd (by
    have e' : [V.int a, V.int b] = [V.int 0, V.int 0] := e
    cases e'
    exact ⟨rfl, rfl⟩) nz
noncomputable def zjg (S : aN) (d : Dv) (k : Addr → List (List fJ × Dv) → Prop) : Prop := match zch S d with
 | some (p, kvs) => k p kvs
 | none => False
theorem zpv {S : aN} {d : Dv} {k : Addr → List (List fJ × Dv) → Prop} (h : zjg S d k) : ∃ p kvs, d = .ref p ∧ S p = some (.dic kvs) ∧ k p kvs := by
 unfold zjg at h
 split at h
 · rename_i p kvs e
   obtain ⟨e1, e2⟩ := zci e
   exact ⟨p, kvs, e1, e2, h⟩
 · exact h.elim
noncomputable def zn5 (o i e : WE) : WS := fun D ρ S => e ρ S fun dv S1 => o ρ S1 fun dd S2 => i ρ S2 fun dk S3 => zjg S3 dd fun p kvs => ∃ a b, dk = .tup [.int a, .int b] ∧ ¬ (a = 0 ∧ b = 0) ∧ kvs.length < mT ∧ D.nx ρ (cB S3 p (.dic (vS kvs [.inl a, .inl b] dv)))
theorem zn6 {o i e : Expr} {wo wi we : WE} {pos pos' : Pos} (hu : X.A.units + 1 < cLine) (ho : DE X o wo) (hi : DE X i wi) (he : DE X e we) (hs : swapsWith e (some (.Subscript o i pos')) pos.line X.env = pure false := by rfl) :
 DS X (.Assign [.Subscript o i pos'] e pos) (zn5 wo wi we) :=
 PS.weak (zvo hu ho hi he hs) fun D σ H ⟨ρ, S, D', env, st, hw, dn⟩ => ⟨ρ, S, _, env, st, hw, fun dv S1 v H1 q1 e1 st1 hd =>
  ⟨ρ, S1, _, env.ext e1, st1, q1, fun dd S2 x H2 q2 e2 st2 hdd => ⟨ρ, S2, _, env.ext (e1.trans e2), st2, q2, fun dk S3 y H3 q3 e3 st3 hdk => by
   obtain ⟨p, kvs, rfl, hs, a, b, rfl, nz, hl, q⟩ := zpv q3
   cases (show x = .ref p from dJ e3 _ _ hdd)
   obtain ⟨ks, hk, hkv⟩ := st3 p _ hs
   obtain ⟨t, rfl, ht⟩ := zwo hdk nz
   have ex := zy0 (ys := wW ks [.inl a, .inl b] v) hk
   refine ⟨p, _, rfl, zre.t hk ht (by rw [zs4 hkv]; exact Nat.lt_of_lt_of_le hl (rT (Nat.le_refl _))), ?_⟩
   exact dn.nx ρ _ σ _ q ((e1.trans (e2.trans e3)).trans ex) ((env.ext (e1.trans (e2.trans e3))).ext ex) (st3.put ex ⟨_, bP, zie ex (zs3 hkv _ (dJ (e2.trans e3) _ _ hd))⟩)⟩⟩⟩
noncomputable def zn7 : WE := fun _ S Q => ∀ p, S p = none → Q (.ref p) (cB S p (.dic []))
theorem zn8 {pos : Pos} : DE X (.Dict [] [] pos) zn7 :=
 PE.weak zrg fun σ H Q ⟨ρ, S, Q', env, st, hw, post⟩ p hp => by
  have sm := fP hp (.dT [])
  exact post (.ref p) _ (.ref p) _ (hw p (st.free hp)) (bF sm) (st.put (bF sm) ⟨[], bP, .nil⟩) rfl
end
noncomputable def zmf (S : aN) (d : Dv) (k : Addr → List (List fJ × Dv) → Prop) (_ : Kp k := ⟨⟩) (_ : True := trivial) : Prop := zjg S d k
@[simp ↓] theorem zacf {o i e : WE} {D : Dn} {ρ : Ev} {S : aN} : zn5 o i e D ρ S = e ρ S (fun dv S1 => o ρ S1 fun dd S2 => i ρ S2 fun dk S3 => zmf S3 dd fun p kvs => ∃ a b, dk = .tup [.int a, .int b] ∧ ¬ (a = 0 ∧ b = 0) ∧ kvs.length < mT ∧ D.nx ρ (cB S3 p (.dic (vS kvs [.inl a, .inl b] dv)))) := id rfl
@[simp ↓] theorem zacg {ρ : Ev} {S : aN} {Q : QE} : zn7 ρ S Q = ∀ p, S p = none → Q (.ref p) (cB S p (.dic [])) := id rfl
noncomputable def zE (t : cV) : List fJ := [.inl t.1, .inl t.2]
theorem zs7 {a b : cV} (h : zE a = zE b) : a = b := by
 unfold zE at h
 injection h with h1 h2
 injection h2 with h2 _
 injection h1 with h1
 injection h2 with h2
 exact Prod.ext h1 h2
theorem zs8 (kvs : List (List fJ × Dv)) (k k' : List fJ) (d : Dv) : uK (vS kvs k d) k' = (uK kvs k' || decide (k = k')) := by
 unfold vS
 split
 · rename_i h
   have e : uK (kvs.map fun kv => if kv.1 = k then (kv.1, d) else kv) k' = uK kvs k' := by
    unfold uK
    rw [List.any_map]
    congr 1
    funext kv
    show decide ((if kv.1 = k then (kv.1, d) else kv).1 = k') = decide (kv.1 = k')
    split <;> rfl
   rw [e]
   by_cases hk : k = k'
   · subst hk; rw [h]; rfl
   · rw [decide_eq_false hk, Bool.or_false]
 · unfold uK
   rw [List.any_append]
   simp
theorem zjh (kvs : List (List fJ × Dv)) (k : List fJ) (d : Dv) : (vS kvs k d).length ≤ kvs.length + 1 := by
 unfold vS
 split
 · rw [List.length_map]; omega
 · rw [List.length_append, List.length_singleton]; omega
noncomputable def sD (f : Str) (d : Dv) : List (Str × Dv) → List (Str × Dv)
 | [] => [(f, d)]
 | (k, x) :: r => if k = f then (k, d) :: r else (k, x) :: sD f d r
theorem zs9 {K : W.Frag} {H : Hp} {f : Str} {d : Dv} {v : V} (hd : gN K H d v) : ∀ {fs : List (Str × Dv)} {vs : List (Str × V)}, zbu K H fs vs → zbu K H (sD f d fs) (L2.putF f v vs) := by
 intro fs vs h
 unfold zbu at h ⊢
 induction h with
 | nil => exact .cons ⟨rfl, hd⟩ .nil
 | @cons p q ps qs h t ih =>
   obtain ⟨k, x⟩ := p
   obtain ⟨k', x'⟩ := q
   obtain ⟨h1, h2⟩ := h
   have e : k = k' := h1
   subst e
   show Paired _ (if k = f then (k, d) :: ps else (k, x) :: sD f d ps) (if k = f then (k, v) :: qs else (k, x') :: L2.putF f v qs)
   split
   · exact .cons ⟨rfl, hd⟩ t
   · exact .cons ⟨rfl, h2⟩ ih
theorem zwp {K : W.Frag} {H : Hp} {f : Str} {d : Dv} : ∀ {fs : List (Str × Dv)} {vs : List (Str × V)}, zbu K H fs vs → fs.lookup f = some d → ∃ v, vs.lookup f = some v ∧ gN K H d v := by
 intro fs vs h
 unfold zbu at h
 induction h with
 | nil => intro e; cases e
 | @cons p q ps qs h t ih =>
   obtain ⟨k, x⟩ := p
   obtain ⟨k', x'⟩ := q
   obtain ⟨h1, h2⟩ := h
   have e : k = k' := h1
   subst e
   intro e
   rw [List.lookup_cons] at e ⊢
   split at e
   · rename_i hb
     cases e
     exact ⟨x', rfl, h2⟩
   · rename_i hb
     exact ih e
theorem zn9 {K : W.Frag} {H : Hp} {f : Str} : ∀ {fs : List (Str × Dv)} {vs : List (Str × V)}, zbu K H fs vs → fs.lookup f = none → vs.lookup f = none := by
 intro fs vs h
 unfold zbu at h
 induction h with
 | nil => intro _; rfl
 | @cons p q ps qs h t ih =>
   obtain ⟨k, x⟩ := p
   obtain ⟨k', x'⟩ := q
   obtain ⟨h1, h2⟩ := h
   have e : k = k' := h1
   subst e
   intro e
   rw [List.lookup_cons] at e ⊢
   split at e
   · cases e
   · exact ih e
structure HandCls (K : W.Frag) (C : Addr) : Prop where
 at_ : W.nsIn K mainGlobals "Hand" = some (some (.ref C))
 cl : Cls K C
 n1 : oS K C "number"
 n2 : oS K C "rows"
 n3 : oS K C "slips"
noncomputable def zwq (f : Str) : Bool := decide (f = "number") || decide (f = "rows") || decide (f = "slips")
theorem HandCls.no {K : W.Frag} {C : Addr} (h : HandCls K C) {f : Str} (hf : zwq f = true) : oS K C f := by
 unfold zwq at hf
 by_cases h1 : f = "number"
 · rw [h1]; exact h.n1
 · by_cases h2 : f = "rows"
   · rw [h2]; exact h.n2
   · have h3 : f = "slips" := by simpa [h1, h2] using hf
     rw [h3]; exact h.n3
noncomputable def zta (S : aN) : Dv → Option (Addr × List (Str × Dv))
 | .ref p => match S p with
   | some (.ins fs) => some (p, fs)
   | _ => none
 | _ => none
theorem ztb {S : aN} {d : Dv} {p : Addr} {fs : List (Str × Dv)} (h : zta S d = some (p, fs)) : d = .ref p ∧ S p = some (.ins fs) := by
 cases d with
 | ref a =>
   have h' : (match S a with
    | some (.ins fs) => some (a, fs)
    | _ => none) = some (p, fs) := h
   split at h'
   · rename_i kv e; cases h'; exact ⟨rfl, e⟩
   · cases h'
 | _ => cases h
noncomputable def zal (S : aN) (d : Dv) (k : Addr → List (Str × Dv) → Prop) : Prop := match zta S d with
 | some (p, fs) => k p fs
 | none => False
theorem tV {S : aN} {d : Dv} {k : Addr → List (Str × Dv) → Prop} (h : zal S d k) : ∃ p fs, d = .ref p ∧ S p = some (.ins fs) ∧ k p fs := by
 unfold zal at h
 split at h
 · rename_i p kvs e
   obtain ⟨e1, e2⟩ := ztb e
   exact ⟨p, kvs, e1, e2, h⟩
 · exact h.elim
noncomputable def pN (f : Str) (o : WE) : WE := fun ρ S Q => o ρ S fun d S1 => zal S1 d fun _ fs => go (fs.lookup f) S1 Q
noncomputable def zcl (f : Str) (o e : WE) : WS := fun D ρ S => e ρ S fun x S1 => o ρ S1 fun d S2 => zal S2 d fun p fs => fs.length < 100 ∧ D.nx ρ (cB S2 p (.ins (sD f x fs)))
section
variable {X : Cx}
theorem zgs {H : Hp} {S : aN} {p C0 : Addr} {fs : List (Str × Dv)} (hc : HandCls X.K C0) (st : cG X.K H S) (hs : S p = some (.ins fs)) : ∃ dx vs, H p = some (.ins C0 dx vs) ∧ zbu X.K H fs vs := by
 obtain ⟨C, dx, vs, h1, h2, h3⟩ := st p _ hs
 rw [hc.at_] at h1
 cases h1
 exact ⟨dx, vs, h2, h3⟩
theorem kA {f : Str} {e : Expr} {w : WE} {pos : Pos} {C0 : Addr} (hc : HandCls X.K C0) (he : DE X e w) (hf : zwq f = true := by decide) (hb : attributeBase e f X.env (eval e X.env) = eval e X.env := by rfl) : DE X (.Attribute e f pos) (pN f w) :=
 PE.weak (zys he hb) fun σ H Q ⟨ρ, S, Q', env, st, hw, post⟩ => ⟨ρ, S, _, env, st, hw, fun d S1 v H1 q1 e1 st1 hd => by
  obtain ⟨p, fs, rfl, hs, q⟩ := tV q1
  obtain ⟨x, hx, q⟩ := vH q
  cases (show v = .ref p from hd)
  obtain ⟨dx, vs, h2, h3⟩ := zgs hc st1 hs
  obtain ⟨u, hu, du⟩ := zwp h3 hx
  exact ⟨p, C0, dx, vs, u, rfl, h2, hc.cl, hc.no hf, hu, post x S1 u H1 q e1 st1 du⟩⟩
theorem zcm {f : Str} {o e : Expr} {wo we : WE} {pos pos' : Pos} {C0 : Addr} (hc : HandCls X.K C0) (ho : DE X o wo) (he : DE X e we) (hf : zwq f = true := by decide) (hs : swapsWith e (some (.Attribute o f pos')) pos.line X.env = pure false := by rfl) :
 DS X (.Assign [.Attribute o f pos'] e pos) (zcl f wo we) :=
 PS.weak (zq1 ho he hs) fun D σ H ⟨ρ, S, D', env, st, hw, dn⟩ => ⟨ρ, S, _, env, st, hw, fun x S1 u H1 q1 e1 st1 hx => ⟨ρ, S1, _, env.ext e1, st1, q1, fun d S2 v H2 q2 e2 st2 hd => by
  obtain ⟨p, fs, rfl, hs, hl, q⟩ := tV q2
  cases (show v = .ref p from hd)
  obtain ⟨dx, vs, h2, h3⟩ := zgs hc st2 hs
  have ex := zvp (ys := L2.putF f u vs) h2
  have hlen : vs.length = fs.length := (Paired.length h3).symm
  refine ⟨p, C0, dx, vs, rfl, h2, hc.cl, hc.no hf, by omega, ?_⟩
  exact dn.nx ρ _ σ _ q ((e1.trans e2).trans ex) ((env.ext (e1.trans e2)).ext ex) (st2.put ex ⟨C0, dx, _, hc.at_, bP, zs9 (dJ ex _ _ (dJ e2 _ _ hx)) (zif ex h3)⟩)⟩⟩
structure HasM (P : Program) (w : World) (K : W.Frag) (mg : Str → Option Value) (base : Heap) (k : Nat) (C : Addr) (m : Str) (ps : List Str) (sp : Ds) : Prop where
 ex : ∃ (f : Addr) (fd : FuncData), FnOk P w K mg base CX0 k f fd ps (lSp K sp) ∧ Meth K C m f ∧ iB K fd ps []
noncomputable def xI (m : Str) (sp : Ds) (o : WE) (t : WA) : WE := fun ρ S Q => o ρ S fun d S1 => zal S1 d fun _ fs => fs.lookup m = none ∧ t ρ S1 fun ds S2 => sp (d :: ds) S2 Q
theorem qQ {k : Nat} {m : Str} {ps : List Str} {sp : Ds} {o e : Expr} {es : List Expr} {wo : WE} {t : WA} {apos pos : Pos} {C0 : Addr} {pl : Sem Bool} (hc : HandCls X.K C0) (G : HasM X.prog X.w X.K X.mg X.base k C0 m ps sp) (hr : Room k X.A) (ho : DE X o wo) (ha : DA X (e :: es) t)
 (hst : starEach (e :: es) X.env = (false, eval e X.env) :: starEach es X.env := by rfl) (hpl : (backTo pos (starEach es X.env)).any (·.1) = false := by rfl)
 (ht : eval (.Call (.Attribute o m apos) (e :: es) [] pos) X.env = (do
   let ov ← eval o X.env
   standAt apos.atName
   let (f, first) ← holding [ov] (getMethod ov m pl)
   callWith pos f first (backTo pos (starEach (e :: es) X.env)) (backToKw pos (keywordEach [] X.env))) := by rfl) : DE X (.Call (.Attribute o m apos) (e :: es) [] pos) (xI m sp wo t) := by
 obtain ⟨f, fd, F, hm, hb⟩ := G.ex
 exact PE.weak (zvb ho hc.cl hm F hr hb .nil znd ha hst hpl ht) fun σ H Q ⟨ρ, S, Q', env, st, hw, post⟩ => ⟨ρ, S, _, env, st, hw, fun d S1 v H1 q1 e1 st1 hd => by
  obtain ⟨p, fs, rfl, hs, hn, q⟩ := tV q1
  cases (show v = .ref p from hd)
  obtain ⟨dx, vs, h2, h3⟩ := zgs hc st1 hs
  refine ⟨p, dx, vs, rfl, h2, zn9 h3 hn, ρ, S1, _, env.ext e1, st1, q, fun ds S2 us H2 q2 e2 st2 hds => ?_⟩
  show lSp X.K sp (.ref p :: (us ++ [])) H2 Q E0
  rw [List.append_nil]
  exact ⟨.ref p :: ds, S2, Q', dE rfl hds, st2, q2, fun d S3 v H3 q3 e3 st3 hd => post d S3 v H3 q3 (e1.trans (e2.trans e3)) st3 hd⟩⟩
noncomputable def zoa (sp : Ds) (t : WA) : WE := fun ρ S Q => t ρ S fun ds S1 => ∀ p, S1 p = none → sp (.ref p :: ds) (cB S1 p (.ins [])) fun d S2 => d = .non ∧ Q (.ref p) S2
structure HasI (P : Program) (w : World) (K : W.Frag) (mg : Str → Option Value) (base : Heap) (k : Nat) (C : Addr) (x : Str) (ps : List Str) (sp : Ds) : Prop where
 ex : ∃ (f : Addr) (fd : FuncData), FnOk P w K mg base CX0 k f fd ps (lSp K sp) ∧ Mk K C f ∧ mg x = some (.ref C) ∧ iB K fd ps []
theorem zwr {k : Nat} {x : Str} {ps : List Str} {sp : Ds} {e : Expr} {es : List Expr} {t : WA} {p pos : Pos} {C0 : Addr} (hc : HandCls X.K C0) (G : HasI X.prog X.w X.K X.mg X.base k C0 x ps sp) (hr : Room (k + 1) X.A) (ha : DA X (e :: es) t) (hg : Gl X x := by rfl)
 (hdb : (x == ("__debug__" : Str)) = false := by decide) (he : starEach (e :: es) X.env = (false, eval e X.env) :: starEach es X.env := by rfl) (hpl : (backTo pos (starEach es X.env)).any (·.1) = false := by rfl) :
 DE X (.Call (.Name x p) (e :: es) [] pos) (zoa sp t) := by
 obtain ⟨f, fd, F, M, hm, hb⟩ := G.ex
 exact PE.weak (zvc M F hr hg hm hb .nil znd ha hdb he hpl) fun σ H Q ⟨ρ, S, Q', env, st, hw, post⟩ => ⟨ρ, S, _, env, st, hw, fun ds S1 vs H1 q1 e1 st1 hds a dx ha hdx hne => by
  have sm1 := fP hdx (.own a)
  have sm2 : eW H1 (upd (upd H1 dx (.own a)) a (.ins C0 dx [])) := sm1.trans (fP (by rw [bD (Ne.symm hne)]; exact ha) _)
  show lSp X.K sp (.ref a :: (vs ++ [])) _ _ E0
  rw [List.append_nil]
  refine ⟨.ref a :: ds, _, _, dE rfl (cA (bF sm2) _ _ hds), ?_, q1 a (st1.free ha), fun d S3 v H3 q3 e3 st3 hd => ?_⟩
  · intro b ob hb
    unfold cB at hb
    by_cases z : b = a
    · rw [if_pos z] at hb; cases hb; rw [z]
      exact ⟨C0, dx, [], hc.at_, bP, .nil⟩
    · rw [if_neg z] at hb
      exact (st1.same sm2) b ob hb
  · obtain ⟨e3', q3⟩ := q3
    subst e3'
    exact ⟨hd, post (.ref a) S3 (.ref a) H3 q3 (e1.trans ((bF sm2).trans e3)) st3 rfl⟩⟩
end
section
variable {P : Program} {w : World} {K : W.Frag} {mg : Str → Option Value} {base : Heap}
theorem zcn {x qual : Str} {st : Stmt} {f : Addr} {fd : FuncData} {N ps : List Str} {k : Nat} {sp : Ds} {ws : WS} (F : Fun K x qual st f fd) (S : FnScope N ps (aK st))
 (len : ∀ ds S Q, sp ds S Q → ds.length = ps.length)
 (link : ∀ (cdv : Value) (A : Around) (outer : List Env) (s : Shared) (H : Hp) (E : XK), Room k (cxD P w K mg base N qual st f cdv A outer s H E).A → DSs (cxD P w K mg base N qual st f cdv A outer s H E) (aQ st) ws)
 (ok : ∀ ds S Q, sp ds S Q → ws { nx := fun _ S' => Q .non S', rt := Q } (cK N.length ds) S) : FnOk P w K mg base CX0 (k + 1) f fd ps (lSp K sp) := by
 refine F.ok S (fun vs H Q E h => ?_) (fun cdv A outer s H vs Q E hr h => ?_)
 · obtain ⟨ds, S', Q', h1, _, h2, _⟩ := h
   rw [bX h1]
   exact len ds S' Q' h2
 · obtain ⟨ds, S', Q', h1, h2, h3, h4⟩ := h
   refine ⟨_, link cdv A outer s H E hr, cK N.length ds, S', _, zlr h1, h2, ok ds S' Q' h3, ⟨?_, ?_, ?_, ?_⟩⟩
   · exact fun ρ S2 σ H2 q e _ st => h4 .non S2 .non H2 q e st rfl
   · exact fun d S2 v H2 q e st hd => h4 d S2 v H2 q e st hd
   · exact fun _ _ _ _ q _ _ _ => q
   · exact fun _ _ _ _ q _ _ _ => q
end
noncomputable def vT (S : aN) (d : Dv) (k : Addr → List (Str × Dv) → Prop) (_ : Kp k := ⟨⟩) (_ : True := trivial) : Prop := zal S d k
theorem cM {S : aN} {p : Addr} {fs : List (Str × Dv)} {k : Addr → List (Str × Dv) → Prop} (h : S p = some (.ins fs)) : vT S (.ref p) k = k p fs := by
 simp only [vT, zal, zta, h]
@[simp] theorem zaag {S : aN} {p : Addr} {fs : List (Str × Dv)} {k : Addr → List (Str × Dv) → Prop} : vT (cB S p (.ins fs)) (.ref p) k = k p fs := cM cF
@[simp ↓] theorem zadr {f : Str} {o : WE} {ρ : Ev} {S : aN} {Q : QE} : pN f o ρ S Q = o ρ S (fun d S1 => vT S1 d fun _ fs => goK (fs.lookup f) S1 Q) := id rfl
@[simp ↓] theorem zach {f : Str} {o e : WE} {D : Dn} {ρ : Ev} {S : aN} : zcl f o e D ρ S = e ρ S (fun x S1 => o ρ S1 fun d S2 => vT S2 d fun p fs => fs.length < 100 ∧ D.nx ρ (cB S2 p (.ins (sD f x fs)))) := id rfl
@[simp ↓] theorem zaci {m : Str} {sp : Ds} {o : WE} {t : WA} {ρ : Ev} {S : aN} {Q : QE} : xI m sp o t ρ S Q = o ρ S (fun d S1 => vT S1 d fun _ fs => fs.lookup m = none ∧ t ρ S1 fun ds S2 => sp (d :: ds) S2 Q) := id rfl
@[simp ↓] theorem zacj {sp : Ds} {t : WA} {ρ : Ev} {S : aN} {Q : QE} : zoa sp t ρ S Q = t ρ S (fun ds S1 => ∀ p, S1 p = none → sp (.ref p :: ds) (cB S1 p (.ins [])) fun d S2 => d = .non ∧ Q (.ref p) S2) := id rfl
noncomputable def gX (i : Nat) (b : WS) (D : Dn) (src : Dv) (all : List Dv) : List Dv → Ev → aN → Prop
 | [], ρ, S => D.nx ρ S
 | x :: r, ρ, S => b { D with nx := fun ρ1 S1 => jU S1 src = some all ∧ gX i b D src all r ρ1 S1, ct := fun ρ1 S1 => jU S1 src = some all ∧ gX i b D src all r ρ1 S1, bk := D.nx } (ρ.set i (some x)) S
noncomputable def zco (i : Nat) (src : WE) (b : WS) : WS := fun D ρ S => src ρ S fun d S1 => goL (jU S1 d) fun xs => gX i b D d xs xs ρ S1
theorem zpw {K : W.Frag} {i : Nat} {src : WE} {b : WS} (D : Ends) (σ : L2.St) (H : Hp) (h : lS K (zco i src b) D σ H) : zu2 (zqu K (lE K src)) (zbq i) (lS K b) D σ H := by
 obtain ⟨ρ, S, D', env, st, hw, dn⟩ := h
 refine ⟨ρ, S, _, env, st, hw, fun d S1 v H1 q e st1 hd => ?_⟩
 obtain ⟨ds, hds, q⟩ := jY q
 obtain ⟨a, vs, rfl, hq, hv⟩ := vJ st1 hd hds
 refine ⟨a, rfl, ⟨vs, hq⟩, ?_⟩
 have stay : ∀ {S2 : aN} {H2 : Hp}, cG K H2 S2 → Ext H1 H2 → jU S2 d = some ds → ∃ ws, uR K H2 a ws ∧ bM K H2 ds ws := fun {S2 H2} st2 e2 r2 => by
  obtain ⟨a', ws, e', h1, h2⟩ := vJ st2 (dJ e2 _ _ hd) r2
  cases e'
  exact ⟨ws, h1, h2⟩
 refine ⟨fun j m σ2 H2 => m = ds.length - j ∧ j ≤ ds.length ∧ LoopAt K H1 (fun ρ2 S2 => jU S2 d = some ds ∧ gX i b D' d ds (ds.drop j) ρ2 S2) σ2 H2, ⟨ds.length, by simp, Nat.zero_le _, ρ, S1, env.ext e, st1, Ext.refl _, hds, q⟩, ?_⟩
 rintro j m σ2 H2 ⟨rfl, hj, ρ2, S2, env2, st2, e2, r2, q2⟩
 obtain ⟨ws, h1, h2⟩ := stay st2 e2 r2
 by_cases hlt : j < ds.length
 · have hy : ds[j]? = some ds[j] := List.getElem?_eq_getElem hlt
   obtain ⟨x, hx, dx⟩ := nF h2 hy
   rw [iX hy] at q2
   refine .inr ⟨⟨ws, x, h1, hx⟩, fun σ3 H3 => LoopAt K H1 (fun ρ2 S2 => jU S2 d = some ds ∧ gX i b D' d ds (ds.drop (j + 1)) ρ2 S2) σ3 H3, fun σ3 H3 p3 => ⟨ds.length - (j + 1), by omega, rfl, hlt, p3⟩, fun x' H' y => ?_⟩
   obtain ⟨eH, y⟩ := y
   subst eH
   have ex : x' = x := by
    have z := y ws h1
    rw [hx] at z
    exact (Option.some.inj z).symm
   subst ex
   refine ⟨ρ2.set i (some ds[j]), S2, _, env2.set dx, st2, q2, ⟨?_, ?_, ?_, ?_⟩⟩
   · exact fun ρ3 S3 σ3 H3 q3 e3 env3 st3 => ⟨ρ3, S3, env3, st3, e2.trans e3, q3.1, q3.2⟩
   · exact fun d S3 v H3 q3 e3 st3 hd => dn.rt d S3 v H3 q3 ((e.trans e2).trans e3) st3 hd
   · exact fun ρ3 S3 σ3 H3 q3 e3 env3 st3 => dn.nx ρ3 S3 σ3 H3 q3 ((e.trans e2).trans e3) env3 st3
   · exact fun ρ3 S3 σ3 H3 q3 e3 env3 st3 => ⟨ρ3, S3, env3, st3, e2.trans e3, q3.1, q3.2⟩
 · rw [List.drop_eq_nil_of_le (by omega)] at q2
   exact .inl ⟨⟨ws, h1, by rw [bX h2]; omega⟩, dn.nx ρ2 S2 σ2 H2 q2 (e.trans e2) env2 st2⟩
theorem zbo {X : Cx} {i : Nat} {x : Str} {iter : Expr} {body : List Stmt} {src : WE} {tb : WS} {pos px : Pos} (hp : PassesOwn (model X.prog X.w) X.A X.env X.xe) (hN : X.N.Nodup) (hi : DE X iter src) (hb : DSs X body tb) (hc : X.calm = true := by rfl)
 (hix : X.N[i]? = some x := by rfl) (hx : Loc X.env.scope x := by first | exact Or.inl rfl | exact Or.inr rfl) (hf : X.fn x = true ∨ X.env.scope.names.lookup x = some .local := by first | exact .inl rfl | exact .inr rfl | assumption)
 (hs : ∀ x, foldedSetIterable iter X.env x = pure x := by intro _; rfl) : DS X (.For (.Name x px) iter body [] pos) (zco i src tb) :=
 PS.weak (zbr hp hc (wT hi) (mQ hN hix hx hf) hb hs) zpw
@[simp ↓] theorem zack {i : Nat} {src : WE} {b : WS} {D : Dn} {ρ : Ev} {S : aN} : zco i src b D ρ S = src ρ S (fun d S1 => zdj (jU S1 d) fun xs => gX i b D d xs xs ρ S1) := id rfl
section
variable {X : Cx}
theorem zzp {pins : List (Addr × Obj)} {σ : L2.St} {H : Hp} {s : Shared} {S : aN} {d : Dv} {x : V} {u : Value} {t : String} (I : L2.Inv X pins σ H s) (st : cG X.K H S) (hd : gN X.K H d x) (ru : dG x u) (ht : zlw S d = some t) :
 ∃ HH, PySem.W.KitX X.K u (.type t) HH ∧ HH s.heap ∧ u ≠ .builtin "__main__.__loader__#opaque" := by
 have kt : ∀ {HH : Heap → Prop} {t' : String} {u' : Value}, PySem.W.KitX X.K u' (.type t') HH → HH s.heap → u' ≠ .builtin "__main__.__loader__#opaque" → ∃ HH, PySem.W.KitX X.K u' (.type t') HH ∧ HH s.heap ∧ u' ≠ .builtin "__main__.__loader__#opaque" := fun a b c => ⟨_, a, b, c⟩
 cases d with
 | non => cases ht; cases (show x = .non from hd); cases ru; exact kt PySem.W.kitx_none True.intro (fun z => nomatch z)
 | bl y => cases ht; cases (show x = .bl y from hd); cases ru; exact kt PySem.W.kitx_bool True.intro (fun z => nomatch z)
 | int y => cases ht; cases (show x = .int y from hd); obtain ⟨tt, rfl⟩ := ru; exact kt PySem.W.kitx_int True.intro (fun z => nomatch z)
 | str y => cases ht; cases (show x = .str y from hd); obtain ⟨tt, rfl⟩ := ru; exact kt PySem.W.kitx_str True.intro (fun z => nomatch z)
 | tup ds =>
   cases ht
   obtain ⟨a, vs, rfl, h1, h2⟩ := qL hd
   cases ru
   obtain ⟨its, _, ⟨o, e1, e2, _⟩, _⟩ := I.tuple h1
   exact kt PySem.W.kitx_tuple ⟨o, e1, e2⟩ (fun z => nomatch z)
 | lst ds =>
   cases ht
   obtain ⟨a, o, vs, rfl, h1, h2⟩ := yP hd
   cases ru
   obtain ⟨its, _, ⟨o, k, e1, e2, _⟩, _⟩ := I.list (.inl (.inr ⟨o, h1⟩))
   exact kt PySem.W.kitx_list ⟨o, e1, e2⟩ (fun z => nomatch z)
 | scr ds =>
   cases ht
   obtain ⟨a, rfl, h1⟩ := zf5 hd
   cases ru
   obtain ⟨its, _, ⟨o, k, e1, e2, _⟩, _⟩ := I.list h1.sq
   exact kt PySem.W.kitx_list ⟨o, e1, e2⟩ (fun z => nomatch z)
 | ref a =>
   cases (show x = .ref a from hd)
   have e2 : (match S a with
    | some (.lst _) => some "list"
    | _ => none) = some t := ht
   split at e2
   · rename_i ds hs
     cases e2
     obtain ⟨vs, h1, h2⟩ := st a _ hs
     cases ru
     obtain ⟨its, _, ⟨o, k, e1, e2, _⟩, _⟩ := I.list (.inl (.inl h1))
     exact kt PySem.W.kitx_list ⟨o, e1, e2⟩ (fun z => nomatch z)
   · cases e2
noncomputable def isP (S : aN) (d : Dv) : Option Dv := (zlw S d).bind fun t => match kit t "list", kit t "tuple" with
 | some a, some b => some (.bl (a || b))
 | _, _ => none
noncomputable def zws (w : WE) : WE := fun ρ S Q => w ρ S fun d S1 => go (isP S1 d) S1 Q
inductive rIsP (K : W.Frag) (xs : List V) (H : Hp) (Q : VK) : Prop
 | mk (S : aN) (x : V) (d : Dv) (b : Bool) (tp : Addr) (ex : xs = [x, .ref tp]) (ht : H tp = some (.tup [.ty "list", .ty "tuple"])) (st : cG K H S) (hd : gN K H d x) (hi : isP S d = some (.bl b)) (q : Q (.bl b) H) : rIsP K xs H Q
theorem zob {S : aN} {d e : Dv} (h : isP S d = some e) : ∃ t a b, zlw S d = some t ∧ kit t "list" = some a ∧ kit t "tuple" = some b ∧ e = .bl (a || b) := by
 unfold isP at h
 cases h1 : zlw S d with
 | none => rw [h1] at h; cases h
 | some t =>
   rw [h1] at h
   have h' : (match kit t "list", kit t "tuple" with
    | some a, some b => some (Dv.bl (a || b))
    | _, _ => none) = some e := h
   split at h'
   · rename_i a b e1 e2; cases h'; exact ⟨t, a, b, rfl, e1, e2, rfl⟩
   · cases h'
theorem zacl : nE X (.builtin "isinstance") (rIsP X.K) := by
 intro pins s σ H xs us Q I r ⟨S, x, d, b, tp, ex, htp, st, hd, he, q⟩
 subst ex
 obtain ⟨u, c, rfl, ru, rc⟩ := r.two
 obtain rfl : c = Value.ref tp := rc
 obtain ⟨t, a1, b1, ht, hk1, hk2, eb⟩ := zob he
 cases eb
 obtain ⟨HH, Z, p, hx⟩ := zzp I st hd ru ht
 obtain ⟨its, rv, ⟨⟨cls, dd, data, sl⟩, h1, h2, n, h3⟩, _⟩ := I.tuple (.inl (.inl htp))
 obtain ⟨c1, c2, rfl, rc1, rc2⟩ := rv.two
 obtain rfl : c1 = Value.type "list" := rc1
 obtain rfl : c2 = Value.type "tuple" := rc2
 simp only at h2 h3
 subst h2 h3
 refine PySem.W.kia_tup Z I.kIn p h1 (b := a1 || b1) ?_ hx fun tk => ⟨.bl _, H, I.tok tk, rfl, q⟩
 simp only [PySem.W.kitAny, zlx hk1, zlx hk2]
 cases a1 <;> cases b1 <;> rfl
theorem zzq {e : Expr} {w : WE} {p q1 q2 pos tpos : Pos} {x1} (hm : X.mg "isinstance" = none) (hT1 : X.mg "list" = none) (hT2 : X.mg "tuple" = none) (he : DE X e w) (hg : Gl X "isinstance" := by rfl) (hg1 : Gl X "list" := by rfl) (hg2 : Gl X "tuple" := by rfl)
 (hv : bootBuiltins "isinstance" = some (.builtin "isinstance") := by decide +kernel)
 (hs : starEach (e :: [.Tuple [.Name "list" q1, .Name "tuple" q2] x1 tpos]) X.env = (false, eval e X.env) :: starEach [.Tuple [.Name "list" q1, .Name "tuple" q2] x1 tpos] X.env := by rfl) (hpl : (backTo pos (starEach [.Tuple [.Name "list" q1, .Name "tuple" q2] x1 tpos] X.env)).any (·.1) = false := by rfl) :
 DE X (.Call (.Name "isinstance" p) [e, .Tuple [.Name "list" q1, .Name "tuple" q2] x1 tpos] [] pos) (zws w) :=
 PE.weak (zbt zacl hg hm hv (qI he (qI (zq3 (qI (zfs hg1 hT1 cR (v := .ty "list") rfl (by decide) (by decide)) (qI (zfs hg2 hT2 gO (v := .ty "tuple") rfl (by decide) (by decide)) zfu))) zfu) hs) (by decide) (by decide) hs hpl) fun σ H Q ⟨ρ, S, Q', env, st, hw, post⟩ => ⟨ρ, S, _, env, st, hw, fun d S1 v H1 q1 e1 st1 hd => by
  obtain ⟨z, hz, q⟩ := vH q1
  obtain ⟨t, a1, b1, _, _, _, ez⟩ := zob hz
  subst ez
  refine ⟨by show 2 ≤ sizeLine; decide, fun tp htp => ?_⟩
  have sm := fP htp (.tup [.ty "list", .ty "tuple"])
  exact ⟨S1, v, d, _, tp, rfl, bP, st1.same sm, dJ (bF sm) _ _ hd, hz, post (.bl _) S1 _ _ q (e1.trans (bF sm)) (st1.same sm) rfl⟩⟩
end
@[simp ↓] theorem zads {w : WE} {ρ : Ev} {S : aN} {Q : QE} : zws w ρ S Q = w ρ S (fun d S1 => goK (isP S1 d) S1 Q) := id rfl
noncomputable def zpx : F2b := fun _ x y => match x, y with
 | .bl a, .bl b => some (decide (a = b))
 | .non, .bl _ => some false
 | _, _ => none
section
variable {X : Cx}
theorem zx1 : qH X (compareOp .Is) (rD X.K (mS zpx)) := by
 intro pins s σ H x y v u Q I rx ry ⟨S, dx, dy, d, st, hx, hy, hf, q⟩
 unfold mS zpx at hf
 split at hf
 · rename_i a b
   cases hf
   cases (zru hx)
   cases (zru hy)
   cases rx
   cases ry
   exact wpAny_is_plain rfl ⟨.bl _, H, I, by cases a <;> cases b <;> rfl, q _ H (eW.refl H) rfl⟩
 · rename_i b
   cases hf
   cases (show x = .non from hx)
   cases (zru hy)
   cases rx
   cases ry
   exact wpAny_is_plain rfl ⟨.bl _, H, I, by cases b <;> rfl, q _ H (eW.refl H) rfl⟩
 · cases hf
end
section
variable {X : Cx} {elt iter : Expr} {x : Str} {px pos : Pos} {ifs : List Expr} {sc : Scope} {src : WE} {wt : WT} {we : WE}
end
noncomputable def bY (n : Int) (rows : List Rw) (ss : List Slip) : List (Str × Dv) := [("number", .int n), ("rows", .lst (rows.map bC)), ("slips", .lst (ss.map aJ))]
theorem zacm : (("rows" : Str) == "number") = false := by decide +kernel
theorem zacn : (("slips" : Str) == "number") = false := by decide +kernel
theorem zaco : (("slips" : Str) == "rows") = false := by decide +kernel
section
variable {n : Int} {rows rows' : List Rw} {ss ss' : List Slip}
@[simp] theorem zaai : (bY n rows ss).lookup ("number" : Str) = some (.int n) := by unfold bY; rw [List.lookup_cons, beq_self_eq_true]
@[simp] theorem zwt : (bY n rows ss).lookup ("rows" : Str) = some (.lst (rows.map bC)) := by unfold bY; rw [List.lookup_cons, zacm, List.lookup_cons, beq_self_eq_true]
@[simp] theorem ztc : (bY n rows ss).lookup ("slips" : Str) = some (.lst (ss.map aJ)) := by unfold bY; rw [List.lookup_cons, zacn, List.lookup_cons, zaco, List.lookup_cons, beq_self_eq_true]
@[simp] theorem zae4 : (bY n rows ss).length = 3 := rfl
@[simp] theorem zadt : sD "rows" (.lst (rows'.map bC)) (bY n rows ss) = bY n rows' ss := by
  unfold bY
  have h1 : ¬ (("number" : Str) = "rows") := by decide +kernel
  show (if ("number" : Str) = "rows" then _ else _) = _
  rw [if_neg h1]
  show _ :: (if ("rows" : Str) = "rows" then _ else _) = _
  rw [if_pos rfl]
@[simp] theorem ztd : sD "slips" (.lst (ss'.map aJ)) (bY n rows ss) = bY n rows ss' := by
  unfold bY
  have h1 : ¬ (("number" : Str) = "slips") := by decide +kernel
  have h2 : ¬ (("rows" : Str) = "slips") := by decide +kernel
  show (if ("number" : Str) = "slips" then _ else _) = _
  rw [if_neg h1]
  show _ :: (if ("rows" : Str) = "slips" then _ else _) = _
  rw [if_neg h2]
  show _ :: _ :: (if ("slips" : Str) = "slips" then _ else _) = _
  rw [if_pos rfl]
theorem zwu {m : Str} (h1 : (m == "number") = false) (h2 : (m == "rows") = false) (h3 : (m == "slips") = false) : (bY n rows ss).lookup m = none := by
 unfold bY; rw [List.lookup_cons, h1, List.lookup_cons, h2, List.lookup_cons, h3]; rfl
@[simp] theorem zadu : (bY n rows ss).lookup ("hear" : Str) = none := zwu (by decide +kernel) (by decide +kernel) (by decide +kernel)
@[simp] theorem zx2 : (bY n rows ss).lookup ("hear_all" : Str) = none := zwu (by decide +kernel) (by decide +kernel) (by decide +kernel)
@[simp] theorem zacp : (bY n rows ss).lookup ("write" : Str) = none := zwu (by decide +kernel) (by decide +kernel) (by decide +kernel)
@[simp] theorem zae5 : (bY n rows ss).lookup ("rub" : Str) = none := zwu (by decide +kernel) (by decide +kernel) (by decide +kernel)
end
theorem zgt {S : aN} {a : Addr} {o : Ob} (h : S a = some o) : cB S a o = S := by
 funext b
 unfold cB
 by_cases e : b = a
 · rw [if_pos e, e, h]
 · rw [if_neg e]
theorem ze1 {S : aN} {a : Addr} {o : Ob} {L : Dv} (h : L ≠ .ref a) : jU (cB S a o) L = jU S L := by
 cases L with
 | ref b =>
   have hb : b ≠ a := fun e => h (by rw [e])
   unfold jU
   simp only [gU hb]
 | _ => rfl
theorem zcp (a b : Slip) : wR (aJ a) (aJ b) = true ↔ a = b := by
 cases a with
 | put t b' x =>
   cases b with
   | put u c y =>
     have e : wR (aJ (.put t b' x)) (aJ (.put u c y)) = ((("put" : Str) == "put") && ((t.1 == u.1 && (t.2 == u.2 && true)) && ((b'.1 == c.1 && (b'.2 == c.2 && true)) && (x == y && true)))) := rfl
     rw [e]
     obtain ⟨t1, t2⟩ := t
     obtain ⟨u1, u2⟩ := u
     obtain ⟨b1, b2⟩ := b'
     obtain ⟨c1, c2⟩ := c
     simp
   | cut u =>
     have e : wR (aJ (.put t b' x)) (aJ (.cut u)) = ((("put" : Str) == "cut") && ((t.1 == u.1 && (t.2 == u.2 && true)) && false)) := rfl
     rw [e]
     simp
 | cut t =>
   cases b with
   | put u c y =>
     have e : wR (aJ (.cut t)) (aJ (.put u c y)) = ((("cut" : Str) == "put") && ((t.1 == u.1 && (t.2 == u.2 && true)) && false)) := rfl
     rw [e]
     simp
   | cut u =>
     have e : wR (aJ (.cut t)) (aJ (.cut u)) = ((("cut" : Str) == "cut") && ((t.1 == u.1 && (t.2 == u.2 && true)) && true)) := rfl
     rw [e]
     obtain ⟨t1, t2⟩ := t
     obtain ⟨u1, u2⟩ := u
     simp
theorem zji {s : Slip} (h : okSl s) : mE (aJ s) = true := by
 cases s with
 | put t b x => exact zwl h
 | cut t =>
   unfold mE aJ
   simp [kE, iY, dP, mZ, SeqAt.shaped]
   refine ⟨?_, rfl⟩
   show (PyData.strOk ("cut" : Str) && (true && true)) = true
   rw [sA]; rfl
theorem xJ : ∀ ss : List Slip, iY (ss.map aJ) = true
 | [] => rfl
 | s :: ss => by
   show (kE (aJ s) && iY (ss.map aJ)) = true
   rw [xJ ss]; cases s <;> rfl
theorem ze2 : ∀ ss : List Slip, (∀ s ∈ ss, okSl s) → PyData.canLayAll0 (mZ (ss.map aJ)) = true ∧ PyData.depthAll (mZ (ss.map aJ)) ≤ 2
 | [], _ => ⟨rfl, by simp [mZ, PyData.depthAll]⟩
 | s :: ss, h => by
   obtain ⟨h1, h2⟩ := ze2 ss fun q hq => h q (List.mem_cons_of_mem _ hq)
   have hs := h s List.mem_cons_self
   refine ⟨?_, ?_⟩
   · rw [List.map_cons, mZ, PyData.canLayAll0, h1, Bool.and_true]
     cases s with
     | put t b x =>
       show (PyData.strOk ("put" : Str) && (true && (true && (PyData.strOk x && true)))) = true
       rw [show PyData.strOk x = true from hs, oZ]; rfl
     | cut t =>
       show (PyData.strOk ("cut" : Str) && (true && true)) = true
       rw [sA]; rfl
   · rw [List.map_cons, mZ, PyData.depthAll]
     refine Nat.max_le.mpr ⟨?_, h2⟩
     cases s with
     | put t b x => exact Nat.le_refl 2
     | cut t => exact Nat.le_refl 2
theorem zF {ss : List Slip} (h : ∀ s ∈ ss, okSl s) : mE (.lst (ss.map aJ)) = true := by
 obtain ⟨h1, h2⟩ := ze2 ss h
 have e1 : kE (.lst (ss.map aJ)) = true := xJ ss
 have e2 : SeqAt.shaped (dP (.lst (ss.map aJ))) = true := by
  show (PyData.canLayAll0 (mZ (ss.map aJ)) && decide (PyData.depthAll (mZ (ss.map aJ)) + 1 ≤ 64)) = true
  rw [h1, decide_eq_true (by omega)]; rfl
 show (kE (.lst (ss.map aJ)) && SeqAt.shaped (dP (.lst (ss.map aJ)))) = true
 rw [e1, e2]; rfl
noncomputable instance : DecidableEq Slip := fun a b => if h : wR (aJ a) (aJ b) = true then isTrue ((zcp a b).mp h) else isFalse fun e => h ((zcp a b).mpr e)
theorem zcq : ∀ (ss : List Slip) (s : Slip), inP (mZ (ss.map aJ)) (dP (aJ s)) = decide (s ∈ ss)
 | [], s => by simp [inP, mZ]
 | t :: ss, s => by
   have ih := zcq ss s
   unfold inP at ih ⊢
   rw [List.map_cons, mZ, List.any_cons, ih]
   have e : (PyData.eqv (dP (aJ t)) (dP (aJ s)) = true) ↔ t = s := zcp t s
   rw [Bool.eq_iff_iff]
   simp only [Bool.or_eq_true, decide_eq_true_eq, List.mem_cons]
   rw [e]
   constructor
   · rintro (h | h)
     · exact .inl h.symm
     · exact .inr h
   · rintro (h | h)
     · exact .inl h.symm
     · exact .inr h
theorem zG {S : aN} {ss : List Slip} {s : Slip} (h1 : okSl s) (h2 : ∀ s ∈ ss, okSl s) : oIn S (aJ s) (.lst (ss.map aJ)) = some (decide (s ∈ ss)) := by
 show (if (mE (aJ s) && mE (.lst (ss.map aJ))) = true then some (inP (mZ (ss.map aJ)) (dP (aJ s))) else none) = _
 rw [zF h2, zji h1, zcq]
 exact if_pos rfl
theorem zgu {S : aN} {ss : List Slip} {s : Slip} (h1 : okSl s) (h2 : ∀ s ∈ ss, okSl s) : yQ S (aJ s) (.lst (ss.map aJ)) = some (!decide (s ∈ ss)) := by
 show (if (mE (aJ s) && mE (.lst (ss.map aJ))) = true then some (!inP (mZ (ss.map aJ)) (dP (aJ s))) else none) = _
 rw [zF h2, zji h1, zcq]
 exact if_pos rfl
theorem zcr {S : aN} {ss : List Slip} {s : Slip} {p : Addr} (hp : S p = some (.lst (ss.map aJ))) (h1 : okSl s) (h2 : ∀ s ∈ ss, okSl s) : yQ S (aJ s) (.ref p) = some (!decide (s ∈ ss)) := by
 have e : vK S (.ref p) = .lst (ss.map aJ) := by simp only [vK, hp]
 unfold yQ
 rw [e]
 exact zgu (S := S) h1 h2
structure Okh (rows : List Rw) (ss : List Slip) : Prop where
 len : rows.length ≤ 5000
 len2 : ss.length ≤ 5000
 ok : okS rows
 oks : ∀ s ∈ ss, okSl s
noncomputable def gY : Ds := fun ds S Q => ∃ (a : Addr) (n : Int), ds = [.ref a, .int n] ∧ S a = some (.ins []) ∧ Q .non (cB S a (.ins (bY n [] [])))
theorem zgv : ∀ ds S Q, gY ds S Q → ds.length = 2 := by rintro _ S Q ⟨_, _, rfl, _⟩; rfl
noncomputable def gB : Ds := fun ds S Q => ∃ (a : Addr) (n : Int) (rows : List Rw) (ss : List Slip) (s : Slip), ds = [.ref a, aJ s] ∧ S a = some (.ins (bY n rows ss)) ∧ Okh rows ss ∧ okSl s ∧ (s ∈ ss → Q (.bl false) S) ∧
 (s ∉ ss → ∃ rows', zpk rows s = some rows' ∧ Q (.bl true) (cB S a (.ins (bY n rows' (ss ++ [s])))))
theorem zgw : ∀ ds S Q, gB ds S Q → ds.length = 2 := by rintro _ S Q ⟨_, _, _, _, _, rfl, _⟩; rfl
inductive HA : List Rw → List Slip → List Slip → List Rw → List Slip → Nat → Prop
 | nil {rows : List Rw} {ss : List Slip} : HA rows ss [] rows ss 0
 | old {rows rows' : List Rw} {ss ss' r : List Slip} {s : Slip} {k : Nat} : Okh rows ss → okSl s → s ∈ ss → HA rows ss r rows' ss' k → HA rows ss (s :: r) rows' ss' k
 | new {rows r1 rows' : List Rw} {ss ss' r : List Slip} {s : Slip} {k : Nat} : Okh rows ss → okSl s → s ∉ ss → zpk rows s = some r1 → HA r1 (ss ++ [s]) r rows' ss' k → HA rows ss (s :: r) rows' ss' (k + 1)
noncomputable def cP : Ds := fun ds S Q => ∃ (a : Addr) (L : Dv) (n : Int) (rows : List Rw) (ss r : List Slip) (rows' : List Rw) (ss' : List Slip) (k : Nat), ds = [.ref a, L] ∧ S a = some (.ins (bY n rows ss)) ∧ jU S L = some (r.map aJ) ∧ L ≠ .ref a ∧ HA rows ss r rows' ss' k ∧
 Q (.int k) (cB S a (.ins (bY n rows' ss')))
theorem zH : ∀ ds S Q, cP ds S Q → ds.length = 2 := by rintro _ S Q ⟨_, _, _, _, _, _, _, _, _, rfl, _⟩; rfl
noncomputable def mV (rows : List Rw) (p m : Nat) : List cV := (((there rows).map Rw.tag).drop p).take m
noncomputable def eQ (ts : List cV) : List Slip := ts.map .cut
noncomputable def iP : Ds := fun ds S Q => ∃ (a : Addr) (n : Int) (rows : List Rw) (ss : List Slip) (p : Nat) (z : Str) (rows' : List Rw) (ss' : List Slip) (k : Nat), ds = [.ref a, .int p, .str z] ∧ S a = some (.ins (bY n rows ss)) ∧ rows.length ≤ 1000 ∧ z.length ≤ 1000 ∧
 HA rows ss (cX (most rows + 1) n (jG rows p) (chs z)) rows' ss' k ∧ Q (.lst ((cX (most rows + 1) n (jG rows p) (chs z)).map aJ)) (cB S a (.ins (bY n rows' ss')))
theorem zdu : ∀ ds S Q, iP ds S Q → ds.length = 3 := by rintro _ S Q ⟨_, _, _, _, _, _, _, _, _, rfl, _⟩; rfl
noncomputable def sE : WS :=
 (aS (zcl "number" (aD 0) (aD 1))
 (aS (zcl "rows" (aD 0) (zf3 aO))
 (zcl "slips" (aD 0) (zf3 aO))))
def zdv {D ρ S} := bL sE.eq_1 D ρ S
noncomputable def sF : WS :=
 (aS (eO (bN oIn (aD 1) (pN "slips" (aD 0)))
 (bA (wC (.bl false)))
 aY)
 (aS (zcl "rows" (aD 0) (bE rY (aE (pN "rows" (aD 0)) (aE (aD 1) aO))))
 (aS (zcl "slips" (aD 0) (aU fO (pN "slips" (aD 0)) (zf3 (aE (aD 1) aO))))
 (bA (wC (.bl true))))))
def uX {D ρ S} := bL sF.eq_1 D ρ S
noncomputable def bR : WS :=
 (eO (bZ (xI "hear" gB (aD 0) (aE (aD 3) aO)))
 (cI 2 (aU fO (aD 2) (wC (.int 1))))
 aY)
def lD {D ρ S} := bL bR.eq_1 D ρ S
noncomputable def mG : WS :=
 (aS (cI 2 (wC (.int 0)))
 (aS (zco 3 (aD 1)
 bR)
 (bA (aD 2))))
def xK {D ρ S} := bL mG.eq_1 D ρ S
noncomputable def qR : WS :=
 (aS (cI 3 (bE nK (aE (pN "rows" (aD 0)) (aE (pN "number" (aD 0)) (aE (aD 1) (aE (aD 2) aO))))))
 (aS (mL (xI "hear_all" cP (aD 0) (aE (aD 3) aO)))
 (bA (aD 3))))
def zcs {D ρ S} := bL qR.eq_1 D ρ S
theorem zgx : ∀ ds S Q, gY ds S Q → sE { nx := fun _ S' => Q .non S', rt := Q } (cK 2 ds) S := by
 rintro _ S Q ⟨a, n, rfl, hS, q⟩
 have e1 : sD "number" (.int n) [] = [(("number" : Str), Dv.int n)] := rfl
 have e2 : sD "rows" (.lst []) [(("number" : Str), Dv.int n)] = [(("number" : Str), Dv.int n), (("rows" : Str), Dv.lst [])] := by
  show (if ("number" : Str) = "rows" then _ else _) = _
  rw [if_neg (by decide +kernel)]; rfl
 have e3 : sD "slips" (.lst []) [(("number" : Str), Dv.int n), (("rows" : Str), Dv.lst [])] = bY n [] [] := by
  show (if ("number" : Str) = "slips" then _ else _) = _
  rw [if_neg (by decide +kernel)]
  show _ :: (if ("rows" : Str) = "slips" then _ else _) = _
  rw [if_neg (by decide +kernel)]; rfl
 simp [zdv, cK, cM hS, e1, e2, e3, dF]
 exact q
theorem zgy : ∀ ds S Q, gB ds S Q → sF { nx := fun _ S' => Q .non S', rt := Q } (cK 2 ds) S := by
 rintro _ S Q ⟨a, n, rows, ss, s, rfl, hS, oh, oks, q1, q2⟩
 have ein : ∀ S : aN, oIn S (aJ s) (.lst (ss.map aJ)) = some (decide (s ∈ ss)) := fun S => zG oks oh.oks
 by_cases hm : s ∈ ss
 · simp [uX, cK, cM hS, ein, hm]
   exact q1 hm
 · obtain ⟨rows', hr, q⟩ := q2 hm
   simp [uX, cK, cM hS, ein, hm]
   refine ⟨rows, s, rows', rfl, by have := oh.len; omega, oh.ok, oks, hr, ?_⟩
   have hl := oh.len2
   have ead : ∀ S : aN, fO S (.lst (ss.map aJ)) (.lst [aJ s]) = some (.lst (ss.map aJ ++ [aJ s])) := fun S => by
    refine pK ?_
    rw [List.length_map]
    show _ + 1 ≤ mT
    unfold mT; omega
   have ef : sD "slips" (.lst (ss.map aJ ++ [aJ s])) (bY n rows' ss) = bY n rows' (ss ++ [s]) := by
    have z := ztd (n := n) (rows := rows') (ss := ss) (ss' := ss ++ [s])
    rw [List.map_append] at z
    exact z
   simp [cM hS, ead, ef, dF]
   exact q
theorem zpy {D : Dn} {S : aN} {a : Addr} {n : Int} {L : Dv} {all : List Dv} (hL : L ≠ .ref a) (hrd : jU S L = some all) {rows rows' : List Rw} {ss ss' r : List Slip} {k : Nat} (h : HA rows ss r rows' ss' k) : ∀ (c : Nat) (x1 x3 : Option Dv), (∀ y3, D.nx [some (.ref a), x1, some (.int ((c + k : Nat) : Int)), y3] (cB S a (.ins (bY n rows' ss')))) →
 gX 3 bR D L all (r.map aJ) [some (.ref a), x1, some (.int (c : Int)), x3] (cB S a (.ins (bY n rows ss))) := by
 induction h with
 | nil => intro c x1 x3 fin; exact fin x3
 | @old rows rows' ss ss' r s k oh oks hm t ih =>
   intro c x1 x3 fin
   have step := ih c x1 (some (aJ s)) fin
   show bR { D with nx := fun ρ1 S1 => jU S1 L = some all ∧ gX 3 bR D L all (r.map aJ) ρ1 S1, ct := fun ρ1 S1 => jU S1 L = some all ∧ gX 3 bR D L all (r.map aJ) ρ1 S1, bk := D.nx } [some (.ref a), x1, some (.int (c : Int)), some (aJ s)] (cB S a (.ins (bY n rows ss)))
   generalize gX 3 bR D L all (r.map aJ) = N at step ⊢
   simp [lD]
   refine ⟨a, n, rows, ss, s, rfl, cF, oh, oks, fun _ => ?_, fun z => absurd hm z⟩
   simp [ze1 hL, hrd]
   exact step
 | @new rows r1 rows' ss ss' r s k oh oks hm hr t ih =>
   intro c x1 x3 fin
   have step := ih (c + 1) x1 (some (aJ s)) (fun y3 => by rw [show c + 1 + k = c + (k + 1) by omega]; exact fin y3)
   have ec : ((c + 1 : Nat) : Int) = (c : Int) + 1 := by omega
   rw [ec] at step
   show bR { D with nx := fun ρ1 S1 => jU S1 L = some all ∧ gX 3 bR D L all (r.map aJ) ρ1 S1, ct := fun ρ1 S1 => jU S1 L = some all ∧ gX 3 bR D L all (r.map aJ) ρ1 S1, bk := D.nx } [some (.ref a), x1, some (.int (c : Int)), some (aJ s)] (cB S a (.ins (bY n rows ss)))
   generalize gX 3 bR D L all (r.map aJ) = N at step ⊢
   simp [lD]
   refine ⟨a, n, rows, ss, s, rfl, cF, oh, oks, fun z => absurd z hm, fun _ => ⟨r1, hr, ?_⟩⟩
   simp [dF, ze1 hL, hrd]
   exact step
theorem zI : ∀ ds S Q, cP ds S Q → mG { nx := fun _ S' => Q .non S', rt := Q } (cK 4 ds) S := by
 rintro _ S Q ⟨a, L, n, rows, ss, r, rows', ss', k, rfl, hS, hrd, hL, h, q⟩
 simp [xK, cK, hrd]
 have z := zpy (D := { nx := fun ρ S' => bA (aD 2) { nx := fun _ S' => Q .non S', rt := Q } ρ S', rt := Q }) (S := S) (n := n) hL hrd h 0 (some L) none (fun y3 => by simp; exact q)
 rw [zgt hS] at z
 exact z
theorem zjj {α : Type} {f : α → Dv} {l : List α} {p m : Nat} : rQ (l.map f) (some (p : Int)) (some ((p : Int) + (m : Int))) = ((l.drop p).take m).map f := by
 unfold rQ
 rw [show (p : Int) + (m : Int) = ((p + m : Nat) : Int) by omega, HT.sIx_nat, HT.sIx_nat, List.length_map, ← List.map_drop, ← List.map_take]
 congr 1
 rcases Nat.le_total p l.length with h | h
 · rw [Nat.min_eq_left h]
   rcases Nat.le_total (p + m) l.length with h2 | h2
   · rw [Nat.min_eq_left h2, show p + m - p = m by omega]
   · rw [Nat.min_eq_right h2, List.take_of_length_le (by rw [List.length_drop]; omega), List.take_of_length_le (by rw [List.length_drop]; omega)]
 · rw [Nat.min_eq_right h, List.drop_eq_nil_of_le (Nat.le_refl _), List.drop_eq_nil_of_le h]; simp
theorem zct {S : aN} {Q : List Dv → aN → Prop} : ∀ (ts : List cV) (acc : List Dv), Q (acc ++ (eQ ts).map aJ) S → cmpL rW (oV (aE (wC (.str "cut")) (aE (aD 0) aO))) (ts.map cC) S acc Q
 | [], acc, q => by simpa [cmpL, eQ] using q
 | t :: ts, acc, q => by
   have z := zct (S := S) (Q := Q) ts (acc ++ [aJ (.cut t)]) (by
    have e : eQ (t :: ts) = .cut t :: eQ ts := rfl
    rw [e] at q
    simpa using q)
   simp [cmpL]
   exact z
theorem zdw : ∀ ds S Q, iP ds S Q → qR { nx := fun _ S' => Q .non S', rt := Q } (cK 4 ds) S := by
 rintro _ S Q ⟨a, n, rows, ss, p, z, rows', ss', k, rfl, hS, hl, hz, h, q⟩
 simp [zcs, cK, cM hS]
 refine ⟨rows, n, p, z, rfl, hl, hz, ?_⟩
 simp [cM hS]
 refine ⟨a, _, n, rows, ss, cX (most rows + 1) n (jG rows p) (chs z), rows', ss', k, rfl, hS, xF, (fun e => by cases e), h, ?_⟩
 simp
 exact q
noncomputable def dd : List Slip → List Slip → List Slip
 | ss, [] => ss
 | ss, s :: r => if s ∈ ss then dd ss r else dd (ss ++ [s]) r
theorem zcu : ∀ (r ss : List Slip) (x : Slip), x ∈ dd ss r ↔ x ∈ ss ∨ x ∈ r
 | [], ss, x => by simp [dd]
 | s :: r, ss, x => by
   unfold dd
   split
   · rename_i h
     rw [zcu r ss x, List.mem_cons]
     constructor
     · rintro (z | z)
       · exact .inl z
       · exact .inr (.inr z)
     · rintro (z | z | z)
       · exact .inl z
       · rw [z]; exact .inl h
       · exact .inr z
   · rw [zcu r _ x, List.mem_append, List.mem_singleton, List.mem_cons, or_assoc]
theorem zte : ∀ (r ss : List Slip), (∀ s ∈ r, s ∉ ss) → r.Nodup → dd ss r = ss ++ r
 | [], ss, _, _ => by simp [dd]
 | s :: r, ss, h, nd => by
   obtain ⟨n1, n2⟩ := List.nodup_cons.mp nd
   unfold dd
   rw [if_neg (h s List.mem_cons_self), zte r (ss ++ [s]) (fun q hq hm => by
    rcases List.mem_append.mp hm with z | z
    · exact h q (List.mem_cons_of_mem _ hq) z
    · rw [List.mem_singleton.mp z] at hq; exact n1 hq) n2]
   simp
theorem Fit.okSl {U : Slip → Prop} (F : Fit U) {s : Slip} (h : U s) : okSl s := by
 cases s with
 | put t b x => exact (F.put t b x h).2.2
 | cut t => trivial
theorem HA.of {U : Slip → Prop} (F : Fit U) : ∀ (r : List Slip) (rows : List Rw) (ss d : List Slip), Hrd U rows ss → (∀ x ∈ d, x ∈ ss) → (∀ s ∈ r, U s) → Cz d r → ss.length + r.length ≤ 5000 → ∃ rows' k, HA rows ss r rows' (dd ss r) k ∧ Hrd U rows' (dd ss r)
 | [], rows, ss, d, h, _, _, _, _ => ⟨rows, 0, .nil, h⟩
 | s :: r, rows, ss, d, h, hd, hu, cz, hl => by
   rw [List.length_cons] at hl
   have us := hu s List.mem_cons_self
   have oh : Okh rows ss := ⟨by have := h.len; omega, by omega, h.ok, fun x hx => F.okSl (h.all x hx)⟩
   obtain ⟨c1, c2⟩ := cz
   by_cases hm : s ∈ ss
   · obtain ⟨rows', k, a1, a2⟩ := HA.of F r rows ss (d ++ [s]) h (fun x hx => by
      rcases List.mem_append.mp hx with z | z
      · exact hd x z
      · rw [List.mem_singleton.mp z]; exact hm) (fun q hq => hu q (List.mem_cons_of_mem _ hq)) c2 (by omega)
     have e : dd ss (s :: r) = dd ss r := if_pos hm
     rw [e]
     exact ⟨rows', k, .old oh (F.okSl us) hm a1, a2⟩
   · obtain ⟨r1, e1, h1⟩ := h.step F us (zA hd c1)
     obtain ⟨rows', k, a1, a2⟩ := HA.of F r r1 (ss ++ [s]) (d ++ [s]) h1 (fun x hx => by
      rcases List.mem_append.mp hx with z | z
      · exact List.mem_append_left _ (hd x z)
      · exact List.mem_append_right _ z) (fun q hq => hu q (List.mem_cons_of_mem _ hq)) c2 (by rw [List.length_append, List.length_singleton]; omega)
     have e : dd ss (s :: r) = dd (ss ++ [s]) r := if_neg hm
     rw [e]
     exact ⟨rows', k + 1, .new oh (F.okSl us) hm e1 a1, a2⟩
structure Fly (X : Cx) (pins : List (Addr × Obj)) (B : Heap) (H : Hp) (e C t : Addr) (h : Heap) : Prop where
 fl : Heap.FlyingW B X.stack e (.ref C) (.ref t) h
 tr : ∀ b u o, H b = some u → h.get? b = some o → B.get? b = some o
 old : ∀ b o0 o, X.s₀.heap.get? b = some o0 → b ∉ X.ex → b ∉ frs X.stack → h.get? b = some o → B.get? b = some o
 pn : ∀ p ∈ X.pn ++ pins, B.get? p.1 = some p.2
noncomputable def CXV (P : Program) (w : World) : CXT := fun outer H s E e s' => ∃ (a C t : Addr) (B : Heap) (H' : Hp), e = .ref a ∧ E (.ref C) none H' ∧ s'.os = s.os ∧ AllBare s'.gens ∧ Un (frs outer) [] H H' s.heap s'.heap ∧ uQ P w H' s'.heap ∧
 Heap.FlyingW B outer a (.ref C) (.ref t) s'.heap ∧ (∀ b u o, H' b = some u → s'.heap.get? b = some o → B.get? b = some o) ∧ ∀ b o0 o, s.heap.get? b = some o0 → b ∉ frs outer → s'.heap.get? b = some o → B.get? b = some o
structure Wants (m : Bool) (X : Cx) (W : Value → L2.St → Hp → Prop) : Prop where
 fly : ∀ (pins : List (Addr × Obj)) (σ : L2.St) (H : Hp) (s : Shared) (e C t : Addr) (B : Heap), Inv X pins σ H s → Fly X pins B H e C t s.heap → W (.ref C) σ H → X.xe (.ref e) s
 made : m = true → ∀ (pins : List (Addr × Obj)) (σ : L2.St) (H : Hp) (s : Shared) (h' : Heap) (e C : Addr) (vs : List Value), Inv X pins σ H s → Heap.MadeExcOf s.heap h' e (.ref C) vs → W (.ref C) σ H → X.xe (.ref e) { s with heap := h' }
theorem sG {P : Program} {w : World} {H : Hp} {h : Heap} {a : Addr} {o : HO} (x : gI P w H h a o) (q : h.get? a = none) : False := by
 cases o with
 | lst xs => obtain ⟨_, _, _, _, e⟩ := x; rw [q] at e; cases e
 | tup xs => obtain ⟨_, _, _, ob, e, _⟩ := x; rw [q] at e; cases e
 | dK kvs => obtain ⟨_, _, _, _, o, _, _, e, _⟩ := x; rw [q] at e; cases e
 | dT kvs => obtain ⟨_, _, _, _, o, _, _, e, _⟩ := x; rw [q] at e; cases e
 | set S n => obtain ⟨o, _, _, _, e, _⟩ := x; rw [q] at e; cases e
 | ins C dx fs => obtain ⟨_, _, _, e, _⟩ := x; rw [q] at e; cases e
 | own y => obtain ⟨_, e⟩ := x; rw [q] at e; cases e
 | xd fs => obtain ⟨_, ⟨_, _, _, e, _⟩, _⟩ := x; rw [q] at e; cases e
 | rng lo hi => obtain ⟨_, _, _, e⟩ := x; rw [q] at e; cases e
 | frz ob u => obtain ⟨e, _⟩ := x; rw [q] at e; cases e
 | tbl ps => have e : h.get? a = some _ := x; rw [q] at e; cases e
 | met f y => have e : h.get? a = some _ := x; rw [q] at e; cases e
 | ext φ => obtain ⟨_, ⟨_, e⟩, _⟩ := x; rw [q] at e; cases e
theorem zacq {m : Bool} {X : Cx} {W : Value → L2.St → Hp → Prop} (hw : Wants m X W) {pins : List (Addr × Obj)} {σ : L2.St} {H : Hp} {s s' : Shared} {e : Value} (I : Inv X pins σ H s)
 (h : CXV X.prog X.w X.stack H s (fun c _ H => W c σ H) e s') : X.xe e s' := by
 obtain ⟨a, C, t, B, H', ee, hE, os, bare, un, hok, fl, tr, old⟩ := h
 subst ee
 obtain ⟨hh, g, d, tk, os'⟩ := s'
 obtain rfl : os' = s.os := os
 have I' : Inv X pins σ H' { s with heap := hh, gens := g, drawn := d, toks := tk } := I.call (h' := hh) (g' := g) (d' := d) (t' := tk) (ch := []) un hok bare (fun b z => absurd z (by simp))
 refine hw.fly pins σ H' _ a C t B I' ⟨fl, tr, fun b o0 o h0 hx hb ho => ?_, fun p hp => ?_⟩ hE
 · obtain ⟨o1, h1⟩ := I.base.there b o0 h0 hx
   exact old b o1 o h1 hb ho
 · obtain ⟨h1, _, h3, h4, _⟩ := I.pin p hp
   refine old p.1 p.2 p.2 h1 (fun z => ?_) (I'.pin p hp).1
   rcases List.mem_cons.mp (I.stkSub p.1 z) with z | z
   · exact h3 z
   · exact h4 z
section
variable {P : Program} {w : World} {K : W.Frag} {mg : Str → Option Value} {base : Heap} {N : List Str} {qual : Str} {scope : Scope} {f : Addr} {cd : Value} {A : Around} {outer : List Env} {s : Shared} {H : Hp} {E : XK}
theorem zoc {pins : List (Addr × Obj)} {σ : L2.St} {H' : Hp} {s1 : Shared} {h' B : Heap} {e C t : Addr} (I : Inv (cxOf (CXV P w) P w K mg base N qual scope f cd A outer s H E) pins σ H' s1)
 (hB : ∀ b o0 o, s.heap.get? b = some o0 → b ∉ frs (cxOf (CXV P w) P w K mg base N qual scope f cd A outer s H E).stack → s1.heap.get? b = some o → B.get? b = some o) (hT : ∀ b u o, H' b = some u → s1.heap.get? b = some o → B.get? b = some o)
 (fl : Heap.FlyingW B outer e (.ref C) (.ref t) h') (up : s1.heap.UpToSlots h') (hE : E (.ref C) none H') : CXV P w outer H s E (.ref e) { s1 with heap := h' } := by
 have st : B.StaysIn h' := fl.1
 have nofr : ∀ b o0, s.heap.get? b = some o0 → b ∉ frs outer → b ∉ frs (cxOf (CXV P w) P w K mg base N qual scope f cd A outer s H E).stack := fun b o0 h0 hb z => by
  rcases List.mem_cons.mp (I.stkSub b z) with z | z
  · have := Heap.lt_size h0
    have hab : s.heap.objs.size ≤ (cxOf (CXV P w) P w K mg base N qual scope f cd A outer s H E).env.locals := I.ok.above
    rw [← z] at hab
    exact absurd this (Nat.not_lt.mpr hab)
  · exact hb z
 have nox : ∀ b : Addr, b ∉ (cxOf (CXV P w) P w K mg base N qual scope f cd A outer s H E).ex := fun b z => absurd (show b ∈ ([] : List Addr) from z) (by simp)
 refine ⟨e, C, t, B, H', rfl, hE, I.os, I.bare, ⟨fun b o e0 n hb _ => ?_, fun b o e0 n hb _ => ?_, fun b o e0 n _ => I.base.free b o e0 n (nox b), fun b o e0 _ => ?_, I.base.tups, I.base.frzs, I.base.tbls⟩, ?_, fl, fun b u o hu ho => ?_, fun b o0 o h0 hb ho => ?_⟩
 · exact st b o (hB b o o e0 (nofr b o e0 hb) (I.base.keep b o e0 n hb (nox b)))
 · obtain ⟨sl, h1⟩ := I.base.slot b o e0 n hb (nox b)
   obtain ⟨_, o', ho', hd⟩ := I.ok.funs.mem hb
   rw [show (cxOf (CXV P w) P w K mg base N qual scope f cd A outer s H E).s₀.heap.get? b = s.heap.get? b from rfl, e0] at ho'
   cases ho'
   obtain ⟨sl', h2⟩ := up b _ h1 hd
   exact ⟨sl', h2⟩
 · obtain ⟨o1, h1⟩ := I.base.there b o e0 (nox b)
   by_cases hb : b ∈ frs outer
   · obtain ⟨_, o', ho', hd⟩ := I.ok.funs.mem hb
     have hn := I.ok.frf b hb
     obtain ⟨sl, h2⟩ := I.base.slot b o e0 hn hb (nox b)
     rw [show (cxOf (CXV P w) P w K mg base N qual scope f cd A outer s H E).s₀.heap.get? b = s.heap.get? b from rfl, e0] at ho'
     cases ho'
     obtain ⟨sl', h3⟩ := up b _ h2 hd
     exact ⟨_, h3⟩
   · exact ⟨o1, st b o1 (hB b o o1 e0 (nofr b o e0 hb) h1)⟩
 · intro b u hu
   refine (I.hok b u hu).stay (fun c v hc q => ?_) (fun c hc => hc) fun c xs hc => hc
   rcases hc with hc | hc
   · rw [hc] at q ⊢; exact st b v (hT b u v hu q)
   · exact st c v (hT c _ v hc q)
 · obtain ⟨o1, h1⟩ : ∃ o1, s1.heap.get? b = some o1 := by
    have := (I.hok b u hu).lt
    cases q : s1.heap.get? b with
    | some o1 => exact ⟨o1, rfl⟩
    | none =>
      exfalso
      have z := (I.hok b u hu)
      exact sG z q
   have hb1 := hT b u o1 hu h1
   have := st b o1 hb1
   rw [show ({ s1 with heap := h' } : Shared).heap.get? b = h'.get? b from rfl] at ho
   rw [this] at ho
   cases ho
   exact hb1
 · obtain ⟨o1, h1⟩ := I.base.there b o0 h0 (nox b)
   have hb1 := hB b o0 o1 h0 (nofr b o0 h0 hb) h1
   have := st b o1 hb1
   rw [show ({ s1 with heap := h' } : Shared).heap.get? b = h'.get? b from rfl] at ho
   rw [this] at ho
   cases ho
   exact hb1
theorem zpz : Wants true (cxOf (CXV P w) P w K mg base N qual scope f cd A outer s H E) (fun c _ H' => E c none H') where
 fly := fun pins σ H' s1 e C t B I fl hE => by
  have nox : ∀ b : Addr, b ∉ (cxOf (CXV P w) P w K mg base N qual scope f cd A outer s H E).ex := fun b z => absurd (show b ∈ ([] : List Addr) from z) (by simp)
  exact wpAny_leaves_onW (L := s.heap.objs.size) I.ok.frames rfl fl.fl fun h' fl' up => zoc I (fun b o0 o h0 hb ho => fl.old b o0 o h0 (nox b) hb ho) fl.tr fl' up hE
 made := fun _ pins σ H' s1 h1 e C vs I mk hE => by
  have fr : ∀ b u, H' b = some u → b ∉ frs (cxOf (CXV P w) P w K mg base N qual scope f cd A outer s H E).stack := fun b u hu hb => by rw [I.stkFree b hb] at hu; cases hu
  have I1 : Inv (cxOf (CXV P w) P w K mg base N qual scope f cd A outer s H E) pins σ H' { s1 with heap := h1 } := I.kept (t' := s1.toks) mk.keeps
  have nox : ∀ b : Addr, b ∉ (cxOf (CXV P w) P w K mg base N qual scope f cd A outer s H E).ex := fun b z => absurd (show b ∈ ([] : List Addr) from z) (by simp)
  refine wpAny_leaves_madeW (s := { s1 with heap := h1 }) (base := PySem.W.hideAll s1.heap (frs (cxOf (CXV P w) P w K mg base N qual scope f cd A outer s H E).stack)) (L := s.heap.objs.size) I.ok.frames rfl (fun b o q => PySem.W.of_hideAll _ q)
   (PySem.W.funFrames_hide I.stack fun env he b hb => List.mem_filterMap.mpr ⟨env, he, hb⟩) mk fun h' t fl _ _ up => ?_
  refine zoc I1 (fun b o0 o h0 hb ho => ?_) (fun b u o hu ho => ?_) fl up hE
  · obtain ⟨o1, h2⟩ := I.base.there b o0 h0 (nox b)
    have h3 := mk.keeps b o1 h2
    rw [show ({ s1 with heap := h1 } : Shared).heap.get? b = h1.get? b from rfl, h3] at ho
    cases ho
    exact PySem.W.hideAll_get _ h2 hb
  · cases q : s1.heap.get? b with
    | none => exact (sG (I.hok b u hu) q).elim
    | some o1 =>
      have h3 := mk.keeps b o1 q
      rw [show ({ s1 with heap := h1 } : Shared).heap.get? b = h1.get? b from rfl, h3] at ho
      cases ho
      exact PySem.W.hideAll_get _ q (fr b u hu)
end
noncomputable abbrev XQ := Str → Ev → aN → Prop
noncomputable abbrev WX := Ev → aN → XQ → Prop
noncomputable abbrev DsX := List Dv → aN → (Str → aN → Prop) → Prop
inductive lX (K : W.Frag) (mg : Str → Option Value) (wx : WX) (σ : L2.St) (H : Hp) (W : Value → L2.St → Hp → Prop) : Prop
 | mk (ρ : Ev) (S : aN) (E : XQ) (env : EnvOk K H ρ σ) (st : cG K H S) (hw : wx ρ S E) (post : ∀ nm ρ' S' σ' H' c, E nm ρ' S' → Ext H H' → EnvOk K H' ρ' σ' → cG K H' S' → mg nm = some c → W c σ' H') : lX K mg wx σ H W
noncomputable def DEx (m : Bool) (X : Cx) (e : Expr) (wx : WX) : Prop := ∀ W, Wants m X W → PE X e (fun σ H _ => lX X.K X.mg wx σ H W)
noncomputable def DX (m : Bool) (X : Cx) (st : Stmt) (wx : WX) : Prop := ∀ W, Wants m X W → PS X st (fun _ σ H => lX X.K X.mg wx σ H W)
noncomputable def DXs (m : Bool) (X : Cx) (sts : List Stmt) (wx : WX) : Prop := ∀ W, Wants m X W → PSs X sts (fun _ σ H => lX X.K X.mg wx σ H W)
inductive lSpX (K : W.Frag) (mg : Str → Option Value) (sp : DsX) (vs : List V) (H : Hp) (Q : VK) (E : XK) : Prop
 | mk (ds : List Dv) (S : aN) (E' : Str → aN → Prop) (hds : bM K H ds vs) (st : cG K H S) (hs : sp ds S E') (post : ∀ nm S' H' c, E' nm S' → Ext H H' → cG K H' S' → mg nm = some c → E c none H') : lSpX K mg sp vs H Q E
structure HasX (P : Program) (w : World) (K : W.Frag) (mg : Str → Option Value) (base : Heap) (k : Nat) (x : Str) (ps : List Str) (sp : DsX) : Prop where
 ex : ∃ (f : Addr) (fd : FuncData), FnOk P w K mg base (CXV P w) k f fd ps (lSpX K mg sp) ∧ mg x = some (.ref f) ∧ W.keepIn K (.ref f) = true ∧ iB K fd ps []
noncomputable def oE (sp : DsX) (t : WA) : WX := fun ρ S E => t ρ S fun ds S1 => sp ds S1 fun nm S2 => E nm ρ S2
noncomputable def uL (a : WS) (b : WX) : WX := fun ρ S E => a { nx := fun ρ1 S1 => b ρ1 S1 E, rt := fun _ _ => False } ρ S
noncomputable def xIf (c : WT) (a b : WX) : WX := fun ρ S E => c ρ S fun t S1 => if t = true then a ρ S1 E else b ρ S1 E
noncomputable def xNo : WX := fun _ _ _ => False
noncomputable def sH (nm : Str) : WX := fun ρ S E => E nm ρ S
section
variable {X : Cx} {m : Bool}
theorem lX.ext {K : W.Frag} {mg : Str → Option Value} {wx : WX} {σ : L2.St} {H H0 : Hp} {ρ : Ev} {S : aN} {E : XQ} {W : Value → L2.St → Hp → Prop} (env : EnvOk K H ρ σ) (st : cG K H S) (hw : wx ρ S E) (e : Ext H0 H)
 (post : ∀ nm ρ' S' σ' H' c, E nm ρ' S' → Ext H0 H' → EnvOk K H' ρ' σ' → cG K H' S' → mg nm = some c → W c σ' H') : lX K mg wx σ H W := ⟨ρ, S, E, env, st, hw, fun nm ρ' S' σ' H' c q e' en' st' hm => post nm ρ' S' σ' H' c q (e.trans e') en' st' hm⟩
theorem zod {k : Nat} {f : Addr} {fd : FuncData} {ps : List Str} {sp : Sp} {W : Value → L2.St → Hp → Prop} {pins : List (Addr × Obj)} {σ : L2.St} {H : Hp} {s : Shared} {Q : VK} {us : List Value} {vs : List V} (hw : Wants m X W)
 (F : FnOk X.prog X.w X.K X.mg X.base (CXV X.prog X.w) k f fd ps sp) (hr : Room k X.A) (hb : iB X.K fd ps []) (I : Inv X pins σ H s) (r : bU vs us) (h : sp vs H Q (fun c _ H => W c σ H)) :
 wpAny (model X.prog X.w) X.A (call (.ref f) us) (EP X pins σ Q) X.xe s := by
 have hl : us.length = ps.length := by rw [← r.length]; exact F.len _ _ _ _ h
 have hb' : BindsTo s fd ⟨us, []⟩ (ps.zip us) := by
  have z := hb s us I.kIn (by rw [List.append_nil]; exact hl)
  rw [List.append_nil] at z
  exact z
 refine wpAny_call (codeAny_mono (F.run X.A X.stack s H ⟨us, []⟩ us vs Q (fun c _ H => W c σ H) hr I.env0 hb' r h) fun r s' hq => ?_)
 cases r with
 | error e => exact zacq hw I hq
 | ok fl =>
   cases fl with
   | ret u => exact I.after hq
   | next => exact False.elim hq
   | brk => exact False.elim hq
   | cont => exact False.elim hq
theorem PA.nox {es : List Expr} {t : TA} (h : PA X.nox es t) : PA X es t := fun pos pins s σ H Q I hw =>
 wpAny_mono (h pos pins s σ H Q (I.wish _) hw) (fun _ _ ⟨v, H', I', r, q⟩ => ⟨v, H', I'.unwish, r, q⟩) fun _ _ z => False.elim z
theorem PS.nox {st : Stmt} {t : TS} (h : PS X.nox st t) : PS X st t := fun pins s σ H D I hw =>
 wpAny_mono (h pins s σ H D (I.wish _) hw) (fun _ _ q => q.unwish) fun _ _ z => False.elim z
theorem pO {k : Nat} {x : Str} {ps : List Str} {sp : DsX} {p pos : Pos} {e : Expr} {es : List Expr} {t : WA} (G : HasX X.prog X.w X.K X.mg X.base k x ps sp) (hr : Room k X.A) (ha : DA X.nox (e :: es) t) (hg : Gl X x := by rfl) (hdb : (x == ("__debug__" : Str)) = false := by decide)
 (he : starEach (e :: es) X.env = (false, eval e X.env) :: starEach es X.env := by rfl) (hpl : (backTo pos (starEach es X.env)).any (·.1) = false := by rfl) : DEx m X (.Call (.Name x p) (e :: es) [] pos) (oE sp t) := by
 intro W hw pins s σ H Q I ⟨ρ, S, E, env, st, hx, post⟩
 obtain ⟨f, fd, F, hm, hk, hb⟩ := G.ex
 refine wpAny_Call_Name_kw (qG I hg hm ?_ hdb)
 refine PySem.W.callWith_K (h₀ := X.base) I.ok.mod.kin hk (thn (PA.nox ha pos pins s σ H (fun vs H1 => lSpX X.K X.mg sp vs H1 Q (fun c _ H => W c σ H)) I ⟨ρ, S, _, env, st, hx, fun ds S1 vs H1 q e1 st1 hds => ?_⟩) fun us s1 ⟨vs, H1, I1, r, q⟩ => ⟨I1.kIn, ?_⟩) he hpl
 · exact ⟨ds, S1, _, hds, st1, q, fun nm S' H' c q' e' st' hm' => post nm ρ S' σ H' c q' (e1.trans e') (env.ext (e1.trans e')) st' hm'⟩
 · exact zod hw F hr hb I1 r q
theorem ztf {i : Nat} {x : Str} {e : Expr} {wx : WX} {pos pos' : Pos} (hN : X.N.Nodup) (he : DEx m X e wx) (hi : X.N[i]? = some x := by rfl) (hx : Loc X.env.scope x := by first | exact Or.inl rfl | exact Or.inr rfl) (hs : swapsWith e (some (.Name x pos')) pos.line X.env = pure false := by rfl)
 (hf : X.fn x = true ∨ X.env.scope.names.lookup x = some .local := by first | exact .inl rfl | exact .inr rfl | assumption) : DX m X (.Assign [.Name x pos'] e pos) wx := fun W hw => PS.weak (zqq hN hi hx (he W hw) hs hf) fun D σ H h => h
theorem zgz {e : Expr} {wx : WX} {pos : Pos} (he : DEx m X e wx) : DX m X (.Return (some e) pos) wx := fun W hw => PS.weak (zqo (he W hw)) fun D σ H h => h
theorem eR {st : Stmt} {rest : List Stmt} {wx : WX} (h : DX m X st wx) : DXs m X (st :: rest) wx := by
 intro W hw pins s σ H D I hx
 refine wpAny_execs_cons (thn (h W hw pins s σ H { nx := fun _ _ => False, rt := fun _ _ => False } I hx) fun f s1 q => ?_)
 cases f with
 | next => obtain ⟨_, _, _, q⟩ := q; exact q.elim
 | brk => obtain ⟨_, _, _, q⟩ := q; exact q.elim
 | cont => obtain ⟨_, _, _, q⟩ := q; exact q.elim
 | ret u => obtain ⟨_, _, _, _, _, q⟩ := q; exact q.elim
theorem nL {st : Stmt} {rest : List Stmt} {ws : WS} {wx : WX} (h1 : DS X.nox st ws) (h2 : DXs m X rest wx) : DXs m X (st :: rest) (uL ws wx) := by
 intro W hw pins s σ H D I ⟨ρ, S, E, env, st, hx, post⟩
 refine wpAny_execs_cons (thn (PS.nox h1 pins s σ H { nx := fun σ1 H1 => lX X.K X.mg wx σ1 H1 W, rt := fun _ _ => False } I ⟨ρ, S, _, env, st, hx, ⟨fun ρ1 S1 σ1 H1 q e1 env1 st1 => lX.ext env1 st1 q e1 post, fun _ _ _ _ q _ _ _ => q, fun _ _ _ _ q _ _ _ => q, fun _ _ _ _ q _ _ _ => q⟩⟩) fun f s1 q => ?_)
 cases f with
 | next =>
   obtain ⟨σ1, H1, I1, q⟩ := q
   exact h2 W hw pins s1 σ1 H1 D I1 q
 | brk => obtain ⟨_, _, _, q⟩ := q; exact q.elim
 | cont => obtain ⟨_, _, _, q⟩ := q; exact q.elim
 | ret u => obtain ⟨_, _, _, _, _, q⟩ := q; exact q.elim
theorem zjl {c : Expr} {a b : List Stmt} {tc : WT} {wa wb : WX} {pos : Pos} (hc : DT X.nox c tc) (ha : DXs m X a wa) (hb : DXs m X b wb) : DX m X (.If c a b pos) (xIf tc wa wb) := fun W hw =>
 PS.weak (zxh (PT.nox hc) (ha W hw) (hb W hw)) fun D σ H ⟨ρ, S, E, env, st, hx, post⟩ => ⟨ρ, S, _, env, st, hx, fun t S1 H1 q e1 st1 => by
  cases t with
  | true => exact lX.ext (env.ext e1) st1 q e1 post
  | false => exact lX.ext (env.ext e1) st1 q e1 post⟩
theorem zwv {a b : Expr} {wx : WX} {wb : WE} {pos : Pos} (ha : DEx m X a wx) (hb : DE X.nox b wb) : DEx m X (.BinOp a .Add b pos) wx := fun W hw =>
 PE.weak (zxj (dU (X := X)) (ha W hw) (PE.nox hb)) fun σ H Q h => h
end
abbrev zg0 : List Value := [.type "ValueError", .type "Exception", .type "BaseException", .type "object"]
structure OwnX (K : W.Frag) (mg : Str → Option Value) (x : Str) (C : Addr) : Prop where
 mg : mg x = some (.ref C)
 q : PySem.W.excIn K C zg0 "ValueError.__new__" = true
theorem zww {K : W.Frag} {h : Heap} {C : Addr} {bmB : List Value} {newId : String} (X : K.In h) (q : PySem.W.excIn K C bmB newId = true) :
 ∃ bm N nm qn bs hdct sn sub ab col dd k0 k1 k2 k3 k5 mN, h.get? C = some (excClassObj nm qn C N bs bm hdct sn sub ab col dd k0 k1 k2 k3 k5 newId) ∧ h.Ns N mN ∧ mN "__init__" = none ∧ OwnTail h bmB bm := by
 unfold PySem.W.excIn at q
 split at q
 · rename_i dd cd sl ho
   split at q
   · rename_i C' bm k0 k1 k2 k3 n k5 hm hs
     simp only [Bool.and_eq_true, beq_iff_eq, Bool.not_eq_true'] at q
     obtain ⟨⟨⟨⟨⟨rfl, rfl⟩, hdel⟩, ht⟩, hok⟩, hni⟩ := q
     obtain ⟨nm, bs, mro, ns, qn, hd, sn, sub, ab, col, del⟩ := cd
     dsimp only at hm hdel hok hni
     subst hm hdel
     have hsl : sl = #[k0, k1, k2, k3, some (.builtin n), k5] := by
      obtain ⟨l⟩ := sl
      simp only at hs
      rw [hs]
     subst hsl
     exact ⟨bm, ns, nm, qn, bs, hd, sn, sub, ab, col, dd, k0, k1, k2, k3, k5, _, X _ _ ho, .of_isNs (PySem.W.isNs_of_in X hok), PySem.W.nsMap_none_of_in X hok hni, PySem.W.tail_of_in X ht⟩
   · cases q
 · cases q
section
variable {X : Cx}
theorem zcv {x : Str} {C : Addr} {np cpos pos : Pos} {e : Expr} {d : Dv} (G : OwnX X.K X.mg x C) (hc : X.calm = true) (ha : DA X.nox [e] (aE (wC d) aO)) (hg : Gl X x := by rfl) (hdb : (x == ("__debug__" : Str)) = false := by decide)
 (he : starEach [e] X.env = (false, eval e X.env) :: starEach [] X.env := by rfl) (hpl : (backTo cpos (starEach [] X.env)).any (·.1) = false := by rfl) :
 DX true X (.Raise (some (.Call (.Name x np) [e] [] cpos)) none pos) (sH x) := by
 intro W hw pins s σ H D I ⟨ρ, S, E, env, st, hx, post⟩
 obtain ⟨tl, N, nm, q, bs, hdct, sn, sub, ab, col, dd, k0, k1, k2, k3, k5, mN, hC, hN, hni, T⟩ := zww (h := X.base) I.mod.kin G.q
 refine wpAny_Raise_call_subT (C := C) (nm := nm) (q := q) (N := N) (bs := bs) (bm := tl) (hdct := hdct) (sn := sn) (sub := sub) (ab := ab) (col := col) (dd := dd) (k0 := k0) (k1 := k1) (k2 := k2) (k3 := k3) (k5 := k5)
  PySem.F.excBase_ValueError (mN := mN) (T.hasType PySem.F.excBase_ValueError.hasBase) (I.ok.hd hc) (by rw [he]; show (false || (backTo cpos (starEach [] X.env)).any (·.1)) = false; rw [hpl]; rfl) hni (qG I hg G.mg ⟨rfl, ?_⟩ hdb)
 rw [he]
 have h1 := PA.nox ha cpos pins s σ H (fun vs H1 => vs.length ≤ sizeLine ∧ W (.ref C) σ H1) I ⟨ρ, S, (fun ds S1 => ds.length ≤ sizeLine ∧ E x ρ S1), env, st, ⟨by show 1 ≤ sizeLine; decide, hx⟩, fun ds S1 vs H1 ⟨q, q2⟩ e1 st1 hds => ⟨by rw [bX hds]; exact q, post x ρ S1 σ H1 _ q2 e1 (env.ext e1) st1 G.mg⟩⟩
 rw [he] at h1
 exact Calls.evalArgs_plain (wpAny_mono h1 (fun us s2 ⟨vs, H2, I2, r, ql, qW⟩ => ⟨rfl, by rw [← r.length]; exact ql, I2.bk _ _ hC, hN.keeps I2.bk, T.keeps I2.bk, fun h' a mk => hw.made rfl pins σ H2 s2 h' a C us I2 mk qW⟩) fun _ _ y => y)
end
section
variable {X : Cx} {pins : List (Addr × Obj)} {σ : L2.St} {H : Hp} {s : Shared} {e C t : Addr} {B h' : Heap}
theorem ztg (hex : X.ex = []) (I : Inv X pins σ H s) (fl : Fly X pins B H e C t s.heap) (fl' : Heap.FlyingW B X.stack e (.ref C) (.ref t) h') (up : s.heap.UpToSlots h') : Inv X pins σ H { s with heap := h' } ∧ Fly X pins B H e C t h' := by
 have st : B.StaysIn h' := fl'.1
 have nox : ∀ b : Addr, b ∉ X.ex := fun b z => absurd (hex ▸ z : b ∈ ([] : List Addr)) (by simp)
 have nofr : ∀ b o0, X.s₀.heap.get? b = some o0 → b ∉ X.fs → b ∉ frs X.stack := fun b o0 h0 hb z => by
  rcases List.mem_cons.mp (I.stkSub b z) with z | z
  · have := Heap.lt_size h0
    have hab : X.s₀.heap.objs.size ≤ X.env.locals := I.ok.above
    rw [← z] at hab
    exact absurd this (Nat.not_lt.mpr hab)
  · exact hb z
 have trk : ∀ b u, H b = some u → ∃ o, s.heap.get? b = some o ∧ B.get? b = some o ∧ h'.get? b = some o := fun b u hu => by
  cases q : s.heap.get? b with
  | none => exact (sG (I.hok b u hu) q).elim
  | some o => exact ⟨o, rfl, fl.tr b u o hu q, st b o (fl.tr b u o hu q)⟩
 have cellUp : ∀ {c : Addr} {v : Option Value}, s.heap.IsCell c v → h'.IsCell c v := fun ⟨o, ho, hd⟩ => by
  obtain ⟨sl, h2⟩ := up _ o ho (fun vs q => by rw [hd] at q; cases q)
  exact ⟨_, h2, hd⟩
 have un : Un X.fs X.ex X.H₀ H X.s₀.heap h' := by
  refine ⟨fun b o e0 n hb _ => ?_, fun b o e0 n hb _ => ?_, fun b o e0 n _ => I.base.free b o e0 n (nox b), fun b o e0 _ => ?_, I.base.tups, I.base.frzs, I.base.tbls⟩
  · exact st b o (fl.old b o o e0 (nox b) (nofr b o e0 hb) (I.base.keep b o e0 n hb (nox b)))
  · obtain ⟨sl, h1⟩ := I.base.slot b o e0 n hb (nox b)
    obtain ⟨_, o', ho', hd⟩ := I.ok.funs.mem hb
    rw [e0] at ho'
    cases ho'
    obtain ⟨sl', h2⟩ := up b _ h1 hd
    exact ⟨sl', h2⟩
  · obtain ⟨o1, h1⟩ := I.base.there b o e0 (nox b)
    by_cases hb : b ∈ X.fs
    · obtain ⟨_, o', ho', hd⟩ := I.ok.funs.mem hb
      have hn := I.ok.frf b hb
      obtain ⟨sl, h2⟩ := I.base.slot b o e0 hn hb (nox b)
      rw [e0] at ho'
      cases ho'
      obtain ⟨sl', h3⟩ := up b _ h2 hd
      exact ⟨_, h3⟩
    · exact ⟨o1, st b o1 (fl.old b o o1 e0 (nox b) (nofr b o e0 hb) h1)⟩
 have hok : uQ X.prog X.w H h' := fun b u hu => by
  refine (I.hok b u hu).stay (fun c v hc q => ?_) (fun c hc => hc) fun c xs hc => hc
  rcases hc with hc | hc
  · rw [hc] at q ⊢; exact st b v (fl.tr b u v hu q)
  · exact st c v (fl.tr c _ v hc q)
 have loc : ∃ m, h'.Ns X.env.locals m ∧ ∀ (i : Nat) (x : Str) (v : V), X.N[i]? = some x → σ[i]? = some (some v) → Vis X.env.scope x → ∃ u, dG v u ∧ Look X.env h' m x u := by
  obtain ⟨m, hn, hl⟩ := I.loc
  refine ⟨m, up.ns hn, fun i x v h1 h2 h3 => ?_⟩
  obtain ⟨u, r, lk⟩ := hl i x v h1 h2 h3
  rcases lk with lk | ⟨lk, c, hc, hcell⟩
  · exact ⟨u, r, .inl lk⟩
  · exact ⟨u, r, .inr ⟨lk, c, hc, cellUp hcell⟩⟩
 refine ⟨⟨I.ok, I.os, I.bare, un, loc, fun x c hc => ?_, I.free, I.freeC, fun p hp => ?_, hok, I.len⟩, fl', fun b u o hu ho => ?_, fun b o0 o h0 hx hb ho => ?_, fl.pn⟩
 · obtain ⟨v, q⟩ := I.cell x c hc
   exact ⟨v, cellUp q⟩
 · obtain ⟨_, h2⟩ := I.pin p hp
   exact ⟨st _ _ (fl.pn p hp), h2⟩
 · obtain ⟨o1, _, h2, h3⟩ := trk b u hu
   rw [h3] at ho
   cases ho
   exact h2
 · obtain ⟨o1, h1⟩ := I.base.there b o0 h0 hx
   have h2 := fl.old b o0 o1 h0 hx hb h1
   have h3 := st b o1 h2
   rw [h3] at ho
   cases ho
   exact h2
end
noncomputable abbrev Cx.mark (X : Cx) (e : Addr) : Cx := { X with A := X.A.mark (some (.ref e)), calm := false, xe := fun _ _ => False }
section
variable {X : Cx} {pins : List (Addr × Obj)} {σ : L2.St} {H : Hp} {s : Shared} {e : Addr}
theorem Inv.mark (I : Inv X pins σ H s) (e : Addr) : Inv (Cx.mark X e) pins σ H s :=
 ⟨⟨I.ok.mod, I.ok.kind, I.ok.glob, I.ok.blt, I.ok.above, I.ok.inj, I.ok.has, I.ok.cab, fun z => Bool.noConfusion z, I.ok.frames, I.ok.stk, I.ok.exf, I.ok.bs, I.ok.bsz, I.ok.noex, I.ok.exfs, I.ok.funs, I.ok.frf⟩, I.os, I.bare, I.base, I.loc, I.cell, I.free, I.freeC, I.pin, I.hok, I.len⟩
theorem Inv.unmark (ok : X.Ok) (I : Inv (Cx.mark X e) pins σ H s) : Inv X pins σ H s := ⟨ok, I.os, I.bare, I.base, I.loc, I.cell, I.free, I.freeC, I.pin, I.hok, I.len⟩
theorem SP.unmark {D : Ends} {f : Flow} {s' : Shared} (ok : X.Ok) (h : SP (Cx.mark X e) pins D f s') : SP X pins D f s' := by
 cases f with
 | next => obtain ⟨σ', H', I, q⟩ := h; exact ⟨σ', H', Inv.unmark ok I, q⟩
 | brk => obtain ⟨σ', H', I, q⟩ := h; exact ⟨σ', H', Inv.unmark ok I, q⟩
 | cont => obtain ⟨σ', H', I, q⟩ := h; exact ⟨σ', H', Inv.unmark ok I, q⟩
 | ret u => obtain ⟨v, σ', H', I, r, q⟩ := h; exact ⟨v, σ', H', Inv.unmark ok I, r, q⟩
end
structure Catch (K : W.Frag) (mg : Str → Option Value) (y : Str) (tab : List (Str × Bool)) : Prop where
 ex : ∃ c, mg y = some c ∧ ∀ nm b C, tab.lookup nm = some b → mg nm = some (.ref C) → PySem.W.exmOne K (.ref C) c = some b
noncomputable def zp1 : List (List (Str × Bool) × WS) → Str → WS
 | [], _ => fun _ _ _ => False
 | (tab, w) :: r, nm => fun D ρ S => match tab.lookup nm with
   | some true => w D ρ S
   | some false => zp1 r nm D ρ S
   | none => False
noncomputable def zth (wb : WS) (wx : WX) (hs : List (List (Str × Bool) × WS)) : WS := fun D ρ S => wb D ρ S ∨ wx ρ S fun nm ρ' S' => zp1 hs nm D ρ' S'
inductive HsOk (X : Cx) : List ExceptHandler → List (List (Str × Bool) × WS) → Prop
 | nil : HsOk X [] []
 | cons {y : Str} {tab : List (Str × Bool)} {w : WS} {b0 : Stmt} {suite : List Stmt} {p pos : Pos} {hs : List ExceptHandler} {ws : List (List (Str × Bool) × WS)} (c : Catch X.K X.mg y tab) (g : Gl X y) (hd : (y == ("__debug__" : Str)) = false)
  (h : ∀ e, DSs (Cx.mark X e) (b0 :: suite) w) (r : HsOk X hs ws) : HsOk X (.ExceptHandler (some (.Name y p)) none (b0 :: suite) pos :: hs) ((tab, w) :: ws)
noncomputable abbrev Cx.tr (X : Cx) (E : Value → Shared → Prop) (pn : List (Addr × Obj)) : Cx := { X with xe := E, pn := pn }
section
variable {X : Cx}
theorem handled {hs : List ExceptHandler} {ws : List (List (Str × Bool) × WS)} (h : HsOk X hs ws) (hex : X.ex = []) : ∀ {pins : List (Addr × Obj)} {σ : L2.St} {H : Hp} {s : Shared} {e C t : Addr} {B : Heap} {D : Ends} {D' : Dn} {ρ : Ev} {S : aN} {nm : Str},
 Inv X pins σ H s → Fly X pins B H e C t s.heap → EnvOk X.K H ρ σ → cG X.K H S → zp1 ws nm D' ρ S → DnOk X.K H D' D → X.mg nm = some (.ref C) → wpAny (model X.prog X.w) X.A (handleBy (.ref e) X.env hs) (SP X pins D) X.xe s := by
 induction h with
 | nil => intro pins σ H s e C t B D D' ρ S nm I fl env st hr ends hm; exact hr.elim
 | @cons y tab w b0 suite p pos hs ws c g hd hh r ih =>
   intro pins σ H s e C t B D D' ρ S nm I fl env st hr ends hm
   obtain ⟨cy, hcy, htab⟩ := c.ex
   have LT : PySem.W.Looks (model X.prog X.w) s.heap (typeOf (.ref e)) (.ref C) := by
    obtain ⟨ob, hob, hc⟩ := fl.fl.there
    have z : PySem.W.Looks (model X.prog X.w) s.heap (typeOf (.ref e)) ob.cls := (PySem.W.Looks.ld hob).andThen .now
    rw [hc] at z
    exact z
   refine wpAny_handleBy_cons (codeAny_handlers_test (qG (X := Cx.mark X e) (Inv.mark I e) g hcy ?_ hd)) (by intro q; cases q)
   unfold zp1 at hr
   cases hl : tab.lookup nm with
   | none => rw [hl] at hr; exact hr.elim
   | some b =>
     rw [hl] at hr
     refine (PySem.W.exm_one I.kIn LT (htab nm b C hl hm)).here ?_
     cases b with
     | false => exact ih I fl env st hr ends hm
     | true =>
       refine codeAny_handlers_suite (lands_againW fl.fl fun h6 fl6 up6 => ?_)
       obtain ⟨I6, _⟩ := ztg hex I fl fl6 up6
       exact wpAny_mono (hh e pins _ σ H D (Inv.mark I6 e) ⟨ρ, S, D', env, st, hr, ends⟩) (fun f s2 q => SP.unmark I6.ok q) fun _ _ z => z.elim
theorem zzs {body : List Stmt} {h0 : ExceptHandler} {hs : List ExceptHandler} {ws : List (List (Str × Bool) × WS)} {wb : WS} {wx : WX} {pos : Pos} (hb : DSs X.nox body wb) (hx : ∀ E pn, DXs false (Cx.tr X E pn) body wx) (hh : HsOk X (h0 :: hs) ws)
 (hex : X.ex = [] := by rfl) (hst : X.stack = X.env :: X.outer := by rfl) (hfr : X.env.frame = some X.env.locals := by rfl) : DS X (.Try body (h0 :: hs) [] [] pos) (zth wb wx ws) := by
 intro pins s σ H D I ⟨ρ, S, D', env, st, hw, ends⟩
 refine wpAny_Try_except ?_
 rcases hw with hw | hw
 · refine wpAny_mono (hb pins s σ H D (I.wish _) ⟨ρ, S, D', env, st, hw, ends⟩) (fun f s1 q => ?_) fun _ _ z => z.elim
   cases f with
   | next => exact wpAny_execs_nil (SP.unwish (f := .next) q)
   | brk => exact SP.unwish (f := .brk) q
   | cont => exact SP.unwish (f := .cont) q
   | ret u => exact SP.unwish (f := .ret u) q
 · let X1 := Cx.tr X (fun e s₁ => wpAny (model X.prog X.w) X.A (noteFrame e X.env) (fun _ s₂ => wpAny (model X.prog X.w) X.A (setFlight e none) (fun _ s₃ => wpAny (model X.prog X.w) X.A (handleBy e X.env (h0 :: hs)) (SP X pins D) X.xe s₃) X.xe s₂) X.xe s₁) (X.pn ++ pins)
   have okX := I.ok
   have I1 : Inv X1 [] σ H s := ⟨⟨I.ok.mod, I.ok.kind, I.ok.glob, I.ok.blt, I.ok.above, I.ok.inj, I.ok.has, I.ok.cab, I.ok.hd, I.ok.frames, I.ok.stk, I.ok.exf, I.ok.bs, I.ok.bsz, I.ok.noex, I.ok.exfs, I.ok.funs, I.ok.frf⟩, I.os, I.bare, I.base, I.loc, I.cell, I.free, I.freeC,
    fun p hp => I.pin p (by rwa [List.append_nil] at hp), I.hok, I.len⟩
   have wants : Wants false X1 (fun c σ' H' => ∃ nm ρ' S', X.mg nm = some c ∧ zp1 ws nm D' ρ' S' ∧ EnvOk X.K H' ρ' σ' ∧ cG X.K H' S' ∧ Ext H H') := by
    refine ⟨fun pins' σ' H' s' e C t B J fl ⟨nm, ρ', S', hm, hr, en', st', ex'⟩ => ?_, fun z => by cases z⟩
    have I' : Inv X pins σ' H' s' := ⟨okX, J.os, J.bare, J.base, J.loc, J.cell, J.free, J.freeC, fun p hp => J.pin p (List.mem_append_left _ hp), J.hok, J.len⟩
    have fl' : Fly X pins B H' e C t s'.heap := ⟨fl.fl, fl.tr, fl.old, fun p hp => fl.pn p (List.mem_append_left _ hp)⟩
    have f1 : Heap.FlyingW B (X.env :: X.outer) e (.ref C) (.ref t) s'.heap := hst ▸ fl'.fl
    show wpAny (model X.prog X.w) X.A (noteFrame (.ref e) X.env) _ X.xe s'
    refine wpAny_looks_onW (by rw [okX.frames, hst]) hfr f1 fun h4 held up4 => wpAny_landsW held fun h5 fl5 up5 => ?_
    obtain ⟨I5, fl5'⟩ := ztg hex I' fl' (hst ▸ fl5) (up4.trans up5)
    exact handled hh hex I5 fl5' en' st' hr (ends.ext ex') hm
   refine wpAny_mono (hx _ _ _ wants [] s σ H { nx := fun _ _ => False, rt := fun _ _ => False } I1 ⟨ρ, S, _, env, st, hw, fun nm ρ' S' σ' H' c q ex en' st' hm => ⟨nm, ρ', S', hm, q, en', st', ex⟩⟩) (fun f s1 q => ?_) fun _ _ z => z
   cases f with
   | next => obtain ⟨_, _, _, q⟩ := q; exact q.elim
   | brk => obtain ⟨_, _, _, q⟩ := q; exact q.elim
   | cont => obtain ⟨_, _, _, q⟩ := q; exact q.elim
   | ret u => obtain ⟨_, _, _, _, _, q⟩ := q; exact q.elim
end
noncomputable abbrev cxV (P : Program) (w : World) (K : W.Frag) (mg : Str → Option Value) (base : Heap) (N : List Str) (qual : Str) (st : Stmt) (f : Addr) (cdv : Value) (A : Around) (outer : List Env) (s : Shared) (H : Hp) (E : XK) : Cx :=
 cxOf (CXV P w) P w K mg base N qual (aK st) f cdv A outer s H E
section
variable {P : Program} {w : World} {K : W.Frag} {mg : Str → Option Value} {base : Heap}
theorem zti {x qual : Str} {st : Stmt} {f : Addr} {fd : FuncData} {N ps : List Str} {k : Nat} {sp : DsX} {wx : WX} (F : Fun K x qual st f fd) (S : FnScope N ps (aK st))
 (len : ∀ ds S E, sp ds S E → ds.length = ps.length)
 (link : ∀ (cdv : Value) (A : Around) (outer : List Env) (s : Shared) (H : Hp) (E : XK), Room k (cxV P w K mg base N qual st f cdv A outer s H E).A → DXs true (cxV P w K mg base N qual st f cdv A outer s H E) (aQ st) wx)
 (ok : ∀ ds S E, sp ds S E → wx (cK N.length ds) S fun nm _ S' => E nm S') : FnOk P w K mg base (CXV P w) (k + 1) f fd ps (lSpX K mg sp) := by
 obtain ⟨oc, od, kV, doc, pm, an, cdv, ct, osl, rfl, lk, hcd⟩ := F.ex
 refine zxn lk hcd S (fun vs H Q E h => ?_) fun A outer s H vs Q E hr h => ?_
 · obtain ⟨ds, S', E', h1, _, h2, _⟩ := h
   rw [bX h1]
   exact len ds S' E' h2
 · obtain ⟨ds, S', E', h1, h2, h3, h4⟩ := h
   exact ⟨_, link cdv A outer s H E hr _ zpz, cK N.length ds, S', _, zlr h1, h2, ok ds S' E' h3, fun nm ρ' S2 σ' H' c q e _ st hm => h4 nm S2 H' c q e st hm⟩
theorem xL {x : Str} {st : Stmt} {f : Addr} {fd : FuncData} {N ps : List Str} {k : Nat} {sp : DsX} {wx : WX} (F : Fun K x x st f fd) (hm : mg x = some (.ref f)) (hb : iB K fd ps []) (S : FnScope N ps (aK st))
 (len : ∀ ds S E, sp ds S E → ds.length = ps.length)
 (link : ∀ (cdv : Value) (A : Around) (outer : List Env) (s : Shared) (H : Hp) (E : XK), Room k (cxV P w K mg base N x st f cdv A outer s H E).A → DXs true (cxV P w K mg base N x st f cdv A outer s H E) (aQ st) wx)
 (ok : ∀ ds S E, sp ds S E → wx (cK N.length ds) S fun nm _ S' => E nm S') : HasX P w K mg base (k + 1) x ps sp := ⟨f, fd, zti F S len link ok, hm, F.kp, hb⟩
end
section
variable {X : Cx} {m : Bool}
theorem zzt {f : Str} {o e : Expr} {wo : WE} {wx : WX} {pos pos' : Pos} (ho : DE X.nox o wo) (he : DEx m X e wx) (hs : swapsWith e (some (.Attribute o f pos')) pos.line X.env = pure false := by rfl) : DX m X (.Assign [.Attribute o f pos'] e pos) wx := fun W hw =>
 PS.weak (zq1 (PE.nox ho) (he W hw) hs) fun D σ H h => h
structure HasXM (P : Program) (w : World) (K : W.Frag) (mg : Str → Option Value) (base : Heap) (k : Nat) (C : Addr) (m : Str) (ps : List Str) (sp : DsX) : Prop where
 ex : ∃ (f : Addr) (fd : FuncData), FnOk P w K mg base (CXV P w) k f fd ps (lSpX K mg sp) ∧ Meth K C m f ∧ iB K fd ps []
noncomputable def ztj (m : Str) (sp : DsX) (o : WE) (t : WA) : WX := fun ρ S E => o ρ S fun d S1 => zal S1 d fun _ fs => fs.lookup m = none ∧ t ρ S1 fun ds S2 => sp (d :: ds) S2 fun nm S3 => E nm ρ S3
theorem ztk {k : Nat} {mt : Str} {ps : List Str} {sp : DsX} {o e : Expr} {es : List Expr} {wo : WE} {t : WA} {apos pos : Pos} {C0 : Addr} {pl : Sem Bool} (hc : HandCls X.K C0) (G : HasXM X.prog X.w X.K X.mg X.base k C0 mt ps sp) (hr : Room k X.A) (ho : DE X.nox o wo) (ha : DA X.nox (e :: es) t)
 (hst : starEach (e :: es) X.env = (false, eval e X.env) :: starEach es X.env := by rfl) (hpl : (backTo pos (starEach es X.env)).any (·.1) = false := by rfl)
 (ht : eval (.Call (.Attribute o mt apos) (e :: es) [] pos) X.env = (do
   let ov ← eval o X.env
   standAt apos.atName
   let (f, first) ← holding [ov] (getMethod ov mt pl)
   callWith pos f first (backTo pos (starEach (e :: es) X.env)) (backToKw pos (keywordEach [] X.env))) := by rfl) : DEx m X (.Call (.Attribute o mt apos) (e :: es) [] pos) (ztj mt sp wo t) := by
 intro W hw pins s σ H Q I ⟨ρ, S, E, env, st, hx, post⟩
 obtain ⟨f, fd, F, hm, hb⟩ := G.ex
 refine PySem.W.methodCall_KW (pl := pl) (thn (PE.nox ho pins s σ H (fun v H1 => ∃ p fs S1, v = .ref p ∧ S1 p = some (.ins fs) ∧ cG X.K H1 S1 ∧ Ext H H1 ∧ fs.lookup mt = none ∧ t ρ S1 fun ds S2 => sp (.ref p :: ds) S2 fun nm S3 => E nm ρ S3) I ⟨ρ, S, _, env, st, hx, fun d S1 v H1 q1 e1 st1 hd => ?_⟩) fun u s1 ⟨x, H1, I1, rx, p, fs, S1, ex, hs, st1, e1, hn, q⟩ => ?_) ht
 · obtain ⟨p, fs, rfl, hs, hn, q⟩ := tV q1
   cases (show v = .ref p from hd)
   exact ⟨p, fs, S1, rfl, hs, st1, e1, hn, q⟩
 · subst ex
   obtain rfl : u = Value.ref p := rx
   obtain ⟨dx, vs, h2, h3⟩ := zgs hc st1 hs
   refine vF I1 h2 hc.cl hm (zn9 h3 hn) ?_
   refine PySem.W.callWith_K (first := [.ref p]) (h₀ := X.base) I.ok.mod.kin hm.kp (thn (PA.nox ha pos pins s1 σ H1 (fun vs H2 => lSpX X.K X.mg sp (.ref p :: vs) H2 Q (fun c _ H => W c σ H)) I1 ⟨ρ, S1, _, env.ext e1, st1, q, fun ds S2 vs H2 q2 e2 st2 hds => ?_⟩) fun us s2 ⟨vs, H2, I2, r, q2⟩ => ⟨I2.kIn, ?_⟩) hst hpl
   · exact ⟨.ref p :: ds, S2, _, dE rfl hds, st2, q2, fun nm S' H' c q' e' st' hm' => post nm ρ S' σ H' c q' (e1.trans (e2.trans e')) (env.ext (e1.trans (e2.trans e'))) st' hm'⟩
   · exact zod (us := .ref p :: us) (vs := .ref p :: vs) hw F hr hb I2 (.cons rfl r) q2
end
section
open PySem.W PySem.Builtin PySem.Builtin.ObjectAttr PySem.Builtin.Getset_descriptor PySem.Calls
variable {prog : Program} {w : World} {A : Around} {E : Value → Shared → Prop} {s : Shared} {K : W.Frag} {x D : Addr}
end
section
variable {X : Cx} {pins : List (Addr × Obj)} {σ : L2.St} {H : Hp} {s : Shared}
end
section
variable {X : Cx}
end
structure ExcCls (K : W.Frag) (D : Addr) : Prop where
 c : (PySem.W.clsIn K D).isSome = true
 g : W.findIn K (.ref D) "__getattribute__" = some (some (.builtin "BaseException.__getattribute__"))
 n : W.findIn K (.ref D) "__getattr__" = some none
 a : W.findIn K (.ref D) "__class__" = some (some (.builtin "object.__class__"))
 m : PySem.W.mroIn K D (.type "object") = some true
 b : PySem.W.mroIn K D (.type "BaseException") = some true
structure ExcGs (K : W.Frag) : Prop where
 n : PySem.W.specialIn K (.builtin "object.__class__") "__get__" = some (some (.builtin "getset_descriptor.__get__"))
 t : PySem.W.takesIn K (.builtin "object.__class__") = some true
structure IsTab (K : W.Frag) (mg : Str → Option Value) (cu : Value) (tab : List (Str × Bool)) : Prop where
 gs : ExcGs K
 k : ∀ nm b C, tab.lookup nm = some b → mg nm = some (.ref C) → PySem.W.kitOne K (.ref C) cu = some b ∧ ExcCls K C
section
variable {X : Cx}
end
noncomputable def zzu (P : Str → Bool → Prop) : List (Str × Bool) → Prop
 | [] => True
 | p :: r => P p.1 p.2 ∧ zzu P r
theorem zoe {P : Str → Bool → Prop} : ∀ {tab : List (Str × Bool)} {nm : Str} {b : Bool}, zzu P tab → tab.lookup nm = some b → P nm b
 | [], nm, b, _, e => by cases e
 | (x, c) :: r, nm, b, ⟨h1, h2⟩, e => by
   rw [List.lookup_cons] at e
   cases q : nm == x with
   | true =>
     rw [q] at e
     cases e
     rw [beq_iff_eq.mp q]
     exact h1
   | false =>
     rw [q] at e
     exact zoe h2 e
theorem catch_of {K : W.Frag} {mg : Str → Option Value} {y : Str} {c : Value} {tab : List (Str × Bool)} (h : mg y = some c) (t : zzu (fun nm b => ∃ C, mg nm = some (.ref C) ∧ PySem.W.exmOne K (.ref C) c = some b) tab) : Catch K mg y tab :=
 ⟨c, h, fun nm b C hl hm => by
  obtain ⟨C', h1, h2⟩ := zoe t hl
  rw [h1] at hm
  cases hm
  exact h2⟩
noncomputable def xOr (a b : WX) : WX := fun ρ S E => a ρ S E ∨ b ρ S E
section
variable {X : Cx} {m : Bool}
theorem zmg {sts : List Stmt} {a b : WX} (ha : DXs m X sts a) (hb : DXs m X sts b) : DXs m X sts (xOr a b) := fun W hw pins s σ H D I ⟨ρ, S, E, env, st, hx, post⟩ =>
 hx.elim (fun h => ha W hw pins s σ H D I ⟨ρ, S, E, env, st, h, post⟩) fun h => hb W hw pins s σ H D I ⟨ρ, S, E, env, st, h, post⟩
theorem zcw {sts : List Stmt} : DXs m X sts xNo := fun W hw pins s σ H D I ⟨ρ, S, E, env, st, hx, post⟩ => hx.elim
end
@[simp ↓] theorem zacr {sp : DsX} {t : WA} {ρ : Ev} {S : aN} {E : XQ} : oE sp t ρ S E = t ρ S (fun ds S1 => sp ds S1 fun nm S2 => E nm ρ S2) := id rfl
@[simp ↓] theorem zadv {a : WS} {b : WX} {ρ : Ev} {S : aN} {E : XQ} : uL a b ρ S E = a { nx := fun ρ1 S1 => b ρ1 S1 E, rt := fun _ _ => False } ρ S := id rfl
@[simp ↓] theorem zae6 {c : WT} {a b : WX} {ρ : Ev} {S : aN} {E : XQ} : xIf c a b ρ S E = c ρ S (fun t S1 => if t = true then a ρ S1 E else b ρ S1 E) := id rfl
@[simp ↓] theorem zae7 {ρ : Ev} {S : aN} {E : XQ} : xNo ρ S E = False := id rfl
@[simp ↓] theorem zaak {nm : Str} {ρ : Ev} {S : aN} {E : XQ} : sH nm ρ S E = E nm ρ S := id rfl
@[simp ↓] theorem zae8 {a b : WX} {ρ : Ev} {S : aN} {E : XQ} : xOr a b ρ S E = (a ρ S E ∨ b ρ S E) := id rfl
@[simp ↓] theorem zacs {m : Str} {sp : DsX} {o : WE} {t : WA} {ρ : Ev} {S : aN} {E : XQ} : ztj m sp o t ρ S E = o ρ S (fun d S1 => vT S1 d fun _ fs => fs.lookup m = none ∧ t ρ S1 fun ds S2 => sp (d :: ds) S2 fun nm S3 => E nm ρ S3) := id rfl
noncomputable def zmh (rows : List Rw) (t b : cV) (x : Str) : Option Str := match mU t rows with
 | some k => if (rows[k]?.any fun r => decide (r.bhd = b ∧ r.sg = x)) = true then none else some "Clash"
 | none => match bix rows b with
   | none => some "NotYet"
   | some _ => if lat t.1 t.2 b.1 b.2 = true then none else some "Backwards"
noncomputable def zmi (rows : List Rw) (t : cV) : Option Str := match mU t rows with
 | some _ => none
 | none => some "NotYet"
noncomputable def ztl (rows : List Rw) : Slip → Option Str
 | .put t b x => zmh rows t b x
 | .cut t => zmi rows t
noncomputable def eB : DsX := fun ds S E => ∃ (rows : List Rw) (c h : Int), ds = [.lst (rows.map bC), .tup [.int c, .int h]] ∧ mU (c, h) rows = none ∧ E "NotYet" S
noncomputable def eM : DsX := fun ds S E => ∃ (rows : List Rw) (c h : Int), ds = [.lst (rows.map bC), .tup [.int c, .int h]] ∧ bix rows (c, h) = none ∧ E "NotYet" S
noncomputable def gZ : DsX := fun ds S E => ∃ (rows : List Rw) (c h c' h' : Int) (x nm : Str), ds = [.lst (rows.map bC), .tup [.int c, .int h], .tup [.int c', .int h'], .str x] ∧ okS rows ∧ PyData.strOk x = true ∧ zmh rows (c, h) (c', h') x = some nm ∧ E nm S
noncomputable def hG : DsX := fun ds S E => ∃ (rows : List Rw) (c h : Int), ds = [.lst (rows.map bC), .tup [.int c, .int h]] ∧ mU (c, h) rows = none ∧ E "NotYet" S
noncomputable def nC : DsX := fun ds S E => ∃ (rows : List Rw) (s : Slip) (nm : Str), ds = [.lst (rows.map bC), aJ s] ∧ okS rows ∧ okSl s ∧ ztl rows s = some nm ∧ E nm S
noncomputable def iQ : DsX := fun ds S E => ∃ (a : Addr) (n : Int) (rows : List Rw) (ss : List Slip) (s : Slip) (nm : Str), ds = [.ref a, aJ s] ∧ S a = some (.ins (bY n rows ss)) ∧ Okh rows ss ∧ okSl s ∧ s ∉ ss ∧ ztl rows s = some nm ∧ E nm S
theorem zg1 : ∀ ds S E, eB ds S E → ds.length = 2 := by rintro _ S E ⟨_, _, _, rfl, _⟩; rfl
theorem zJ : ∀ ds S E, eM ds S E → ds.length = 2 := by rintro _ S E ⟨_, _, _, rfl, _⟩; rfl
theorem zg2 : ∀ ds S E, gZ ds S E → ds.length = 4 := by rintro _ S E ⟨_, _, _, _, _, _, _, rfl, _⟩; rfl
theorem zg3 : ∀ ds S E, hG ds S E → ds.length = 2 := by rintro _ S E ⟨_, _, _, rfl, _⟩; rfl
theorem zp2 : ∀ ds S E, nC ds S E → ds.length = 2 := by rintro _ S E ⟨_, _, _, rfl, _⟩; rfl
theorem zdx : ∀ ds S E, iQ ds S E → ds.length = 2 := by rintro _ S E ⟨_, _, _, _, _, _, rfl, _⟩; rfl
noncomputable def sI : WX :=
 (uL (cI 2 (bE bK (aE (aD 0) (aE (aD 1) aO))))
 (xIf (bN oIs (aD 2) (wC .non))
 (sH "NotYet")
 xNo))
theorem zdy {ρ : Ev} {S : aN} {E : XQ} : sI ρ S E =
 (uL (cI 2 (bE bK (aE (aD 0) (aE (aD 1) aO))))
 (xIf (bN oIs (aD 2) (wC .non))
 (sH "NotYet")
 xNo)) ρ S E := id rfl
noncomputable def sJ : WX :=
 (oE eB (aE (aD 0) (aE (aD 1) aO)))
theorem zdz {ρ : Ev} {S : aN} {E : XQ} : sJ ρ S E =
 (oE eB (aE (aD 0) (aE (aD 1) aO))) ρ S E := id rfl
noncomputable def mH : WX :=
 (uL (eO (bN iL (aD 1) (wC dS))
 (bA (wC (.int 0)))
 aY)
 (oE eB (aE (aD 0) (aE (aD 1) aO))))
theorem xM {ρ : Ev} {S : aN} {E : XQ} : mH ρ S E =
 (uL (eO (bN iL (aD 1) (wC dS))
 (bA (wC (.int 0)))
 aY)
 (oE eB (aE (aD 0) (aE (aD 1) aO)))) ρ S E := id rfl
noncomputable def sK : WX :=
 (uL (cI 4 (bE bK (aE (aD 0) (aE (aD 1) aO))))
 (xOr (xIf (bN oW (aD 4) (wC .non))
 (xIf (yM (bN pH (aU bI (aU bI (aD 0) (aD 4)) (wC (.int 1))) (aD 2)) (bN pH (aU bI (aU bI (aD 0) (aD 4)) (wC (.int 2))) (aD 3)))
 (sH "Clash")
 xNo)
 xNo)
 (uL (eO (bN oW (aD 4) (wC .non))
 (aS (eO (yM (bN pH (aU bI (aU bI (aD 0) (aD 4)) (wC (.int 1))) (aD 2)) (bN pH (aU bI (aU bI (aD 0) (aD 4)) (wC (.int 2))) (aD 3)))
 wNo
 aY)
 (bA (kZ rK (aE (aD 0) aO))))
 aY)
 (xOr (oE eM (aE (aD 0) (aE (aD 2) aO)))
 (uL (cI 5 (bE dH (aE (aD 0) (aE (aD 2) aO))))
 (xIf (eN (bZ (bE fS (aE (aD 1) (aE (aD 2) aO)))))
 (sH "Backwards")
 xNo))))))
theorem zd0 {ρ : Ev} {S : aN} {E : XQ} : sK ρ S E =
 (uL (cI 4 (bE bK (aE (aD 0) (aE (aD 1) aO))))
 (xOr (xIf (bN oW (aD 4) (wC .non))
 (xIf (yM (bN pH (aU bI (aU bI (aD 0) (aD 4)) (wC (.int 1))) (aD 2)) (bN pH (aU bI (aU bI (aD 0) (aD 4)) (wC (.int 2))) (aD 3)))
 (sH "Clash")
 xNo)
 xNo)
 (uL (eO (bN oW (aD 4) (wC .non))
 (aS (eO (yM (bN pH (aU bI (aU bI (aD 0) (aD 4)) (wC (.int 1))) (aD 2)) (bN pH (aU bI (aU bI (aD 0) (aD 4)) (wC (.int 2))) (aD 3)))
 wNo
 aY)
 (bA (kZ rK (aE (aD 0) aO))))
 aY)
 (xOr (oE eM (aE (aD 0) (aE (aD 2) aO)))
 (uL (cI 5 (bE dH (aE (aD 0) (aE (aD 2) aO))))
 (xIf (eN (bZ (bE fS (aE (aD 1) (aE (aD 2) aO)))))
 (sH "Backwards")
 xNo)))))) ρ S E := id rfl
noncomputable def zcx : WX :=
 (xOr (xIf (bN iL (aU bI (aD 1) (wC (.int 0))) (wC (.str "put")))
 (oE gZ (aE (aD 0) (aE (aU bI (aD 1) (wC (.int 1))) (aE (aU bI (aD 1) (wC (.int 2))) (aE (aU bI (aD 1) (wC (.int 3))) aO)))))
 xNo)
 (uL (eO (bN iL (aU bI (aD 1) (wC (.int 0))) (wC (.str "put")))
 (bA (bE fW (aE (aD 0) (aE (aU bI (aD 1) (wC (.int 1))) (aE (aU bI (aD 1) (wC (.int 2))) (aE (aU bI (aD 1) (wC (.int 3))) aO))))))
 aY)
 (oE hG (aE (aD 0) (aE (aU bI (aD 1) (wC (.int 1))) aO)))))
theorem zcy {ρ : Ev} {S : aN} {E : XQ} : zcx ρ S E =
 (xOr (xIf (bN iL (aU bI (aD 1) (wC (.int 0))) (wC (.str "put")))
 (oE gZ (aE (aD 0) (aE (aU bI (aD 1) (wC (.int 1))) (aE (aU bI (aD 1) (wC (.int 2))) (aE (aU bI (aD 1) (wC (.int 3))) aO)))))
 xNo)
 (uL (eO (bN iL (aU bI (aD 1) (wC (.int 0))) (wC (.str "put")))
 (bA (bE fW (aE (aD 0) (aE (aU bI (aD 1) (wC (.int 1))) (aE (aU bI (aD 1) (wC (.int 2))) (aE (aU bI (aD 1) (wC (.int 3))) aO))))))
 aY)
 (oE hG (aE (aD 0) (aE (aU bI (aD 1) (wC (.int 1))) aO))))) ρ S E := id rfl
noncomputable def qS : WX :=
 (uL (eO (bN oIn (aD 1) (pN "slips" (aD 0)))
 (bA (wC (.bl false)))
 aY)
 (oE nC (aE (pN "rows" (aD 0)) (aE (aD 1) aO))))
theorem zcz {ρ : Ev} {S : aN} {E : XQ} : qS ρ S E =
 (uL (eO (bN oIn (aD 1) (pN "slips" (aD 0)))
 (bA (wC (.bl false)))
 aY)
 (oE nC (aE (pN "rows" (aD 0)) (aE (aD 1) aO)))) ρ S E := id rfl
theorem zg4 : ∀ ds S E, eB ds S E → sI (cK 3 ds) S fun nm _ S' => E nm S' := by
 rintro _ S E ⟨rows, c, h, rfl, f, q⟩
 simp [zdy, cK, f, ixD]
 exact q
theorem zg5 : ∀ ds S E, hG ds S E → sJ (cK 4 ds) S fun nm _ S' => E nm S' := by
 rintro _ S E ⟨rows, c, h, rfl, f, q⟩
 simp [zdz, cK]
 exact ⟨rows, c, h, rfl, f, q⟩
theorem zK : ∀ ds S E, eM ds S E → mH (cK 2 ds) S fun nm _ S' => E nm S' := by
 rintro _ S E ⟨rows, c, h, rfl, f, q⟩
 unfold bix at f
 split at f
 · cases f
 · rename_i e
   have e' : ¬ (c = 0 ∧ h = 0) := fun ⟨a, b⟩ => e (by rw [a, b])
   have f' : mU (c, h) rows = none := by
    cases g : mU (c, h) rows with
    | none => rfl
    | some j => rw [g] at f; cases f
   simp [xM, cK, dS, e']
   exact ⟨rows, c, h, rfl, f', q⟩
theorem zg6 : ∀ ds S E, gZ ds S E → sK (cK 7 ds) S fun nm _ S' => E nm S' := by
 rintro _ S E ⟨rows, c, h, c', h', x, nm, rfl, ok, okx, f, q⟩
 simp [zd0, cK]
 unfold zmh at f
 cases g : mU (c, h) rows with
 | some k =>
   rw [g] at f
   have hk := zb5 g
   have ex := zgc hk
   dsimp only at f
   rw [List.getElem?_eq_getElem hk] at f
   split at f
   · cases f
   · rename_i hne
     cases f
     have on := zgd (S := S) (ok _ (List.getElem_mem hk)) okx
     left
     simp [ixD, ex, bC, on]
     simp [Rw.bhd] at hne
     by_cases e1 : rows[k].bc = c' ∧ rows[k].bh = h'
     · have e2 := hne e1.1 e1.2
       simp [e1.1, e1.2, e2]
       exact q
     · have z : ¬rows[k].bc = c' ∨ ¬rows[k].bh = h' := by
        by_cases z : rows[k].bc = c'
        · exact Or.inr fun y => e1 ⟨z, y⟩
        · exact Or.inl z
       rw [if_pos z]
       exact q
 | none =>
   rw [g] at f
   dsimp only at f
   right
   cases b : bix rows (c', h') with
   | none =>
     rw [b] at f
     cases f
     simp [ixD]
     left
     exact ⟨rows, c', h', rfl, b, q⟩
   | some s =>
     rw [b] at f
     dsimp only at f
     split at f
     · cases f
     · rename_i hlat
       cases f
       simp [ixD]
       right
       refine ⟨rows, c', h', s, rfl, b, ?_⟩
       exact ⟨by simpa using hlat, q⟩
theorem zp3 : ∀ ds S E, nC ds S E → zcx (cK 2 ds) S fun nm _ S' => E nm S' := by
 rintro _ S E ⟨rows, s, nm, rfl, ok, oks, f, q⟩
 cases s with
 | put t b x =>
   obtain ⟨t1, t2⟩ := t
   obtain ⟨b1, b2⟩ := b
   have ep := eV (S := S) oZ oZ
   simp [zcy, cK, aJ, ep]
   exact Or.inl ⟨rows, t1, t2, b1, b2, x, nm, rfl, ok, oks, f, q⟩
 | cut t =>
   obtain ⟨t1, t2⟩ := t
   have ep := eV (S := S) sA oZ
   have f' : mU (t1, t2) rows = none ∧ nm = "NotYet" := by
    have f2 : zmi rows (t1, t2) = some nm := f
    unfold zmi at f2
    split at f2
    · cases f2
    · rename_i g; cases f2; exact ⟨g, rfl⟩
   obtain ⟨f1, rfl⟩ := f'
   simp [zcy, cK, aJ, ep, zb6]
   exact ⟨rows, t1, t2, rfl, f1, q⟩
theorem zd1 : ∀ ds S E, iQ ds S E → qS (cK 2 ds) S fun nm _ S' => E nm S' := by
 rintro _ S E ⟨a, n, rows, ss, s, nm, rfl, hS, oh, oks, hm, f, q⟩
 have ein : ∀ S : aN, oIn S (aJ s) (.lst (ss.map aJ)) = some (decide (s ∈ ss)) := fun S => zG oks oh.oks
 simp [zcz, cK, cM hS, ein, hm]
 exact ⟨rows, s, nm, rfl, oh.ok, oks, f, q⟩
noncomputable def zjm (lo : Int) (n : Nat) : List V := (List.range n).map fun (i : Nat) => V.int (lo + (i : Int))
noncomputable def zd2 (lo : Int) (n : Nat) : List Dv := (List.range n).map fun (i : Nat) => Dv.int (lo + (i : Int))
theorem sL (lo : Int) (n : Nat) : (zjm lo n).length = n := by unfold zjm; simp
theorem ztm {lo : Int} {n i : Nat} (h : i < n) : (zjm lo n)[i]? = some (V.int (lo + i)) := by unfold zjm; simp [h]
theorem zjn {K : W.Frag} {H : Hp} (lo : Int) (n : Nat) : bM K H (zd2 lo n) (zjm lo n) := by
 unfold zd2 zjm
 induction List.range n with
 | nil => exact dR
 | cons c cs ih => exact dE (show gN K H (.int (lo + (c : Int))) (.int (lo + (c : Int))) from rfl) ih
noncomputable abbrev WRg := Ev → aN → (Int → Nat → aN → Prop) → Prop
inductive lI (K : W.Frag) (w : WRg) (σ : L2.St) (H : Hp) (R : It → Hp → Prop) : Prop
 | mk (ρ : Ev) (S : aN) (Q' : Int → Nat → aN → Prop) (env : EnvOk K H ρ σ) (st : cG K H S) (hw : w ρ S Q') (post : ∀ lo n S' H', Q' lo n S' → Ext H H' → cG K H' S' → R (Itr lo n) H') : lI K w σ H R
noncomputable abbrev DR (X : Cx) (tg iter : Expr) (w : WRg) : Prop := PI X tg iter (lI X.K w)
noncomputable def wR1 (t : WA) : WRg := fun ρ S Q => t ρ S fun l S1 => zrm l fun j => Q 0 j.toNat S1
noncomputable def wR2 (t : WA) : WRg := fun ρ S Q => t ρ S fun l S1 => zvs l fun lo j => Q lo (j - lo).toNat S1
theorem dr_1 {X : Cx} {tg a : Expr} {t : WA} {p pos : Pos} (hm : X.mg "range" = none) (ha : DA X [a] t) (hg : Gl X "range" := by rfl) (hst : starEach [a] X.env = [(false, eval a X.env)] := by rfl) : DR X tg (.Call (.Name "range" p) [a] [] pos) (wR1 t) :=
 fun pins s σ H R I ⟨ρ, S, Q', env, st, hw, post⟩ => zek hg hm ha hst pins s σ H R I ⟨ρ, S, _, env, st, hw, fun ds S1 vs H1 q e st1 hd => by
  obtain ⟨j, rfl, ⟨h1, h2⟩, q⟩ := zii q
  rw [zbx hd]
  exact ⟨j, rfl, h1, h2, post 0 j.toNat S1 H1 q e st1⟩⟩
theorem dr_2 {X : Cx} {tg a c : Expr} {t : WA} {p pos : Pos} (hm : X.mg "range" = none) (ha : DA X [a, c] t) (hg : Gl X "range" := by rfl) (hst : starEach [a, c] X.env = [(false, eval a X.env), (false, eval c X.env)] := by rfl) (hst2 : starEach [c] X.env = [(false, eval c X.env)] := by rfl) :
 DR X tg (.Call (.Name "range" p) [a, c] [] pos) (wR2 t) :=
 fun pins s σ H R I ⟨ρ, S, Q', env, st, hw, post⟩ => zow hg hm ha hst hst2 pins s σ H R I ⟨ρ, S, _, env, st, hw, fun ds S1 vs H1 q e st1 hd => by
  obtain ⟨lo, j, rfl, h1, q⟩ := zrn q
  rw [zrp hd]
  exact ⟨lo, j, rfl, h1, post lo (j - lo).toNat S1 H1 q e st1⟩⟩
noncomputable def qT (is : List Nat) (src : WRg) (wt : WT) (we : WE) : WE := fun ρ S Q => src ρ S fun lo n S1 => n ≤ 1000 ∧ goL (evs? ρ is) fun dys => cmpL (yE dys wt) (wS dys we) (zd2 lo n) S1 [] fun zs S2 => Q (.lst zs) S2
section
variable {X : Cx} {elt iter : Expr} {x : Str} {is : List Nat} {fy : List Str} {px pos : Pos} {ifs : List Expr} {sc : Scope} {src : WRg} {wt : WT} {we : WE}
theorem zmj {cl : List (Str × Addr)} {vys : List V} {dys : List Dv} {C D it : Addr} {lo : Int} {nn : Nat} {fp : List Addr} {tn : Nat → Heap → Prop} {s2 : Shared} {H2 : Hp} {vs : List V} {ds : List Dv} {R : Result → Shared → Prop} {Qf : List Dv → aN → Prop}
 (ht : ∀ cl C s H fp, iT (jT X sc x fy cl C s H fp) ifs wt) (he : ∀ cl C s H fp, DE (jT X sc x fy cl C s H fp) elt we) (hx : (relabel sc X.env).names.lookup x = some .local) (hdy : bM X.K H2 dys vys) (hnd : (x :: fy).Nodup) (hcalm : X.calm = true)
 (T : Turn X.prog X.w X.K (.Name x px) (Itr lo nn) fp it tn) (hfD : ∀ H', H' D = none → jV (jT X sc x fy cl C s2 H2 fp) [] H' D) (hff : ∀ H', (∀ b ∈ fp, H' b = none) → ∀ b ∈ fp, jV (jT X sc x fy cl C s2 H2 fp) [] H' b) (hDf : D ∉ fp)
 (hvs : vs = zjm lo nn) (hv : bM X.K H2 ds vs) (hz : vs.length ≤ sizeLine)
 (fin : ∀ (acc : List Dv) (us : List Value) (ys : List V) (σ' : L2.St) (H' : Hp) (S' : aN) (s' : Shared), Inv (jT X sc x fy cl C s2 H2 fp) [] σ' H' s' → H' D = none → iC s'.heap D us → bU ys us → ys.length ≤ sizeLine → bM X.K H' acc ys → cG X.K H' S' → Ext H2 H' → Qf acc S' → R (.ok .next) s') :
 ∀ (i : Nat) (acc : List Dv) (us : List Value) (ys : List V) (σ' : L2.St) (H' : Hp) (S' : aN) (s' : Shared), i ≤ vs.length → Inv (jT X sc x fy cl C s2 H2 fp) [] σ' H' s' → σ'.tail = vys.map some → tn i s'.heap → (∀ b ∈ fp, H' b = none) → H' D = none → iC s'.heap D us → bU ys us → ys.length ≤ i → bM X.K H' acc ys → cG X.K H' S' → Ext H2 H' →
   cmpL (yE dys wt) (wS dys we) (ds.drop i) S' acc Qf → codeAny (model X.prog X.w) X.A (.compLoop (.ListComp elt [⟨.Name x px, iter, ifs, 0⟩] sc pos) 0 (.ref it) (.ref D) (jT X sc x fy cl C s2 H2 fp).env) R s' := by
 intro i₀ acc₀ us₀ ys₀ σ₀ H₀ S₀ s₀ hi₀ I₀ y₀ t₀ f₀ d₀ a₀ v₀ l₀ e₀ st₀ x₀ c₀
 refine codeAny_compLoop_tests (fun n s' => ∃ (i : Nat) (acc : List Dv) (us : List Value) (ys : List V) (σ' : L2.St) (H' : Hp) (S' : aN), n = vs.length - i ∧ i ≤ vs.length ∧ Inv (jT X sc x fy cl C s2 H2 fp) [] σ' H' s' ∧ σ'.tail = vys.map some ∧ tn i s'.heap ∧ (∀ b ∈ fp, H' b = none) ∧ H' D = none ∧ iC s'.heap D us ∧ bU ys us ∧ ys.length ≤ i ∧ bM X.K H' acc ys ∧ cG X.K H' S' ∧ Ext H2 H' ∧ cmpL (yE dys wt) (wS dys we) (ds.drop i) S' acc Qf)
  ?_ (vs.length - i₀) ⟨i₀, acc₀, us₀, ys₀, σ₀, H₀, S₀, rfl, hi₀, I₀, y₀, t₀, f₀, d₀, a₀, v₀, l₀, e₀, st₀, x₀, c₀⟩
 rintro n s3 ⟨i, acc, us, ys, σ', H', S', rfl, hi, I3, y3, t3, f3, d3, ⟨k, a3⟩, v3, l3, e3, st3, x3, c3⟩
 have notc : ∀ v, ({ cls := .type "list", data := .seq us.toArray k } : Obj).data ≠ .cell v := fun v z => by
  have z' : Data.seq us.toArray k = Data.cell v := z
  cases z'
 have I3d := Inv.pin1 I3 (hfD H' d3) a3 notc
 have hl := bX hv
 by_cases hlt : i < vs.length
 · have hvi : vs[i]? = some vs[i] := by simp [hlt]
   obtain ⟨dx, hdx, ddx⟩ := mY hv hvi
   rw [iX hdx] at c3
   have ffp : ∀ b ∈ fp, jV (jT X sc x fy cl C s2 H2 fp) ([] ++ [(D, { cls := .type "list", data := .seq us.toArray k })]) H' b := fun b hb => by
    obtain ⟨g0, g1, g2, g3, g4, g5⟩ := hff H' f3 b hb
    refine ⟨g0, g1, g2, g3, g4, fun p hp z => ?_⟩
    have hp' : p ∈ ([(D, { cls := .type "list", data := .seq us.toArray k })] : List (Addr × Obj)) := hp
    cases List.mem_singleton.mp hp'
    exact hDf (by rw [show D = b from z]; exact hb)
   refine thn (T.item (jT X sc x fy cl C s2 H2 fp) rfl rfl rfl hcalm i _ s3 σ' H' _ I3d ffp t3 (show i < nn by rw [← sL lo nn, ← hvs]; exact hlt)) fun r s4 ⟨u, er, h4⟩ => ?_
   subst er
   show wpAny _ _ (letOwnedTupleGo (.Name x px) (.ref it) u >>= fun _ => assign (.Name x px) (jT X sc x fy cl C s2 H2 fp).env u) _ _ s4
   refine wpAny_bind (thn h4 fun _ s5 ⟨xv, H5, I5, r5, ⟨eH, y5⟩, t5, f5⟩ => ?_)
   subst eH
   have exv : xv = vs[i] := by
    have z : vs[i]? = some (V.int (lo + i)) := by rw [hvs]; exact ztm (by rw [← sL lo nn, ← hvs]; exact hlt)
    rw [hvi] at z
    rw [y5]
    exact (Option.some.inj z).symm
   subst exv
   have I5p := I5.pinned (fp := fp) ffp (T.obj _ _ t5)
   refine thx (mQ (X := jT X sc x fy cl C s2 H2 fp) (i := 0) (x := x) (pos := px) hnd rfl (Or.inl hx) (Or.inr hx) _ s5 σ' H5 _ u (fun σ6 H6 => σ6 = σ'.set 0 (some vs[i]) ∧ H6 = H5) I5p r5 ⟨rfl, rfl⟩) fun _ s6 ⟨σ6, H6, I6, eσ, eH⟩ => ?_
   subst eσ eH
   obtain ⟨s0', hs0'⟩ : ∃ a, σ' = a :: vys.map some := by
    have hσ : σ'.length = (x :: fy).length := I3.len
    cases σ' with
    | nil => simp at hσ
    | cons a r => exact ⟨a, by rw [← y3]; rfl⟩
   have env6 : EnvOk X.K H6 (some dx :: dys.map some) (σ'.set 0 (some vs[i])) := by
    rw [hs0']
    refine ⟨by simp [bX hdy], fun j e q => ?_⟩
    cases j with
    | zero =>
      have q' : dx = e := Option.some.inj (Option.some.inj q)
      subst q'
      exact ⟨vs[i], rfl, dJ x3 _ _ ddx⟩
    | succ j =>
      have q' : dys[j]? = some e := by simpa using q
      obtain ⟨v, h1, h2⟩ := nF (cA x3 _ _ hdy) q'
      exact ⟨v, by simp [h1], h2⟩
   have y6 : (σ'.set 0 (some vs[i])).tail = vys.map some := by rw [hs0']; rfl
   have again : ∀ (acc' : List Dv) (us' : List Value) (ys' : List V) (σ7 : L2.St) (H7 : Hp) (S7 : aN) (s7 : Shared) (pl : List (Addr × Obj)), Inv (jT X sc x fy cl C s2 H2 fp) pl σ7 H7 s7 → σ7.tail = vys.map some → (∀ b ∈ fp, ∀ o, s5.heap.get? b = some o → s7.heap.get? b = some o) → (∀ b ∈ fp, H7 b = none) → H7 D = none → iC s7.heap D us' → bU ys' us' → ys'.length ≤ i + 1 → bM X.K H7 acc' ys' → cG X.K H7 S7 → Ext H2 H7 →
    cmpL (yE dys wt) (wS dys we) (ds.drop (i + 1)) S7 acc' Qf → ∃ m, m < vs.length - i ∧ ∃ (i : Nat) (acc : List Dv) (us : List Value) (ys : List V) (σ' : L2.St) (H' : Hp) (S' : aN), m = vs.length - i ∧ i ≤ vs.length ∧ Inv (jT X sc x fy cl C s2 H2 fp) [] σ' H' s7 ∧ σ'.tail = vys.map some ∧ tn i s7.heap ∧ (∀ b ∈ fp, H' b = none) ∧ H' D = none ∧ iC s7.heap D us ∧ bU ys us ∧ ys.length ≤ i ∧ bM X.K H' acc ys ∧ cG X.K H' S' ∧ Ext H2 H' ∧ cmpL (yE dys wt) (wS dys we) (ds.drop i) S' acc Qf :=
    fun acc' us' ys' σ7 H7 S7 s7 pl I7 y7 k7 f7 d7 a7 v7 l7 e7 st7 x7 c7 => ⟨vs.length - (i + 1), by omega, i + 1, acc', us', ys', σ7, H7, S7, rfl, hlt, I7.pins_of (fun p hp => by cases hp), y7, T.keep _ _ _ t5 fun b hb o e => k7 b hb o e, f7, d7, a7, v7, l7, e7, st7, x7, c7⟩
   have pinD : ∀ {σ7 : L2.St} {H7 : Hp} {s7 : Shared}, L2.Inv (jT X sc x fy cl C s2 H2 fp) (([] ++ [(D, { cls := .type "list", data := .seq us.toArray k })]) ++ oR fp s5.heap) σ7 H7 s7 → s7.heap.get? D = some { cls := .type "list", data := .seq us.toArray k } ∧ H7 D = none := fun {σ7 H7 s7} J =>
    let z := J.pin (D, { cls := .type "list", data := .seq us.toArray k }) (List.mem_append_right _ (List.mem_append_left _ (List.mem_append_right _ (List.mem_singleton.mpr rfl))))
    ⟨z.1, z.2.1⟩
   have pinF : ∀ {σ7 : L2.St} {H7 : Hp} {s7 : Shared}, L2.Inv (jT X sc x fy cl C s2 H2 fp) (([] ++ [(D, { cls := .type "list", data := .seq us.toArray k })]) ++ oR fp s5.heap) σ7 H7 s7 → (∀ b ∈ fp, ∀ o, s5.heap.get? b = some o → s7.heap.get? b = some o) ∧ ∀ b ∈ fp, H7 b = none := fun {σ7 H7 s7} J =>
    ⟨fun b hb o e => (J.pin (b, o) (List.mem_append_right _ (List.mem_append_right _ (gM hb e)))).1, fun b hb => by
     obtain ⟨o, e, _⟩ := T.obj _ _ t5 b hb
     exact (J.pin (b, o) (List.mem_append_right _ (List.mem_append_right _ (gM hb e)))).2.1⟩
   refine thx (ht cl C s2 H2 fp _ s6 _ H6 (fun b H7 => ∃ S7, cG X.K H7 S7 ∧ Ext H6 H7 ∧ if b = true then wS dys we [some dx] S7 fun y S8 => cmpL (yE dys wt) (wS dys we) (ds.drop (i + 1)) S8 (acc ++ [y]) Qf else cmpL (yE dys wt) (wS dys we) (ds.drop (i + 1)) S7 acc Qf) I6 ⟨some dx :: dys.map some, S', _, env6, st3, c3, fun b S7 H7 q7 x7 st7 => ⟨S7, st7, x7, q7⟩⟩) fun b s7 ⟨H7, I7, S7, st7, x7, q7⟩ => ?_
   cases b with
   | false =>
     exact again acc us ys _ H7 S7 s7 _ I7 y6 (pinF I7).1 (pinF I7).2 (pinD I7).2 ⟨k, (pinD I7).1⟩ v3 (Nat.le_succ_of_le l3) (cA x7 _ _ e3) st7 (x3.trans x7) q7
   | true =>
     refine thx (he cl C s2 H2 fp _ s7 _ H7 (fun v H8 => ∃ y S8, cG X.K H8 S8 ∧ Ext H7 H8 ∧ gN X.K H8 y v ∧ cmpL (yE dys wt) (wS dys we) (ds.drop (i + 1)) S8 (acc ++ [y]) Qf) I7 ⟨some dx :: dys.map some, S7, _, env6.ext x7, st7, q7, fun y S8 v H8 q8 x8 st8 hd8 => ⟨y, S8, st8, x8, hd8, q8⟩⟩) fun u8 s8 ⟨v8, H8, I8, r8, y, S8, st8, x8, hd8, q8⟩ => ?_
     obtain ⟨a8, d8⟩ := pinD I8
     refine call_meets F.slot_list_append ⟨_, a8, rfl⟩ F.entry_list_append (F.args_list_append_2 _ _) (PySem.list_append D us.toArray k u8 (by rw [List.size_toArray, ← v3.length]; omega)) ⟨a8, ?_⟩
     have q := PySem.IsL.update a8 (fun xs => xs.push u8)
     have eu : us.toArray.push u8 = (us ++ [u8]).toArray := by simp
     rw [eu] at q
     obtain ⟨fk, f8⟩ := pinF I8
     have fD := hfD H8 d8
     have I9 : ∀ t', L2.Inv (jT X sc x fy cl C s2 H2 fp) [] (σ'.set 0 (some vs[i])) H8 { s8 with heap := s8.heap.update D (Obj.mapSeq fun xs => xs.push u8), toks := t' } := fun t' =>
      (I8.pins_of (pins' := []) (fun p hp => by cases hp)).turned (it := D) (fun b o hb e => (Heap.get?_update_other s8.heap (Obj.mapSeq fun xs => xs.push u8) (Ne.symm hb)).trans e) d8 fD.2.1 fD.2.2.2.1 fD.2.2.2.2.1 fD.2.2.2.2.2
     refine again (acc ++ [y]) (us ++ [u8]) (ys ++ [v8]) _ H8 S8 _ [] (I9 _) y6 (fun b hb o e => (Heap.get?_update_other s8.heap (Obj.mapSeq fun xs => xs.push u8) (fun z => hDf (by rw [z]; exact hb))).trans (fk b hb o e)) f8 d8 ⟨_, q⟩ (v3.append (.cons r8 .nil)) ?_ (jF (cA (x7.trans x8) _ _ e3) (dE hd8 dR)) st8 (x3.trans (x7.trans x8)) q8
     rw [List.length_append, List.length_singleton]
     exact Nat.succ_le_succ l3
 · have ei : i = vs.length := by omega
   have ffp : ∀ b ∈ fp, jV (jT X sc x fy cl C s2 H2 fp) ([] ++ [(D, { cls := .type "list", data := .seq us.toArray k })]) H' b := fun b hb => by
    obtain ⟨g0, g1, g2, g3, g4, g5⟩ := hff H' f3 b hb
    refine ⟨g0, g1, g2, g3, g4, fun p hp z => ?_⟩
    have hp' : p ∈ ([(D, { cls := .type "list", data := .seq us.toArray k })] : List (Addr × Obj)) := hp
    cases List.mem_singleton.mp hp'
    exact hDf (by rw [show D = b from z]; exact hb)
   refine thn (T.done (jT X sc x fy cl C s2 H2 fp) rfl rfl rfl hcalm i _ s3 σ' H' _ I3d ffp t3 (show nn ≤ i by rw [← sL lo nn, ← hvs]; omega)) fun r s4 ⟨er, I4⟩ => ?_
   subst er
   obtain ⟨a4, d4⟩ := Inv.pinned1 I4
   rw [List.drop_eq_nil_of_le (by omega)] at c3
   exact fin acc us ys σ' H' S' s4 (I4.pins_of (pins' := []) (fun p hp => by cases hp)) d4 ⟨k, a4⟩ v3 (by omega) e3 st3 x3 c3
theorem ze4 {pins : List (Addr × Obj)} {σ : L2.St} {H2 : Hp} {s2 : Shared} {it : Addr} {lo : Int} {nn : Nat} {fp : List Addr} {tn : Nat → Heap → Prop} {vs : List V} {ds : List Dv} {vys : List V} {dys : List Dv} {cl : List (Str × Addr)} {S1 : aN} {Qf : List Dv → aN → Prop} {R : Value → Addr → Result → Shared → Prop} {E : Value → Shared → Prop}
 (ht : ∀ cl C s H fp, iT (jT X sc x fy cl C s H fp) ifs wt) (he : ∀ cl C s H fp, DE (jT X sc x fy cl C s H fp) elt we) (hcell : ∀ y ∈ sc.names, y.2 ≠ .cell) (hkind : sc.kind = .function) (hx : (relabel sc X.env).names.lookup x = some .local) (hnd : (x :: fy).Nodup) (hcalm : X.calm = true)
 (I2 : L2.Inv X pins σ H2 s2) (cok : ClOk X sc fy cl vys s2.heap) (T : Turn X.prog X.w X.K (.Name x px) (Itr lo nn) fp it tn) (t2 : tn 0 s2.heap) (f2 : ∀ b ∈ fp, jV X pins H2 b) (hvs : vs = zjm lo nn) (hz : vs.length ≤ sizeLine) (hv : bM X.K H2 ds vs) (hdy : bM X.K H2 dys vys) (sto : cG X.K H2 S1)
 (hc : cmpL (yE dys wt) (wS dys we) ds S1 [] Qf)
 (fin : ∀ (acc : List Dv) (us : List Value) (zs : List V) (σ' : L2.St) (H' : Hp) (S' : aN) (s' : Shared), Inv (jT X sc x fy cl (s2.heap.objs.size + 1) s2 H2 fp) [] σ' H' s' → H' s2.heap.objs.size = none → iC s'.heap s2.heap.objs.size us → bU zs us → zs.length ≤ sizeLine → bM X.K H' acc zs → cG X.K H' S' → Ext H2 H' → Qf acc S' → R (.ref s2.heap.objs.size) (s2.heap.objs.size + 1) (.ok .next) s') :
 wpAny (model X.prog X.w) X.A (newList []) (fun acc s₃ => wpAny (model X.prog X.w) X.A (newFunctionEnv sc X.env.globals cl [] X.env.qual none .none (some X.env)) (fun cenv s₄ =>
  codeAny (model X.prog X.w) X.A (.compStart (.ListComp elt [⟨.Name x px, iter, ifs, 0⟩] sc pos) 0 (.ref it) acc { cenv with scope := relabel sc X.env }) (R acc cenv.locals) s₄) E s₃) E s2 := by
 refine wpAny_newObj_type (wpAny_newFunctionEnv hcell (by intro y hy; cases hy) (fun h₁ hns hsb => ?_) hkind)
 have hlt : ∀ b ∈ fp, b < s2.heap.objs.size := fun b hb => by
  obtain ⟨o, e, _⟩ := T.obj 0 s2.heap t2 b hb
  exact Heap.lt_size e
 have eC : (s2.heap.push { cls := .type "list", data := .seq #[] }).objs.size = s2.heap.objs.size + 1 := Heap.size_push ..
 have keep : ∀ b o, s2.heap.get? b = some o → h₁.get? b = some o := fun b o e => by
  have z : b ≠ (s2.heap.push { cls := .type "list", data := .seq #[] }).objs.size := by
   rw [eC]; exact Nat.ne_of_lt (Nat.lt_succ_of_lt (Heap.lt_size e))
  exact (hsb.2 b z).trans (Heap.get?_push_of_some _ (Heap.get?_push_of_some _ e))
 have acc0 : iC h₁ s2.heap.objs.size [] := by
  have z : s2.heap.objs.size ≠ (s2.heap.push { cls := .type "list", data := .seq #[] }).objs.size := by
   rw [eC]; exact Nat.ne_of_lt (Nat.lt_succ_self _)
  exact ⟨_, (hsb.2 _ z).trans (Heap.get?_push_of_some _ (Heap.get?_push_size _ rfl))⟩
 have hns' : h₁.Ns (s2.heap.objs.size + 1) fun x => List.lookup x ([] : List (Str × Value)).reverse := by
  have q := hns
  dsimp only at q
  rw [eC] at q
  exact q
 have I4 : ∀ t, L2.Inv (jT X sc x fy cl (s2.heap.objs.size + 1) s2 H2 fp) [] (none :: vys.map some) H2 { s2 with heap := h₁, toks := t } := fun t => ze0 I2 cok (Nat.le_succ _) keep hns' hkind f2 hlt
 have zpg : ∀ y c, cl.lookup y = some c → c < s2.heap.objs.size := fun y c e => by
  obtain ⟨v, o, e, _⟩ := I2.cell y c (cok.sub y c e)
  exact Heap.lt_size e
 have loop : ∀ t, codeAny (model X.prog X.w) X.A (.compLoop (.ListComp elt [⟨.Name x px, iter, ifs, 0⟩] sc pos) 0 (.ref it) (.ref s2.heap.objs.size) (jT X sc x fy cl (s2.heap.objs.size + 1) s2 H2 fp).env)
  (R (.ref s2.heap.objs.size) (s2.heap.objs.size + 1)) { s2 with heap := h₁, toks := t } := fun t => by
  refine zmj (C := s2.heap.objs.size + 1) (D := s2.heap.objs.size) (s2 := s2) (H2 := H2) (vs := vs) (ds := ds) (dys := dys) ht he hx hdy hnd hcalm T ?_ ?_ (fun z => absurd (hlt _ z) (Nat.lt_irrefl _)) hvs hv hz ?_ 0 [] [] [] (none :: vys.map some) H2 S1 _ (Nat.zero_le _) (I4 t) rfl (T.keep 0 s2.heap h₁ t2 fun b hb o e => keep b o e) (fun b hb => (f2 b hb).1) I2.fresh acc0 .nil (Nat.le_refl _) dR sto (Ext.refl _) hc
  · intro H' d
    refine ⟨d, Nat.ne_of_lt (Nat.lt_succ_self _), oX I2 (Nat.ne_of_gt I2.lt) (I2.nofs (Nat.le_refl _)), .inr (Nat.le_refl _), fun y c e => Nat.ne_of_lt (zpg y c e), fun p hp => ?_⟩
    have hp' : p ∈ ([] : List (Addr × Obj)) := hp
    cases hp'
  · intro H' hn b hb
    refine ⟨hn b hb, Nat.ne_of_lt (Nat.lt_succ_of_lt (hlt b hb)), oX I2 (f2 b hb).2.1 (f2 b hb).2.2.1, .inl hb, fun y c e => (f2 b hb).2.2.2.2.1 y c (cok.sub y c e), fun p hp => ?_⟩
    have hp' : p ∈ ([] : List (Addr × Obj)) := hp
    cases hp'
  · exact fin
 have fin := codeAny_compStart_list (loop (s2.toks + ([] : List (Str × Value)).length)) (T.self X.A 0 _ _ _ (T.keep 0 s2.heap h₁ t2 fun b hb o e => keep b o e) (loop _))
 simp only [eC]
 exact fin
theorem de_compRG (fr : Frees X sc is fy) (hi : DR X (.Name x px) iter src) (ht : ∀ cl C s H fp, iT (jT X sc x fy cl C s H fp) ifs wt) (he : ∀ cl C s H fp, DE (jT X sc x fy cl C s H fp) elt we)
 (hcell : ∀ y ∈ sc.names, y.2 ≠ .cell) (hkind : sc.kind = .function) (hnames : ∀ y ∈ sc.names, y.2 = .local → sc.names.lookup y.1 = some .local) (hx : (relabel sc X.env).names.lookup x = some .local) (hnd : (x :: fy).Nodup) (hcalm : X.calm = true)
 (hs : ∀ x, foldedSetIterable iter X.env x = pure x) : DE X (.ListComp elt [⟨.Name x px, iter, ifs, 0⟩] sc pos) (qT is src wt we) := by
 intro pins s σ H Q I ⟨ρ, S, Q', env, st, hw, post⟩
 have hpi := hi pins s σ H (fun J H1 => ∃ lo nn S1, J = Itr lo nn ∧ nn ≤ 1000 ∧ cG X.K H1 S1 ∧ Ext H H1 ∧ goL (evs? ρ is) fun dys => cmpL (yE dys wt) (wS dys we) (zd2 lo nn) S1 [] fun zs S2 => Q' (.lst zs) S2) I
  ⟨ρ, S, _, env, st, hw, fun lo nn S1 H1 q e st1 => ⟨lo, nn, S1, rfl, q.1, st1, e, q.2⟩⟩
 obtain ⟨cl, hclos, sub, has⟩ := zgp I.ok fr
 rw [eval_ListComp]
 refine wpAny_comprehension_free (g := ⟨.Name x px, iter, ifs, 0⟩) (gs := []) rfl hs hclos hkind hnames (thn hpi fun xv s1 h1 => thn h1 fun itv s2 h2 => ?_)
 obtain ⟨it, fp, tn, J, H2, rfl, I2, T, t2, f2, lo, nn, S1, rfl, hnn, sto, ex, hc⟩ := h2
 obtain ⟨dys, hdys, hc⟩ := jY hc
 obtain ⟨vys, hdy, hvy⟩ := zbn (X := X) (env.ext ex) hdys
 have cok := zgq I2 fr sub has (by rw [bX hdy, (zgn hdys).1, fr.len]) hvy
 refine ze4 (R := compPost (model X.prog X.w) X.A X.xe none (EP X pins σ Q)) ht he hcell hkind hx hnd hcalm I2 cok T t2 f2 rfl (by rw [sL]; exact zbv hnn) (zjn lo nn) hdy sto hc fun acc us zs σ' H' S' s' I' d' a' v' z' e' st' x' q' => ?_
 obtain ⟨m, hm, _⟩ := I'.loc
 refine ⟨m, hm, fun h' sb => ?_⟩
 obtain ⟨o, I''⟩ := zD I2 f2 I' (Nat.lt_succ_self _) d' a' v' z' sb
 have sm := fP d' (.frz o (.lst zs))
 exact ⟨.ref s2.heap.objs.size, _, I'', rfl, post (.lst acc) S' (.ref s2.heap.objs.size) _ q' ((ex.trans x').trans (bF sm)) (st'.same sm) ⟨_, o, zs, rfl, bP, cA (bF sm) _ _ e'⟩⟩
theorem ds_setRG {y : Str} {py spos : Pos} {i : Nat} (fr : Frees X sc is fy) (hN : X.N.Nodup) (hi : DR X (.Name x px) iter src) (ht : ∀ cl C s H fp, iT (jT X sc x fy cl C s H fp) ifs wt) (he : ∀ cl C s H fp, DE (jT X sc x fy cl C s H fp) elt we)
 (hcell : ∀ y ∈ sc.names, y.2 ≠ .cell) (hkind : sc.kind = .function) (hnames : ∀ y ∈ sc.names, y.2 = .local → sc.names.lookup y.1 = some .local) (hx : (relabel sc X.env).names.lookup x = some .local) (hnd : (x :: fy).Nodup) (hcalm : X.calm = true)
 (hs : ∀ x, foldedSetIterable iter X.env x = pure x) (hiy : X.N[i]? = some y) (hxy : Loc X.env.scope y) (hsw : swapsWith (.ListComp elt [⟨.Name x px, iter, ifs, 0⟩] sc pos) (some (.Name y py)) spos.line X.env = pure true)
 (hf : X.fn y = true ∨ X.env.scope.names.lookup y = some .local) : DS X (.Assign [.Name y py] (.ListComp elt [⟨.Name x px, iter, ifs, 0⟩] sc pos) spos) (cI i (qT is src wt we)) := by
 intro pins s σ H D I ⟨ρ, S, D', env, st, hw, dn⟩
 rw [exec_Assign_Name_used _ _ _ _ hsw]
 refine wpAny_bind (wpAny_standAt (wpAny_bind ?_))
 show wpAny _ X.A (do let _ ← comprehension (.ListComp elt [⟨.Name x px, iter, ifs, 0⟩] sc pos) sc X.env _ (newList []) false (eval iter X.env) (some (assign (.Name y py) X.env))) _ _ s
 obtain ⟨cl, hclos, sub, has⟩ := zgp I.ok fr
 have hpi := hi pins s σ H (fun J H1 => ∃ lo nn S1, J = Itr lo nn ∧ nn ≤ 1000 ∧ cG X.K H1 S1 ∧ Ext H H1 ∧ goL (evs? ρ is) fun dys => cmpL (yE dys wt) (wS dys we) (zd2 lo nn) S1 [] fun zs S2 => D'.nx (ρ.set i (some (.lst zs))) S2) I
  ⟨ρ, S, _, env, st, hw, fun lo nn S1 H1 q e st1 => ⟨lo, nn, S1, rfl, q.1, st1, e, q.2⟩⟩
 refine wpAny_bind (wpAny_mono (wpAny_comprehension_free (use := some (assign (.Name y py) X.env)) (Q := fun _ s' => SP X pins D .next s') (g := ⟨.Name x px, iter, ifs, 0⟩) (gs := []) rfl hs hclos hkind hnames (thn hpi fun xv s1 h1 => thn h1 fun itv s2 h2 => ?_)) (fun _ s' hq => wpAny_pure (wpAny_pure hq)) fun _ _ e => e)
 obtain ⟨it, fp, tn, J, H2, rfl, I2, T, t2, f2, lo, nn, S1, rfl, hnn, sto, ex, hc⟩ := h2
 obtain ⟨dys, hdys, hc⟩ := jY hc
 obtain ⟨vys, hdy, hvy⟩ := zbn (X := X) (env.ext ex) hdys
 have cok := zgq I2 fr sub has (by rw [bX hdy, (zgn hdys).1, fr.len]) hvy
 refine ze4 (R := compPost (model X.prog X.w) X.A X.xe (some (assign (.Name y py) X.env)) (fun _ s' => SP X pins D .next s')) ht he hcell hkind hx hnd hcalm I2 cok T t2 f2 rfl (by rw [sL]; exact zbv hnn) (zjn lo nn) hdy sto hc fun acc us zs σ' H' S' s' I' d' a' v' z' e' st' x' q' => ?_
 obtain ⟨m, hm, _⟩ := I'.loc
 obtain ⟨o, I''⟩ := zD I2 f2 I' (Nat.lt_succ_self _) d' a' v' z' (Heap.SameBut.refl _ _)
 have sm := fP d' (.frz o (.lst zs))
 have hCn : H' (s2.heap.objs.size + 1) = none := I'.free
 have fC : jV X pins (upd H' s2.heap.objs.size (.frz o (.lst zs))) (s2.heap.objs.size + 1) := I2.fpOk (Nat.le_succ _) (by rw [bD (Nat.succ_ne_self _)]; exact hCn)
 refine wpAny_assign_Name (yG I'' hN hiy hxy (v := .ref s2.heap.objs.size) rfl (fun s'' Iq ⟨b, sba, hb⟩ => ?_) hf)
 have nb : s2.heap.objs.size + 1 ≠ b := fun z => by
  rcases hb with hb | hb
  · exact fC.2.1 (z.trans hb)
  · exact fC.2.2.2.2.1 _ _ hb z.symm
 refine ⟨m, hm.sameBut sba nb, fun h' sb => ⟨_, _, zev Iq fC sb, ?_⟩⟩
 exact dn.nx _ S' _ _ q' ((ex.trans x').trans (bF sm)) ((env.ext ((ex.trans x').trans (bF sm))).set (d := .lst acc) ⟨_, o, zs, rfl, bP, cA (bF sm) _ _ e'⟩) (st'.same sm)
end
theorem ztn {X : Cx} {sc : Scope} (h4 : closureFor sc X.env = pure []) (h5 : ∀ z ∈ sc.names, z.2 ≠ .cell) (h6 : ∀ z ∈ sc.names, z.2 ≠ .free) : Frees X sc [] [] := by
 refine ⟨rfl, fun j i' y' e1 e2 => ?_, fun cs l h => ⟨[], h4, (fun z c e => by simp at e), (fun y hy => by simp at hy)⟩, fun z hz => ?_⟩
 · simp at e1
 · have hm : ∃ k, (z, k) ∈ (relabel sc X.env).names ∧ (k = .cell ∨ k = .free) := by
    rcases hz with e | e
    · exact ⟨.cell, PySem.mem_of_lookup e, .inl rfl⟩
    · exact ⟨.free, PySem.mem_of_lookup e, .inr rfl⟩
   obtain ⟨k, hm, hk⟩ := hm
   obtain ⟨⟨n, k0⟩, hn, e⟩ := List.mem_map.mp hm
   dsimp only at e
   split at e
   · rename_i hc
     cases e
     have hf : k0 = .free := by
      have z1 := (Bool.and_eq_true_iff.mp (Bool.and_eq_true_iff.mp hc).1).1
      simpa using z1
     exact absurd hf (h6 _ hn)
   · cases e
     rcases hk with hk | hk
     · exact absurd hk (h5 _ hn)
     · exact absurd hk (h6 _ hn)
theorem zto {X : Cx} {elt iter : Expr} {x : Str} {px pos : Pos} {sc : Scope} {src : WRg} {we : WE} (hi : DR X (.Name x px) iter src) (he : ∀ cl C s H fp, DE (jT X sc x [] cl C s H fp) elt we)
 (h4 : closureFor sc X.env = pure [] := by first | rfl | simp [closureFor]) (h5 : ∀ z ∈ sc.names, z.2 ≠ .cell := by decide) (h6 : ∀ z ∈ sc.names, z.2 ≠ .free := by decide) (hkind : sc.kind = .function := by rfl) (hnames : ∀ y ∈ sc.names, y.2 = .local → sc.names.lookup y.1 = some .local := by decide) (hx : (relabel sc X.env).names.lookup x = some .local := by rfl) (hcalm : X.calm = true := by rfl)
 (hs : ∀ x, foldedSetIterable iter X.env x = pure x := by intro _; rfl) : DE X (.ListComp elt [⟨.Name x px, iter, [], 0⟩] sc pos) (qT [] src rW we) :=
 de_compRG (ztn h4 h5 h6) hi (fun cl C s H fp => qM) he h5 hkind hnames hx (by simp) hcalm hs
theorem zwx {X : Cx} {elt iter : Expr} {x v : Str} {px py pos spos : Pos} {sc : Scope} {src : WRg} {we : WE} {k : Nat} (hN : X.N.Nodup) (hi : DR X (.Name x px) iter src) (he : ∀ cl C s H fp, DE (jT X sc x [] cl C s H fp) elt we)
 (h4 : closureFor sc X.env = pure [] := by first | rfl | simp [closureFor]) (h5 : ∀ z ∈ sc.names, z.2 ≠ .cell := by decide) (h6 : ∀ z ∈ sc.names, z.2 ≠ .free := by decide) (hkind : sc.kind = .function := by rfl) (hnames : ∀ y ∈ sc.names, y.2 = .local → sc.names.lookup y.1 = some .local := by decide) (hx : (relabel sc X.env).names.lookup x = some .local := by rfl) (hcalm : X.calm = true := by rfl)
 (hs : ∀ x, foldedSetIterable iter X.env x = pure x := by intro _; rfl) (hiy : X.N[k]? = some v := by rfl) (hxy : Loc X.env.scope v := by first | exact Or.inl rfl | exact Or.inr rfl) (hsw : swapsWith (.ListComp elt [⟨.Name x px, iter, [], 0⟩] sc pos) (some (.Name v py)) spos.line X.env = pure true := by rfl)
 (hf : X.fn v = true ∨ X.env.scope.names.lookup v = some .local := by first | exact .inl rfl | exact .inr rfl | assumption) : DS X (.Assign [.Name v py] (.ListComp elt [⟨.Name x px, iter, [], 0⟩] sc pos) spos) (cI k (qT [] src rW we)) :=
 ds_setRG (ztn h4 h5 h6) hN hi (fun cl C s H fp => qM) he h5 hkind hnames hx (by simp) hcalm hs hiy hxy hsw hf
theorem zp4 {X : Cx} {elt iter : Expr} {x y : Str} {px pos : Pos} {sc : Scope} {src : WRg} {we : WE} (i : Nat) (hi : DR X (.Name x px) iter src) (he : ∀ cl C s H fp, DE (jT X sc x [y] cl C s H fp) elt we)
 (h1 : X.N[i]? = some y := by rfl) (h2 : X.env.kindOf y = some .cell := by rfl) (h3 : (relabel sc X.env).names.lookup y = some .cell := by rfl) (h4 : ∀ c, X.env.cells.lookup y = some c → closureFor sc X.env = pure [(y, c)] := by intro c h; first | (simp [closureFor, cellOf, h]; done) | (simp [closureFor, cellOf, h]; rfl))
 (h5 : ∀ z ∈ sc.names, z.2 ≠ .cell := by decide) (h6 : ∀ z ∈ sc.names, z.2 = .free → z.1 = y := by decide) (hkind : sc.kind = .function := by rfl) (hnames : ∀ y ∈ sc.names, y.2 = .local → sc.names.lookup y.1 = some .local := by decide) (hx : (relabel sc X.env).names.lookup x = some .local := by rfl) (hnd : [x, y].Nodup := by decide +kernel) (hcalm : X.calm = true := by rfl)
 (hs : ∀ x, foldedSetIterable iter X.env x = pure x := by intro _; rfl) : DE X (.ListComp elt [⟨.Name x px, iter, [], 0⟩] sc pos) (qT [i] src rW we) :=
 de_compRG (zzo h1 h2 h3 h4 h5 h6) hi (fun cl C s H fp => qM) he h5 hkind hnames hx hnd hcalm hs
@[simp ↓] theorem zafb {t : WA} {ρ : Ev} {S : aN} {Q : Int → Nat → aN → Prop} : wR1 t ρ S Q = t ρ S (fun l S1 => zr4 l fun j => Q 0 j.toNat S1) := id rfl
@[simp ↓] theorem zafc {t : WA} {ρ : Ev} {S : aN} {Q : Int → Nat → aN → Prop} : wR2 t ρ S Q = t ρ S (fun l S1 => zxv l fun lo j => Q lo (j - lo).toNat S1) := id rfl
@[simp ↓] theorem zaal {is : List Nat} {src : WRg} {wt : WT} {we : WE} {ρ : Ev} {S : aN} {Q : QE} : qT is src wt we ρ S Q = src ρ S (fun lo n S1 => n ≤ 1000 ∧ zdj (evs? ρ is) fun dys => cmpL (yE dys wt) (wS dys we) (zd2 lo n) S1 [] fun zs S2 => Q (.lst zs) S2) := id rfl
theorem zzv {X : Cx} {sc : Scope} {i j : Nat} {y y2 : Str} (h1 : X.N[i]? = some y) (h1' : X.N[j]? = some y2) (h2 : X.env.kindOf y = some .cell) (h2' : X.env.kindOf y2 = some .cell) (h3 : (relabel sc X.env).names.lookup y = some .cell) (h3' : (relabel sc X.env).names.lookup y2 = some .cell)
 (h4 : ∀ c c2, X.env.cells.lookup y = some c → X.env.cells.lookup y2 = some c2 → closureFor sc X.env = pure [(y, c), (y2, c2)]) (h5 : ∀ z ∈ sc.names, z.2 ≠ .cell) (h6 : ∀ z ∈ sc.names, z.2 = .free → z.1 = y ∨ z.1 = y2) : Frees X sc [i, j] [y, y2] := by
 refine ⟨rfl, fun n i' y' e1 e2 => ?_, fun cs l h => ?_, fun z hz => ?_⟩
 · match n with
   | 0 => simp at e1 e2; subst e1 e2; exact ⟨h1, h2, h3⟩
   | 1 => simp at e1 e2; subst e1 e2; exact ⟨h1', h2', h3'⟩
   | n + 2 => simp at e1
 · match cs, l with
   | [c, c2], _ =>
     have hc := h 0 y c rfl rfl
     have hc2 := h 1 y2 c2 rfl rfl
     refine ⟨[(y, c), (y2, c2)], h4 c c2 hc hc2, fun z d e => ?_, fun z hz => ?_⟩
     · rw [List.lookup_cons] at e
       split at e
       · rename_i hb
         have ez : z = y := by simpa using hb
         cases e
         rw [ez]; exact hc
       · rw [List.lookup_cons] at e
         split at e
         · rename_i hb
           have ez : z = y2 := by simpa using hb
           cases e
           rw [ez]; exact hc2
         · simp at e
     · rcases List.mem_cons.mp hz with e | hz
       · rw [e]; exact ⟨c, by simp⟩
       · rw [List.mem_singleton.mp hz]
         by_cases e : y2 = y
         · rw [e]; exact ⟨c, by simp⟩
         · exact ⟨c2, by rw [List.lookup_cons, beq_eq_false_iff_ne.mpr e]; simp⟩
 · have hm : ∃ k, (z, k) ∈ (relabel sc X.env).names ∧ (k = .cell ∨ k = .free) := by
    rcases hz with e | e
    · exact ⟨.cell, PySem.mem_of_lookup e, .inl rfl⟩
    · exact ⟨.free, PySem.mem_of_lookup e, .inr rfl⟩
   obtain ⟨k, hm, hk⟩ := hm
   obtain ⟨⟨n, k0⟩, hn, e⟩ := List.mem_map.mp hm
   dsimp only at e
   have key : (n = y ∨ n = y2) ∧ n = z := by
    split at e
    · rename_i hc
      cases e
      have hf : k0 = .free := by
       have z1 := (Bool.and_eq_true_iff.mp (Bool.and_eq_true_iff.mp hc).1).1
       simpa using z1
      exact ⟨h6 _ hn hf, rfl⟩
    · cases e
      rcases hk with hk | hk
      · exact absurd hk (h5 _ hn)
      · exact ⟨h6 _ hn hk, rfl⟩
   rw [← key.2]
   rcases key.1 with e | e <;> rw [e] <;> simp
theorem zp5 {X : Cx} {elt iter c : Expr} {x y y2 : Str} {px pos : Pos} {sc : Scope} {src : WE} {wt : WT} {we : WE} (i j : Nat) (hi : DE X iter src) (ht : ∀ cl C s H fp, DT (jT X sc x [y, y2] cl C s H fp) c wt) (he : ∀ cl C s H fp, DE (jT X sc x [y, y2] cl C s H fp) elt we)
 (h1 : X.N[i]? = some y := by rfl) (h1' : X.N[j]? = some y2 := by rfl) (h2 : X.env.kindOf y = some .cell := by rfl) (h2' : X.env.kindOf y2 = some .cell := by rfl) (h3 : (relabel sc X.env).names.lookup y = some .cell := by rfl) (h3' : (relabel sc X.env).names.lookup y2 = some .cell := by rfl)
 (h4 : ∀ c c2, X.env.cells.lookup y = some c → X.env.cells.lookup y2 = some c2 → closureFor sc X.env = pure [(y, c), (y2, c2)] := by intro c c2 h h'; first | (simp [closureFor, cellOf, h, h']; done) | (simp [closureFor, cellOf, h, h']; rfl))
 (h5 : ∀ z ∈ sc.names, z.2 ≠ .cell := by decide) (h6 : ∀ z ∈ sc.names, z.2 = .free → z.1 = y ∨ z.1 = y2 := by decide) (hkind : sc.kind = .function := by rfl) (hnames : ∀ y ∈ sc.names, y.2 = .local → sc.names.lookup y.1 = some .local := by decide) (hx : (relabel sc X.env).names.lookup x = some .local := by rfl) (hnd : [x, y, y2].Nodup := by decide +kernel) (hcalm : X.calm = true := by rfl)
 (hs : ∀ x, foldedSetIterable iter X.env x = pure x := by intro _; rfl) : DE X (.ListComp elt [⟨.Name x px, iter, [c], 0⟩] sc pos) (zgo [i, j] src wt we) :=
 de_compFG (zzv h1 h1' h2 h2' h3 h3' h4 h5 h6) hi (fun cl C s H fp => yT (ht cl C s H fp)) he h5 hkind hnames hx hnd hcalm hs
@[simp] theorem evs?_two {ρ : Ev} {i j : Nat} : evs? ρ [i, j] = (ev? ρ i).bind fun d => (ev? ρ j).map fun d2 => [d, d2] := by
  unfold evs? evs? evs?; cases ev? ρ i <;> cases ev? ρ j <;> rfl
structure HS where
 rows : List Rw
 ss : List Slip
inductive Deed where
 | write (h p : Nat) (z : Str)
 | rub (h p m : Nat)
 | tell (g t w : Nat)
 | share (g t : Nat)
inductive Ans where
 | made (ss : List Slip)
 | yes (b : Bool)
 | no
 | num (k : Nat)
noncomputable def bH : Deed → Dv
 | .write h p z => .tup [.str "write", .int ((h : Int) + 1), .int p, .str z]
 | .rub h p m => .tup [.str "rub", .int ((h : Int) + 1), .int p, .int m]
 | .tell g t w => .tup [.str "tell", .int ((g : Int) + 1), .int ((t : Int) + 1), .int w]
 | .share g t => .tup [.str "share", .int ((g : Int) + 1), .int ((t : Int) + 1)]
noncomputable def pA : Ans → Dv
 | .made ss => .lst (ss.map aJ)
 | .yes b => .bl b
 | .no => .non
 | .num k => .int k
noncomputable def kF (n : Nat) (s : HS) (p : Nat) (z : Str) : List Slip := cX (most s.rows + 1) ((n : Int) + 1) (jG s.rows p) (chs z)
noncomputable def vU (s : HS) (p m : Nat) : List Slip := eQ (mV s.rows p m)
inductive Stp : List HS → Deed → List HS → Ans → Prop
 | write {hs : List HS} {h p : Nat} {z : Str} {s : HS} {rows' : List Rw} {ss' : List Slip} {k : Nat} : hs[h]? = some s → s.rows.length ≤ 1000 → z.length ≤ 1000 → HA s.rows s.ss (kF h s p z) rows' ss' k → Stp hs (.write h p z) (hs.set h ⟨rows', ss'⟩) (.made (kF h s p z))
 | rub {hs : List HS} {h p m : Nat} {s : HS} {rows' : List Rw} {ss' : List Slip} {k : Nat} : hs[h]? = some s → HA s.rows s.ss (vU s p m) rows' ss' k → Stp hs (.rub h p m) (hs.set h ⟨rows', ss'⟩) (.made (vU s p m))
 | past {hs : List HS} {g t w : Nat} {s u : HS} : hs[g]? = some s → hs[t]? = some u → s.ss.length ≤ w → Stp hs (.tell g t w) hs .no
 | old {hs : List HS} {g t w : Nat} {s u : HS} {q : Slip} : hs[g]? = some s → hs[t]? = some u → s.ss[w]? = some q → Okh u.rows u.ss → okSl q → q ∈ u.ss → Stp hs (.tell g t w) hs (.yes false)
 | new {hs : List HS} {g t w : Nat} {s u : HS} {q : Slip} {rows' : List Rw} : hs[g]? = some s → hs[t]? = some u → s.ss[w]? = some q → Okh u.rows u.ss → okSl q → q ∉ u.ss → zpk u.rows q = some rows' → yZ u.ss q → Stp hs (.tell g t w) (hs.set t ⟨rows', u.ss ++ [q]⟩) (.yes true)
 | refused {hs : List HS} {g t w : Nat} {s u : HS} {q : Slip} {nm : Str} : hs[g]? = some s → hs[t]? = some u → s.ss[w]? = some q → Okh u.rows u.ss → okSl q → q ∉ u.ss → ztl u.rows q = some nm → ¬ yZ u.ss q → Stp hs (.tell g t w) hs .no
 | share {hs : List HS} {g t : Nat} {s u : HS} {rows' : List Rw} {ss' : List Slip} {k : Nat} : hs[g]? = some s → hs[t]? = some u → HA u.rows u.ss s.ss rows' ss' k → Stp hs (.share g t) (hs.set t ⟨rows', ss'⟩) (.num k)
inductive Run : List HS → List Deed → List HS → List Ans → Prop
 | nil {hs : List HS} : Run hs [] hs []
 | cons {hs h1 h2 : List HS} {d : Deed} {ds : List Deed} {a : Ans} {as : List Ans} : Stp hs d h1 a → Run h1 ds h2 as → Run hs (d :: ds) h2 (a :: as)
theorem Run.len {a b : List HS} {ds : List Deed} {as : List Ans} (h : Run a ds b as) : as.length = ds.length := by
 induction h with
 | nil => rfl
 | cons s _ ih => rw [List.length_cons, List.length_cons, ih]
noncomputable def Al (hs : List HS) (s : Slip) : Prop := ∃ h ∈ hs, s ∈ h.ss
theorem tW {α : Type} : ∀ {l m : List α}, l.Nodup → (∀ x ∈ l, x ∈ m) → l.length ≤ m.length
 | [], _, _, _ => Nat.zero_le _
 | a :: l, m, nd, h => by
   obtain ⟨n1, n2⟩ := List.nodup_cons.mp nd
   obtain ⟨s, t, e⟩ := List.append_of_mem (h a List.mem_cons_self)
   subst e
   have z := tW (l := l) (m := s ++ t) n2 fun x hx => by
    rcases List.mem_append.mp (h x (List.mem_cons_of_mem _ hx)) with q | q
    · exact List.mem_append_left _ q
    · rcases List.mem_cons.mp q with q | q
      · rw [q] at hx; exact absurd hx n1
      · exact List.mem_append_right _ q
   rw [List.length_append] at z
   rw [List.length_append, List.length_cons, List.length_cons]
   omega
theorem Fit.sub {U V : Slip → Prop} (F : Fit U) (h : ∀ s, V s → U s) : Fit V := ⟨fun t b x v => F.put t b x (h _ v), fun t b x b' x' v v' => F.one t b x b' x' (h _ v) (h _ v')⟩
theorem ztp : ∀ (r ss d : List Slip), (∀ x ∈ d, x ∈ ss) → Cz [] ss → Cz d r → Cz [] (dd ss r)
 | [], ss, d, _, h, _ => h
 | s :: r, ss, d, hd, h, k => by
   unfold dd
   split
   · rename_i hm
     exact ztp r ss (d ++ [s]) (fun x hx => by
      rcases List.mem_append.mp hx with z | z
      · exact hd x z
      · rw [List.mem_singleton.mp z]; exact hm) h k.2
   · refine ztp r (ss ++ [s]) (d ++ [s]) (fun x hx => ?_) ?_ k.2
     · rcases List.mem_append.mp hx with z | z
       · exact List.mem_append_left _ (hd x z)
       · exact List.mem_append_right _ z
     · rw [Cz.app]
       exact ⟨h, zA (fun x hx => by rw [List.nil_append]; exact hd x hx) k.1, trivial⟩
theorem ztq : ∀ (r ss : List Slip), ss.Nodup → (dd ss r).Nodup
 | [], ss, h => h
 | s :: r, ss, h => by
   unfold dd
   split
   · exact ztq r ss h
   · rename_i hm
     refine ztq r (ss ++ [s]) ?_
     rw [List.nodup_append]
     exact ⟨h, List.nodup_cons.mpr ⟨List.not_mem_nil, List.nodup_nil⟩, fun a ha b hb e => hm (by rw [← List.mem_singleton.mp hb, ← e]; exact ha)⟩
theorem HA.cnt {rows rows' : List Rw} {ss ss' r : List Slip} {k : Nat} (h : HA rows ss r rows' ss' k) : ss' = dd ss r ∧ ss'.length = ss.length + k := by
 induction h with
 | nil => exact ⟨rfl, rfl⟩
 | old _ _ hm _ ih => exact ⟨by rw [ih.1]; exact (if_pos hm).symm, ih.2⟩
 | new _ _ hm _ _ ih =>
   refine ⟨by rw [ih.1]; exact (if_neg hm).symm, ?_⟩
   have := ih.2
   rw [List.length_append, List.length_singleton] at this
   omega
structure WI (n : Nat) (hs : List HS) (Pm : List Slip) (Cm : List cV) : Prop where
 len : hs.length = n
 fit : Fit (Al hs)
 hrd : ∀ h ∈ hs, Hrd (Al hs) h.rows h.ss
 cz : ∀ h ∈ hs, Cz [] h.ss
 nd : ∀ h ∈ hs, h.ss.Nodup
 own : ∀ t b x, Al hs (.put t b x) → 1 ≤ t.1 ∧ x.length = 1 ∧ ∃ (k : Nat) (h : HS), hs[k]? = some h ∧ t.2 = (k : Int) + 1 ∧ Slip.put t b x ∈ h.ss
 puts : ∀ t b x, Al hs (.put t b x) ↔ Slip.put t b x ∈ Pm
 onlyp : ∀ s ∈ Pm, fN s = true
 pnd : (aT Pm).Nodup
 cuts : ∀ t, Al hs (.cut t) ↔ t ∈ Cm
theorem Fit.none {U : Slip → Prop} (h : ∀ s, ¬ U s) : Fit U := ⟨fun _ _ _ u => absurd u (h _), fun _ _ _ _ _ u => absurd u (h _)⟩
noncomputable def hs0 (n : Nat) : List HS := List.replicate n ⟨[], []⟩
theorem WI.start (n : Nat) : WI n (hs0 n) [] [] := by
 have e : ∀ h ∈ hs0 n, h = ⟨[], []⟩ := fun h hh => (List.mem_replicate.mp hh).2
 have no : ∀ s, ¬ Al (hs0 n) s := fun s ⟨h, hh, m⟩ => by rw [e h hh] at m; cases m
 refine ⟨List.length_replicate, Fit.none no, fun h hh => ?_, fun h hh => ?_, fun h hh => ?_, fun t b x a => absurd a (no _), (fun t b x => ⟨fun a => absurd a (no _), fun a => by cases a⟩), (fun s hs => by cases hs), List.nodup_nil, (fun t => ⟨fun a => absurd a (no _), fun a => by cases a⟩)⟩
 · rw [e h hh]; exact .nil
 · rw [e h hh]; exact trivial
 · rw [e h hh]; exact List.nodup_nil
section
variable {n : Nat} {hs : List HS} {Pm : List Slip} {Cm : List cV}
theorem WI.rowsLen (w : WI n hs Pm Cm) {h : HS} (hh : h ∈ hs) : h.rows.length ≤ Pm.length := by
 have z := tW (l := h.rows.map Rw.tag) (m := aT Pm) (w.hrd h hh).gd.nd fun t ht => by
  obtain ⟨r, hr, e⟩ := List.mem_map.mp ht
  have p := ((w.hrd h hh).put r hr).1
  rw [e] at p
  exact bT.mpr ⟨_, _, (w.puts _ _ _).mp ⟨h, hh, p⟩⟩
 rw [List.length_map] at z
 refine Nat.le_trans z ?_
 unfold aT
 exact List.length_filterMap_le _ _
theorem vV : ∀ {ss : List Slip}, ss.Nodup → (bQ ss).Nodup
 | [], _ => List.nodup_nil
 | .put t b x :: ss, h => vV (ss := ss) (List.nodup_cons.mp h).2
 | .cut t :: ss, h => by
   show (t :: bQ ss).Nodup
   exact List.nodup_cons.mpr ⟨fun m => (List.nodup_cons.mp h).1 (lC.mp m), vV (List.nodup_cons.mp h).2⟩
theorem zL : ∀ ss : List Slip, ss.length = (ss.filter fN).length + (bQ ss).length
 | [] => rfl
 | .put t b x :: ss => by
   rw [show (Slip.put t b x :: ss).filter fN = Slip.put t b x :: ss.filter fN from rfl, show bQ (Slip.put t b x :: ss) = bQ ss from rfl, List.length_cons, List.length_cons, zL ss]; omega
 | .cut t :: ss => by
   rw [show (Slip.cut t :: ss).filter fN = ss.filter fN from rfl, show bQ (Slip.cut t :: ss) = t :: bQ ss from rfl, List.length_cons, List.length_cons, zL ss]; omega
theorem WI.ssLen (w : WI n hs Pm Cm) {h : HS} (hh : h ∈ hs) : h.ss.length ≤ 2 * Pm.length := by
 have z1 := tW (l := h.ss.filter fN) (m := Pm) ((w.nd h hh).filter _) fun s hm => by
  obtain ⟨m, p⟩ := List.mem_filter.mp hm
  cases s with
  | put t b x => exact (w.puts _ _ _).mp ⟨h, hh, m⟩
  | cut t => cases p
 have z2 := tW (l := bQ h.ss) (m := h.rows.map Rw.tag) (vV (w.nd h hh)) fun t ht => by
  obtain ⟨r, hr, e⟩ := (w.hrd h hh).cut t (lC.mp ht)
  rw [← e]; exact List.mem_map_of_mem hr
 rw [List.length_map] at z2
 have z3 := w.rowsLen hh
 rw [zL h.ss]
 omega
theorem WI.okh (w : WI n hs Pm Cm) {h : HS} (hh : h ∈ hs) (hP : Pm.length ≤ 1000) : Okh h.rows h.ss :=
 ⟨by have := w.rowsLen hh; omega, by have := w.ssLen hh; omega, (w.hrd h hh).ok, fun s hs => w.fit.okSl ⟨h, hh, hs⟩⟩
theorem zzw {t : Nat} {u : HS} {rows' : List Rw} {ss' r : List Slip} (ht : hs[t]? = some u) (hm : ∀ s, s ∈ ss' ↔ s ∈ u.ss ∨ s ∈ r) (s : Slip) : Al (hs.set t ⟨rows', ss'⟩) s ↔ Al hs s ∨ s ∈ r := by
 have hl := (List.getElem?_eq_some_iff.mp ht).1
 constructor
 · rintro ⟨h, hh, m⟩
   obtain ⟨k, hk⟩ := List.mem_iff_getElem?.mp hh
   rw [List.getElem?_set] at hk
   split at hk
   · cases hk
     rcases (hm s).mp m with z | z
     · exact .inl ⟨u, List.mem_of_getElem? ht, z⟩
     · exact .inr z
   · exact .inl ⟨h, List.mem_of_getElem? hk, m⟩
 · have new : (⟨rows', ss'⟩ : HS) ∈ hs.set t ⟨rows', ss'⟩ := List.mem_of_getElem? (List.getElem?_set_self hl)
   rintro (⟨h, hh, m⟩ | m)
   · obtain ⟨k, hk⟩ := List.mem_iff_getElem?.mp hh
     by_cases e : t = k
     · subst e
       rw [ht] at hk
       cases hk
       exact ⟨_, new, (hm s).mpr (.inl m)⟩
     · exact ⟨h, List.mem_of_getElem? (i := k) (by rw [List.getElem?_set_ne e]; exact hk), m⟩
   · exact ⟨_, new, (hm s).mpr (.inr m)⟩
theorem zg7 {t : Nat} {u x h : HS} (ht : hs[t]? = some u) (hh : h ∈ hs.set t x) : h = x ∨ h ∈ hs := by
 rcases List.mem_or_eq_of_mem_set hh with z | z
 · exact .inr z
 · exact .inl z
theorem WI.hear (w : WI n hs Pm Cm) {t : Nat} {u : HS} {r d : List Slip} {Pm' : List Slip} {Cm' : List cV} (ht : hs[t]? = some u) (F : Fit fun s => Al hs s ∨ s ∈ r) (hd : ∀ x ∈ d, x ∈ u.ss) (hc : Cz d r)
 (own : ∀ c b x, Slip.put c b x ∈ r → Al hs (.put c b x) ∨ (1 ≤ c.1 ∧ x.length = 1 ∧ c.2 = (t : Int) + 1)) (puts : ∀ c b x, (Al hs (.put c b x) ∨ Slip.put c b x ∈ r) ↔ Slip.put c b x ∈ Pm') (onlyp : ∀ s ∈ Pm', fN s = true) (pnd : (aT Pm').Nodup)
 (cuts : ∀ c, (Al hs (.cut c) ∨ Slip.cut c ∈ r) ↔ c ∈ Cm') (hl : u.ss.length + r.length ≤ 5000) : ∃ rows' k, HA u.rows u.ss r rows' (dd u.ss r) k ∧ WI n (hs.set t ⟨rows', dd u.ss r⟩) Pm' Cm' := by
 have mu := List.mem_of_getElem? ht
 have tl := (List.getElem?_eq_some_iff.mp ht).1
 have hu : Hrd (fun s => Al hs s ∨ s ∈ r) u.rows u.ss := (w.hrd u mu).wide fun s hs => .inl ⟨u, mu, hs⟩
 obtain ⟨rows', k, ha, h'⟩ := HA.of F r u.rows u.ss d hu hd (fun s hs => .inr hs) hc hl
 have al := zzw (rows' := rows') ht (zcu r u.ss)
 have eA : Al (hs.set t ⟨rows', dd u.ss r⟩) = fun s => Al hs s ∨ s ∈ r := funext fun s => propext (al s)
 refine ⟨rows', k, ha, by rw [List.length_set]; exact w.len, by rw [eA]; exact F, fun h hh => ?_, fun h hh => ?_, fun h hh => ?_, fun c b x a => ?_, fun c b x => by rw [eA]; exact puts c b x, onlyp, pnd, fun c => by rw [eA]; exact cuts c⟩
 · rw [eA]
   rcases zg7 ht hh with e | hh
   · rw [e]; exact h'
   · exact (w.hrd h hh).wide fun s hs => .inl ⟨h, hh, hs⟩
 · rcases zg7 ht hh with e | hh
   · rw [e]; exact ztp r u.ss d hd (w.cz u mu) hc
   · exact w.cz h hh
 · rcases zg7 ht hh with e | hh
   · rw [e]; exact ztq r u.ss (w.nd u mu)
   · exact w.nd h hh
 · have old : Al hs (.put c b x) → 1 ≤ c.1 ∧ x.length = 1 ∧ ∃ (k : Nat) (h : HS), (hs.set t ⟨rows', dd u.ss r⟩)[k]? = some h ∧ c.2 = (k : Int) + 1 ∧ Slip.put c b x ∈ h.ss := fun a => by
    obtain ⟨h1, h2, j, h, h3, h4, h5⟩ := w.own c b x a
    refine ⟨h1, h2, j, ?_⟩
    by_cases e : t = j
    · subst e
      rw [ht] at h3
      cases h3
      exact ⟨_, List.getElem?_set_self tl, h4, (zcu r u.ss _).mpr (.inl h5)⟩
    · exact ⟨h, by rw [List.getElem?_set_ne e]; exact h3, h4, h5⟩
   rcases (al _).mp a with a | a
   · exact old a
   · rcases own c b x a with z | ⟨z1, z2, z3⟩
     · exact old z
     · exact ⟨z1, z2, t, _, List.getElem?_set_self tl, z3, (zcu r u.ss _).mpr (.inr a)⟩
theorem WI.hearOld (w : WI n hs Pm Cm) {t : Nat} {u : HS} {r d : List Slip} (ht : hs[t]? = some u) (hr : ∀ s ∈ r, Al hs s) (hd : ∀ x ∈ d, x ∈ u.ss) (hc : Cz d r) (hl : u.ss.length + r.length ≤ 5000) : ∃ rows' k, HA u.rows u.ss r rows' (dd u.ss r) k ∧ WI n (hs.set t ⟨rows', dd u.ss r⟩) Pm Cm := by
 have red : ∀ s, (Al hs s ∨ s ∈ r) ↔ Al hs s := fun s => ⟨fun z => z.elim id (hr s), .inl⟩
 exact w.hear ht (w.fit.sub fun s z => (red s).mp z) hd hc (fun c b x m => .inl (hr _ m)) (fun c b x => (red _).trans (w.puts c b x)) w.onlyp w.pnd (fun c => (red _).trans (w.cuts c)) hl
end
noncomputable def DOk (n : Nat) : Deed → Prop
 | .write h _ z => h < n ∧ z.length ≤ 12 ∧ PyData.strOk z = true
 | .rub h _ _ => h < n
 | .tell g t _ => g < n ∧ t < n
 | .share g t => g < n ∧ t < n
noncomputable def mP : Deed → Ans → List Slip
 | .write _ _ _, .made ss => ss
 | _, _ => []
noncomputable def mC : Deed → Ans → List cV
 | .rub _ _ _, .made ss => bQ ss
 | _, _ => []
theorem zg8 : ∀ {ss : List Slip} {t b b' : cV} {x x' : Str}, (aT ss).Nodup → Slip.put t b x ∈ ss → Slip.put t b' x' ∈ ss → b = b' ∧ x = x'
 | [], _, _, _, _, _, _, h, _ => by cases h
 | .cut t0 :: ss, t, b, b', x, x', nd, h, k => by
   rcases List.mem_cons.mp h with e | h
   · cases e
   · rcases List.mem_cons.mp k with e | k
     · cases e
     · exact zg8 (ss := ss) nd h k
 | .put t0 b0 x0 :: ss, t, b, b', x, x', nd, h, k => by
   have nd' : (t0 :: aT ss).Nodup := nd
   obtain ⟨n1, n2⟩ := List.nodup_cons.mp nd'
   rcases List.mem_cons.mp h with e | h
   · injection e with e1 e2 e3
     rcases List.mem_cons.mp k with e' | k
     · injection e' with f1 f2 f3
       exact ⟨e2.trans f2.symm, e3.trans f3.symm⟩
     · exact absurd (bT.mpr ⟨b', x', by rw [← e1]; exact k⟩) n1
   · rcases List.mem_cons.mp k with e' | k
     · injection e' with f1 f2 f3
       exact absurd (bT.mpr ⟨b, x, by rw [← f1]; exact h⟩) n1
     · exact zg8 (ss := ss) n2 h k
theorem zjp (a b : List Slip) : aT (a ++ b) = aT a ++ aT b := by unfold aT; rw [List.filterMap_append]
theorem qU {n : Int} : ∀ {xs : List Str} {c : Int} {b : cV} {s : Slip}, b.1 < c → s ∈ cX c n b xs → ∃ t b' x, s = .put t b' x ∧ t.2 = n ∧ c ≤ t.1 ∧ b'.1 < t.1 ∧ x ∈ xs
 | [], _, _, _, _, h => by cases h
 | y :: ys, c, b, s, hb, h => by
   rcases List.mem_cons.mp (show s ∈ .put (c, n) b y :: cX (c + 1) n (c, n) ys from h) with e | h
   · exact ⟨(c, n), b, y, e, rfl, Int.le_refl c, hb, List.mem_cons_self⟩
   · obtain ⟨t, b', x, e, h1, h2, h3, h4⟩ := qU (xs := ys) (c := c + 1) (b := (c, n)) (by show c < c + 1; omega) h
     exact ⟨t, b', x, e, h1, by omega, h3, List.mem_cons_of_mem _ h4⟩
theorem ze5 {n : Int} : ∀ (xs : List Str) (c : Int) (b : cV), (aT (cX c n b xs)).Nodup ∧ ∀ t ∈ aT (cX c n b xs), c ≤ t.1
 | [], _, _ => ⟨List.nodup_nil, fun _ h => by cases h⟩
 | y :: ys, c, b => by
   obtain ⟨h1, h2⟩ := ze5 (n := n) ys (c + 1) (c, n)
   show ((c, n) :: aT (cX (c + 1) n (c, n) ys)).Nodup ∧ ∀ t ∈ (c, n) :: aT (cX (c + 1) n (c, n) ys), c ≤ t.1
   refine ⟨List.nodup_cons.mpr ⟨fun z => ?_, h1⟩, fun t ht => ?_⟩
   · have := h2 _ z
     have : c + 1 ≤ c := this
     omega
   · rcases List.mem_cons.mp ht with e | ht
     · rw [e]; exact Int.le_refl c
     · have := h2 t ht; omega
theorem zM {n : Int} : ∀ (xs : List Str) (c : Int) (b : cV) (d : List Slip), (b = (0, 0) ∨ b ∈ aT d) → Cz d (cX c n b xs)
 | [], _, _, _, _ => trivial
 | y :: ys, c, b, d, h => by
   show yZ d (.put (c, n) b y) ∧ Cz (d ++ [.put (c, n) b y]) (cX (c + 1) n (c, n) ys)
   refine ⟨?_, zM ys (c + 1) (c, n) _ (.inr (bT.mpr ⟨b, y, List.mem_append_right _ (List.mem_singleton.mpr rfl)⟩))⟩
   rcases h with e | e
   · exact .inl e
   · exact .inr (bT.mp e)
theorem zN : ∀ (ts : List cV) (d : List Slip), (∀ t ∈ ts, t ∈ aT d) → Cz d (eQ ts)
 | [], _, _ => trivial
 | t :: ts, d, h => by
   show yZ d (.cut t) ∧ Cz (d ++ [.cut t]) (eQ ts)
   refine ⟨bT.mp (h t List.mem_cons_self), zN ts _ fun q hq => ?_⟩
   obtain ⟨b, x, z⟩ := bT.mp (h q (List.mem_cons_of_mem _ hq))
   exact bT.mpr ⟨b, x, List.mem_append_left _ z⟩
theorem xN : ∀ ts : List cV, bQ (eQ ts) = ts
 | [] => rfl
 | t :: ts => by
   show t :: bQ (eQ ts) = _
   rw [xN ts]
theorem tX (rows : List Rw) (p : Nat) : jG rows p = (0, 0) ∨ ∃ r ∈ rows, r.tag = jG rows p := by
 have h := List.mem_of_getLast? (zcc rows p)
 rcases List.mem_cons.mp h with e | h
 · exact .inl e
 · obtain ⟨r, hr, e⟩ := List.mem_map.mp (List.mem_of_mem_take h)
   exact .inr ⟨r, kI hr, e⟩
theorem zwy {z x : Str} (h : x ∈ chs z) : x.length = 1 := by
 unfold chs at h
 obtain ⟨c, _, rfl⟩ := List.mem_map.mp h
 rfl
section
variable {n : Nat} {hs : List HS} {Pm : List Slip} {Cm : List cV}
theorem WI.tc (w : WI n hs Pm Cm) {h : HS} (hh : h ∈ hs) : ∀ r ∈ h.rows, 1 ≤ r.tc := fun r hr => (w.own _ _ _ ⟨h, hh, ((w.hrd h hh).put r hr).1⟩).1
theorem WI.one1 (w : WI n hs Pm Cm) {h : HS} (hh : h ∈ hs) : one1 h.rows := fun r hr => (w.own _ _ _ ⟨h, hh, ((w.hrd h hh).put r hr).1⟩).2.1
theorem WI.write (w : WI n hs Pm Cm) {h p : Nat} {z : Str} (hn : h < n) (hz : z.length ≤ 12) (okz : PyData.strOk z = true) (hP : Pm.length ≤ 1000) :
 ∃ s hs', hs[h]? = some s ∧ Stp hs (.write h p z) hs' (.made (kF h s p z)) ∧ WI n hs' (Pm ++ kF h s p z) Cm ∧ (kF h s p z).length ≤ 12 := by
 have hl : h < hs.length := by rw [w.len]; exact hn
 have es : hs[h]? = some hs[h] := List.getElem?_eq_getElem hl
 generalize hs[h] = s at es
 have ms := List.mem_of_getElem? es
 have H := w.hrd s ms
 have tc := w.tc ms
 have nn := zgm tc
 have bh : (jG s.rows p).1 < most s.rows + 1 := by
  rcases tX s.rows p with e | ⟨r, hr, e⟩
  · rw [e]; show (0 : Int) < _; omega
  · rw [← e]
    have := tT r hr
    show r.tc < _
    omega
 have mem : ∀ q ∈ kF h s p z, ∃ t b' x, q = .put t b' x ∧ t.2 = (h : Int) + 1 ∧ most s.rows + 1 ≤ t.1 ∧ b'.1 < t.1 ∧ x ∈ chs z := fun q hq => qU bh hq
 have fresh : ∀ t b x b' x', Slip.put t b x ∈ kF h s p z → ¬ Al hs (.put t b' x') := fun t b x b' x' hm a => by
  obtain ⟨t1, b1, x1, e, h1, h2, _, _⟩ := mem _ hm
  cases e
  obtain ⟨_, _, k, v, hk, e2, hv⟩ := w.own _ _ _ a
  have ek : k = h := by rw [h1] at e2; omega
  subst ek
  rw [es] at hk
  cases hk
  obtain ⟨r, hr, et⟩ := H.has _ _ _ hv
  have := tT r hr
  have e3 : r.tc = t.1 := congrArg Prod.fst et
  omega
 have nd := ze5 (n := (h : Int) + 1) (chs z) (most s.rows + 1) (jG s.rows p)
 have F : Fit fun q => Al hs q ∨ q ∈ kF h s p z := by
  refine ⟨fun t b x a => ?_, fun t b x b' x' a a' => ?_⟩
  · rcases a with a | a
    · exact w.fit.put t b x a
    · obtain ⟨t1, b1, x1, e, h1, h2, h3, h4⟩ := mem _ a
      cases e
      exact ⟨xH.mpr (.inl h3), fun e => by have e1 : t.1 = 0 := congrArg Prod.fst e; omega, zzn okz x h4⟩
  · rcases a with a | a
    · rcases a' with a' | a'
      · exact w.fit.one t b x b' x' a a'
      · exact absurd a (fresh _ _ _ _ _ a')
    · rcases a' with a' | a'
      · exact absurd a' (fresh _ _ _ _ _ a)
      · exact zg8 nd.1 a a'
 have cz : Cz s.ss (kF h s p z) := zM _ _ _ _ (by
  rcases tX s.rows p with e | ⟨r, hr, e⟩
  · exact .inl e
  · exact .inr (by rw [← e]; exact bT.mpr ⟨_, _, (H.put r hr).1⟩))
 have lw : (kF h s p z).length ≤ 12 := by
  show (cX _ _ _ _).length ≤ 12
  rw [zcd, zgl]; exact hz
 have sl := w.ssLen ms
 have rl := w.rowsLen ms
 obtain ⟨rows', k, ha, w'⟩ := w.hear (Pm' := Pm ++ kF h s p z) (Cm' := Cm) es F (fun x hx => hx) cz (fun c b x m => .inr (by
  obtain ⟨t1, b1, x1, e, h1, h2, h3, h4⟩ := mem _ m
  cases e
  exact ⟨by omega, zwy h4, h1⟩)) (fun c b x => by rw [List.mem_append, w.puts]) (fun q hq => by
  rcases List.mem_append.mp hq with m | m
  · exact w.onlyp q m
  · obtain ⟨t1, b1, x1, e, _⟩ := mem _ m
    rw [e]; rfl) (by
  rw [zjp, List.nodup_append]
  refine ⟨w.pnd, nd.1, fun a ha b hb e => ?_⟩
  subst e
  obtain ⟨b1, x1, m1⟩ := bT.mp ha
  obtain ⟨b2, x2, m2⟩ := bT.mp hb
  exact fresh _ _ _ _ _ m2 ((w.puts _ _ _).mpr m1)) (fun c => ⟨(fun a => by
  rcases a with a | a
  · exact (w.cuts c).mp a
  · obtain ⟨t1, b1, x1, e, _⟩ := mem _ a
    cases e), (fun a => .inl ((w.cuts c).mpr a))⟩) (by omega)
 exact ⟨s, _, es, .write es (by omega) (by omega) ha, w', lw⟩
theorem qV {ts : List cV} {s : Slip} : s ∈ eQ ts ↔ ∃ t ∈ ts, s = .cut t := by
 unfold eQ
 rw [List.mem_map]
 constructor
 · rintro ⟨t, h, rfl⟩; exact ⟨t, h, rfl⟩
 · rintro ⟨t, h, rfl⟩; exact ⟨t, h, rfl⟩
theorem WI.rub (w : WI n hs Pm Cm) {h p m : Nat} (hn : h < n) (hP : Pm.length ≤ 1000) :
 ∃ s hs', hs[h]? = some s ∧ Stp hs (.rub h p m) hs' (.made (vU s p m)) ∧ WI n hs' Pm (Cm ++ mV s.rows p m) ∧ (mV s.rows p m).length ≤ m := by
 have hl : h < hs.length := by rw [w.len]; exact hn
 have es : hs[h]? = some hs[h] := List.getElem?_eq_getElem hl
 generalize hs[h] = s at es
 have ms := List.mem_of_getElem? es
 have H := w.hrd s ms
 have sub : ∀ t ∈ mV s.rows p m, ∃ r ∈ s.rows, r.tag = t := fun t ht => by
  unfold mV at ht
  obtain ⟨r, hr, e⟩ := List.mem_map.mp (List.mem_of_mem_drop (List.mem_of_mem_take ht))
  exact ⟨r, kI hr, e⟩
 have noput : ∀ c b x, Slip.put c b x ∉ vU s p m := fun c b x hm => by
  obtain ⟨t, _, e⟩ := qV.mp hm
  cases e
 have F : Fit fun q => Al hs q ∨ q ∈ vU s p m := ⟨fun t b x a => w.fit.put t b x (a.resolve_right (noput _ _ _)), fun t b x b' x' a a' => w.fit.one t b x b' x' (a.resolve_right (noput _ _ _)) (a'.resolve_right (noput _ _ _))⟩
 have cz : Cz s.ss (vU s p m) := zN _ _ fun t ht => by
  obtain ⟨r, hr, e⟩ := sub t ht
  rw [← e]
  exact bT.mpr ⟨_, _, (H.put r hr).1⟩
 have l1 : (vU s p m).length ≤ s.rows.length := by
  show (eQ (mV s.rows p m)).length ≤ _
  unfold eQ mV
  rw [List.length_map, List.length_take, List.length_drop, List.length_map]
  have := pM s.rows
  omega
 have sl := w.ssLen ms
 have rl := w.rowsLen ms
 obtain ⟨rows', k, ha, w'⟩ := w.hear (Pm' := Pm) (Cm' := Cm ++ mV s.rows p m) es F (fun x hx => hx) cz (fun c b x m => absurd m (noput _ _ _)) (fun c b x => ⟨fun a => (w.puts c b x).mp (a.resolve_right (noput _ _ _)), fun a => .inl ((w.puts c b x).mpr a)⟩) w.onlyp w.pnd (fun c => by
  rw [List.mem_append, w.cuts]
  have e : Slip.cut c ∈ vU s p m ↔ c ∈ mV s.rows p m := by
   show Slip.cut c ∈ eQ _ ↔ _
   rw [qV]
   constructor
   · rintro ⟨t, ht, e⟩; cases e; exact ht
   · exact fun ht => ⟨c, ht, rfl⟩
  rw [e]) (by omega)
 refine ⟨s, _, es, .rub es ha, w', ?_⟩
 unfold mV
 rw [List.length_take]
 exact Nat.min_le_left _ _
theorem Hrd.not {U : Slip → Prop} (F : Fit U) {rows : List Rw} {ss : List Slip} (h : Hrd U rows ss) {q : Slip} (hU : U q) (hm : q ∉ ss) (no : ¬ yZ ss q) : ztl rows q = some ("NotYet" : Str) := by
 cases q with
 | put t b x =>
   have ft : mU t rows = none := xG fun r hr e => by
    have p := (h.put r hr).1
    rw [e] at p
    obtain ⟨e1, e2⟩ := F.one _ _ _ _ _ (h.all _ p) hU
    rw [e1, e2] at p
    exact hm p
   have hb : bix rows b = none := by
    unfold bix
    rw [if_neg fun e => no (.inl e)]
    have fb : mU b rows = none := xG fun r hr e => no (.inr ⟨r.bhd, r.sg, by rw [← e]; exact (h.put r hr).1⟩)
    rw [fb]; rfl
   show zmh rows t b x = _
   unfold zmh
   rw [ft, hb]
 | cut t =>
   have ft : mU t rows = none := xG fun r hr e => no ⟨r.bhd, r.sg, by rw [← e]; exact (h.put r hr).1⟩
   show zmi rows t = _
   unfold zmi
   rw [ft]
theorem WI.share (w : WI n hs Pm Cm) {g t : Nat} (hg : g < n) (ht : t < n) (hP : Pm.length ≤ 1000) :
 ∃ s u rows' k, hs[g]? = some s ∧ hs[t]? = some u ∧ HA u.rows u.ss s.ss rows' (dd u.ss s.ss) k ∧ WI n (hs.set t ⟨rows', dd u.ss s.ss⟩) Pm Cm := by
 have es : hs[g]? = some (hs[g]'(by rw [w.len]; exact hg)) := List.getElem?_eq_getElem _
 have eu : hs[t]? = some (hs[t]'(by rw [w.len]; exact ht)) := List.getElem?_eq_getElem _
 generalize hs[g]'(by rw [w.len]; exact hg) = s at es
 generalize hs[t]'(by rw [w.len]; exact ht) = u at eu
 have ms := List.mem_of_getElem? es
 have mu := List.mem_of_getElem? eu
 have sl := w.ssLen ms
 have ul := w.ssLen mu
 obtain ⟨rows', k, ha, w'⟩ := w.hearOld (d := []) eu (fun q hq => ⟨s, ms, hq⟩) (fun x hx => by cases hx) (w.cz s ms) (by omega)
 exact ⟨s, u, rows', k, es, eu, ha, w'⟩
theorem WI.tell (w : WI n hs Pm Cm) {g t wh : Nat} (hg : g < n) (ht : t < n) (hP : Pm.length ≤ 1000) :
 ∃ hs' a, Stp hs (.tell g t wh) hs' a ∧ WI n hs' Pm Cm := by
 have es : hs[g]? = some (hs[g]'(by rw [w.len]; exact hg)) := List.getElem?_eq_getElem _
 have eu : hs[t]? = some (hs[t]'(by rw [w.len]; exact ht)) := List.getElem?_eq_getElem _
 generalize hs[g]'(by rw [w.len]; exact hg) = s at es
 generalize hs[t]'(by rw [w.len]; exact ht) = u at eu
 have ms := List.mem_of_getElem? es
 have mu := List.mem_of_getElem? eu
 have ul := w.ssLen mu
 have oh := w.okh mu hP
 cases eq : s.ss[wh]? with
 | none => exact ⟨hs, _, .past es eu (List.getElem?_eq_none_iff.mp eq), w⟩
 | some q =>
   have mq := List.mem_of_getElem? eq
   have aq : Al hs q := ⟨s, ms, mq⟩
   have okq := w.fit.okSl aq
   by_cases hm : q ∈ u.ss
   · exact ⟨hs, _, .old es eu eq oh okq hm, w⟩
   · by_cases ok : yZ u.ss q
     · obtain ⟨rows', k, ha, w'⟩ := w.hearOld (r := [q]) (d := u.ss) eu (fun x hx => by rw [List.mem_singleton.mp hx]; exact aq) (fun x hx => hx) ⟨ok, trivial⟩ (by rw [List.length_singleton]; omega)
       have e : dd u.ss [q] = u.ss ++ [q] := by unfold dd; rw [if_neg hm]; rfl
       rw [e] at ha w'
       cases ha with
       | old _ _ hm' _ => exact absurd hm' hm
       | new h1 h2 h3 h4 h5 =>
         cases h5
         exact ⟨_, _, .new es eu eq oh okq hm h4 ok, w'⟩
     · exact ⟨hs, _, .refused es eu eq oh okq hm ((w.hrd u mu).not w.fit aq hm ok) ok, w⟩
theorem WI.step (w : WI n hs Pm Cm) {d : Deed} (hd : DOk n d) (hP : Pm.length ≤ 1000) : ∃ hs' a, Stp hs d hs' a ∧ WI n hs' (Pm ++ mP d a) (Cm ++ mC d a) ∧ (mP d a).length ≤ 12 := by
 cases d with
 | write h p z =>
   obtain ⟨s, hs', _, st, w', l⟩ := w.write (p := p) hd.1 hd.2.1 hd.2.2 hP
   exact ⟨hs', _, st, by show WI n hs' (Pm ++ kF h s p z) (Cm ++ []); rw [List.append_nil]; exact w', l⟩
 | rub h p m =>
   obtain ⟨s, hs', _, st, w', l⟩ := w.rub (p := p) (m := m) hd hP
   exact ⟨hs', _, st, by show WI n hs' (Pm ++ []) (Cm ++ bQ (eQ _)); rw [List.append_nil, xN]; exact w', Nat.zero_le _⟩
 | tell g t wh =>
   obtain ⟨hs', a, st, w'⟩ := w.tell (wh := wh) hd.1 hd.2 hP
   refine ⟨hs', a, st, ?_, Nat.zero_le _⟩
   show WI n hs' (Pm ++ []) (Cm ++ [])
   rw [List.append_nil, List.append_nil]; exact w'
 | share g t =>
   obtain ⟨s, u, rows', k, es, eu, ha, w'⟩ := w.share hd.1 hd.2 hP
   refine ⟨_, _, .share es eu ha, ?_, Nat.zero_le _⟩
   show WI n _ (Pm ++ []) (Cm ++ [])
   rw [List.append_nil, List.append_nil]; exact w'
end
section
variable {n : Nat} {Pm : List Slip} {Cm : List cV}
theorem Hrd.rowOf {U : Slip → Prop} (F : Fit U) {rows : List Rw} {ss : List Slip} (H : Hrd U rows ss) {t b : cV} {x : Str} (m : Slip.put t b x ∈ ss) : (⟨t.1, t.2, b.1, b.2, x, decide (Slip.cut t ∈ ss)⟩ : Rw) ∈ rows := by
 obtain ⟨r, hr, e⟩ := H.has _ _ _ m
 obtain ⟨p, o⟩ := H.put r hr
 rw [e] at p o
 obtain ⟨e1, e2⟩ := F.one _ _ _ _ _ (H.all _ p) (H.all _ m)
 have eo : r.out = decide (Slip.cut t ∈ ss) := by
  rw [Bool.eq_iff_iff, o]; simp
 have er : r = ⟨t.1, t.2, b.1, b.2, x, decide (Slip.cut t ∈ ss)⟩ := by
  rw [← eo, ← e, ← e1, ← e2]
  cases r; rfl
 rw [← er]; exact hr
end
end MQ
namespace Lk
open PySem PySem.Spec PyProof.Rows L2 MQ
noncomputable def cS (S : aN) (ps : List Addr) (hs : List HS) : Prop := ps.Nodup ∧ ps.length = hs.length ∧ ∀ (k : Nat) p h, ps[k]? = some p → hs[k]? = some h → S p = some (.ins (bY ((k : Int) + 1) h.rows h.ss))
noncomputable def zO (ps : List Addr) (S S' : aN) : Prop := ∀ b o, b ∉ ps → S b = some o → S' b = some o
theorem zO.refl (ps : List Addr) (S : aN) : zO ps S S := fun _ _ _ h => h
theorem cS.at {S : aN} {ps : List Addr} {hs : List HS} (h : cS S ps hs) {k : Nat} {s : HS} (hk : hs[k]? = some s) : ∃ p, ps[k]? = some p ∧ S p = some (.ins (bY ((k : Int) + 1) s.rows s.ss)) := by
 have hl : k < ps.length := by rw [h.2.1]; exact (List.getElem?_eq_some_iff.mp hk).1
 exact ⟨ps[k], List.getElem?_eq_getElem hl, h.2.2 k ps[k] s (List.getElem?_eq_getElem hl) hk⟩
theorem cS.set {S : aN} {ps : List Addr} {hs : List HS} (h : cS S ps hs) {k : Nat} {p : Addr} (hp : ps[k]? = some p) (x : HS) : cS (cB S p (.ins (bY ((k : Int) + 1) x.rows x.ss))) ps (hs.set k x) := by
 have kl := (List.getElem?_eq_some_iff.mp hp).1
 refine ⟨h.1, by rw [List.length_set]; exact h.2.1, fun j q y hq hy => ?_⟩
 by_cases e : k = j
 · subst e
   rw [hp] at hq
   cases hq
   rw [List.getElem?_set_self (by rw [← h.2.1]; exact kl)] at hy
   cases hy
   exact cF
 · rw [List.getElem?_set_ne e] at hy
   have ne : q ≠ p := fun z => e ((List.getElem?_inj kl h.1).mp (by rw [hp, hq, z]))
   rw [gU ne]
   exact h.2.2 j q y hq hy
theorem zO.set {ps : List Addr} {S : aN} {k : Nat} {p : Addr} {o : Ob} (hp : ps[k]? = some p) : zO ps S (cB S p o) := fun b u nb hb => by
 rw [gU (fun z => nb (by rw [z]; exact List.mem_of_getElem? hp))]; exact hb
theorem cS.other {S : aN} {ps : List Addr} {hs : List HS} (h : cS S ps hs) {p : Addr} {o : Ob} (hp : p ∉ ps) : cS (cB S p o) ps hs :=
 ⟨h.1, h.2.1, fun j q y hq hy => by rw [gU (fun z => hp (by rw [← z]; exact List.mem_of_getElem? hq))]; exact h.2.2 j q y hq hy⟩
theorem cS.free {S : aN} {ps : List Addr} {hs : List HS} (h : cS S ps hs) {p : Addr} (hp : S p = none) : p ∉ ps := fun m => by
 obtain ⟨k, hk⟩ := List.mem_iff_getElem?.mp m
 have kl : k < hs.length := by rw [← h.2.1]; exact (List.getElem?_eq_some_iff.mp hk).1
 have z := h.2.2 k p _ hk (List.getElem?_eq_getElem kl)
 rw [hp] at z
 cases z
noncomputable def pP : Ds := fun ds S Q => ∃ (rows : List Rw) (p m : Nat), ds = [.lst (rows.map bC), .int p, .int m] ∧ Q (.lst ((eQ (mV rows p m)).map aJ)) S
theorem zp7 : ∀ ds S Q, pP ds S Q → ds.length = 3 := by rintro _ S Q ⟨_, _, _, rfl, _⟩; rfl
noncomputable def lF : Ds := fun ds S Q => ∃ (a : Addr) (n : Int) (rows : List Rw) (ss : List Slip) (p m : Nat) (rows' : List Rw) (ss' : List Slip) (k : Nat), ds = [.ref a, .int p, .int m] ∧ S a = some (.ins (bY n rows ss)) ∧ HA rows ss (eQ (mV rows p m)) rows' ss' k ∧
 Q (.lst ((eQ (mV rows p m)).map aJ)) (cB S a (.ins (bY n rows' ss')))
theorem zjq : ∀ ds S Q, lF ds S Q → ds.length = 3 := by rintro _ S Q ⟨_, _, _, _, _, _, _, _, _, rfl, _⟩; rfl
noncomputable def nM : Ds := fun ds S Q => ∃ n : Nat, ds = [.int n] ∧ n ≤ 100 ∧ ∀ ps S', cS S' ps (hs0 n) → Q (.lst (ps.map .ref)) S'
theorem ztr : ∀ ds S Q, nM ds S Q → ds.length = 1 := by rintro _ S Q ⟨_, rfl, _⟩; rfl
noncomputable def xO : Ds := fun ds S Q => ∃ (ps : List Addr) (hs hs' : List HS) (a : Ans) (g t w : Nat) (pg pt : Addr), ds = [.ref pg, .ref pt, .int w] ∧ ps[g]? = some pg ∧ ps[t]? = some pt ∧ cS S ps hs ∧ Stp hs (.tell g t w) hs' a ∧ ∀ S', cS S' ps hs' → zO ps S S' → Q (pA a) S'
theorem zwz : ∀ ds S Q, xO ds S Q → ds.length = 3 := by rintro _ S Q ⟨_, _, _, _, _, _, _, _, _, rfl, _⟩; rfl
noncomputable def qX : Ds := fun ds S Q => ∃ (ps : List Addr) (hs hs' : List HS) (d : Deed) (a : Ans), ds = [.lst (ps.map .ref), bH d] ∧ cS S ps hs ∧ Stp hs d hs' a ∧ ∀ S', cS S' ps hs' → zO ps S S' → Q (pA a) S'
theorem zw0 : ∀ ds S Q, qX ds S Q → ds.length = 2 := by rintro _ S Q ⟨_, _, _, _, _, rfl, _⟩; rfl
noncomputable def sM : Ds := fun ds S Q => ∃ (n : Nat) (deeds : List Deed) (hs' : List HS) (as : List Ans), ds = [.int n, .lst (deeds.map bH)] ∧ n ≤ 100 ∧ deeds.length ≤ 1000 ∧ Run (hs0 n) deeds hs' as ∧ ∀ S', Q (.lst (as.map pA)) S'
theorem zts : ∀ ds S Q, sM ds S Q → ds.length = 2 := by rintro _ S Q ⟨_, _, _, _, rfl, _⟩; rfl
noncomputable def dD : Ds := fun ds S Q => ∃ (n : Nat) (deeds : List Deed) (hs' : List HS) (as : List Ans), ds = [.int n, .lst (deeds.map bH)] ∧ n ≤ 100 ∧ Run (hs0 n) deeds hs' as ∧ ∀ ps S', cS S' ps hs' → Q (.lst (ps.map .ref)) S'
theorem zc0 : ∀ ds S Q, dD ds S Q → ds.length = 2 := by rintro _ S Q ⟨_, _, _, _, rfl, _⟩; rfl
noncomputable def xP : Ds := fun ds S Q => ∃ (n : Nat) (deeds : List Deed) (hs' : List HS) (as : List Ans), ds = [.int n, .lst (deeds.map bH)] ∧ n ≤ 100 ∧ Run (hs0 n) deeds hs' as ∧ ∀ S', Q (.lst (hs'.map fun h => .lst (h.ss.map aJ))) S'
theorem zw1 : ∀ ds S Q, xP ds S Q → ds.length = 2 := by rintro _ S Q ⟨_, _, _, _, rfl, _⟩; rfl
noncomputable def xQ : Ds := fun ds S Q => ∃ (n : Nat) (deeds : List Deed) (hs' : List HS) (as : List Ans), ds = [.int n, .lst (deeds.map bH)] ∧ n ≤ 100 ∧ Run (hs0 n) deeds hs' as ∧ ∀ S', Q (.lst (hs'.map fun h => .lst (h.rows.map bC))) S'
theorem zw2 : ∀ ds S Q, xQ ds S Q → ds.length = 2 := by rintro _ S Q ⟨_, _, _, _, rfl, _⟩; rfl
noncomputable def txt (rows : List Rw) : Str := tx "" ((there rows).map Rw.sg)
noncomputable def pQ : Ds := fun ds S Q => ∃ rows : List Rw, ds = [.lst (rows.map bC)] ∧ rows.length ≤ 1000 ∧ one1 rows ∧ Q (.str (txt rows)) S
theorem ztt : ∀ ds S Q, pQ ds S Q → ds.length = 1 := by rintro _ S Q ⟨_, rfl, _⟩; rfl
noncomputable def sN : Ds := fun ds S Q => ∃ (n : Nat) (deeds : List Deed) (hs' : List HS) (as : List Ans), ds = [.int n, .lst (deeds.map bH)] ∧ n ≤ 100 ∧ Run (hs0 n) deeds hs' as ∧ (∀ h ∈ hs', h.rows.length ≤ 1000 ∧ one1 h.rows) ∧ ∀ S', Q (.lst (hs'.map fun h => .str (txt h.rows))) S'
theorem ztu : ∀ ds S Q, sN ds S Q → ds.length = 2 := by rintro _ S Q ⟨_, _, _, _, rfl, _⟩; rfl
noncomputable def eT : Ds := fun ds S Q => ∃ (cells : List Int) (n : Nat), ds = [.lst (cells.map .int), .int n] ∧ 0 < n ∧ n ≤ 100 ∧ cells.length ≤ 64 ∧ ∀ deeds : List Deed, deeds.length = cells.length → (∀ d ∈ deeds, DOk n d) → Q (.lst (deeds.map bH)) S
theorem vW : ∀ ds S Q, eT ds S Q → ds.length = 2 := by rintro _ S Q ⟨_, _, rfl, _⟩; rfl
noncomputable def gQ : Ds := fun ds S Q => ∃ s : Slip, ds = [aJ s] ∧ Q (.bl true) S
theorem zc1 : ∀ ds S Q, gQ ds S Q → ds.length = 1 := by rintro _ S Q ⟨_, rfl, _⟩; rfl
noncomputable def dM : Ds := fun ds S Q => ∃ ss : List Slip, ds = [.lst (ss.map aJ)] ∧ Q (.bl true) S
theorem zP : ∀ ds S Q, dM ds S Q → ds.length = 1 := by rintro _ S Q ⟨_, rfl, _⟩; rfl
noncomputable def lG : Ds := fun ds S Q => ∃ (ns : List Int) (a b : Int), ds = [.scr ns, .int a, .int b] ∧ ns.length ≤ 63 ∧ Q (.int a) S
theorem zjr : ∀ ds S Q, lG ds S Q → ds.length = 3 := by rintro _ S Q ⟨_, _, _, rfl, _⟩; rfl
noncomputable def lay : Nat → Dv → Prop
 | 0, d => (∃ i, d = .int i) ∨ ∃ x, d = .str x ∧ PyData.strOk x = true
 | n + 1, d => lay n d ∨ ∃ ds : List Dv, (d = .tup ds ∨ d = .lst ds) ∧ ds.length ≤ 5000 ∧ ∀ x ∈ ds, lay n x
noncomputable def eY : Nat → Ds
 | 0 => fun _ _ _ => False
 | n + 1 => fun ds S Q => ∃ d, ds = [d, d] ∧ lay n d ∧ Q (.bl true) S
theorem tY : ∀ n ds S Q, eY n ds S Q → ds.length = 2
 | 0, _, _, _, h => h.elim
 | n + 1, _, S, Q, h => by obtain ⟨_, rfl, _⟩ := h; rfl
theorem sO {S : aN} {p : Addr} {ds : List Dv} {k : Addr → List Dv → Prop} (h : S p = some (.lst ds)) : vM S (.ref p) k = k p ds := by
 simp only [vM, zaf, h]
theorem zbp {S : aN} {p : Addr} {ds : List Dv} (h : S p = some (.lst ds)) : dZ S [.ref p] = some (.int ds.length) := by simp [dZ, jU, h]
theorem zacu {S : aN} {p : Addr} {ds : List Dv} {i : Int} {d : Dv} (h : S p = some (.lst ds)) (h0 : 0 ≤ i) (hd : ds[i.toNat]? = some d) : bI S (.ref p) (.int i) = some d := by
 show ((jU S (.ref p)).bind fun ds => atI ds i) = some d
 simp only [jU, h]
 exact rX h0 hd
noncomputable def pB : List (Str × Bool) := [("QuillError", true), ("NotYet", true), ("Clash", true), ("Backwards", true)]
noncomputable def dW : WS :=
 (eO (bN oLt (aU gL (aU gL (aU mD (aD 4) (wC (.int 48271))) (wC (.int 1021))) (wC (.int 8))) (wC (.int 3)))
 (aS (cI 9 (aU gL (aU gL (aU mD (aU fO (aU fO (aD 4) (aU zrt (aD 3) (wC (.int 4)))) (wC (.int 2))) (wC (.int 48271))) (wC (.int 1031))) (wC (.int 4))))
 (aS (cI 10 (zzl (wC (.str "ab ~c(d0i")) (some (aU gL (aD 3) (wC (.int 6)))) (some (aU fO (aU gL (aD 3) (wC (.int 6))) (aD 9)))))
 (aS (eO (bN iL (aU gL (aD 3) (wC (.int 20))) (wC (.int 3)))
 (cI 10 (zi8 (wC (.str "")) (aE (qT [4] (wR1 (aE (aU mD (wC (.int 4)) (aD 9)) aO)) rW (aU bI (bE fH aO) (aU gL (aU fO (aD 1) (aU mD (wC (.int 5)) (aD 0))) (wC (.int 94))))) aO)))
 aY)
 (mL (yS (aD 2) (aE (oV (aE (wC (.str "write")) (aE (aD 5) (aE (aD 7) (aE (aD 10) aO))))) aO))))))
 (eO (bN iL (aU gL (aU gL (aU mD (aD 4) (wC (.int 48271))) (wC (.int 1021))) (wC (.int 8))) (wC (.int 3)))
 (mL (yS (aD 2) (aE (oV (aE (wC (.str "rub")) (aE (aD 5) (aE (aD 7) (aE (aD 8) aO))))) aO)))
 (eO (bN oLt (aU gL (aU gL (aU mD (aD 4) (wC (.int 48271))) (wC (.int 1021))) (wC (.int 8))) (wC (.int 7)))
 (mL (yS (aD 2) (aE (oV (aE (wC (.str "tell")) (aE (aD 5) (aE (aD 6) (aE (aU gL (aU gL (aU mD (aU fO (aD 4) (aU mD (wC (.int 5)) (aD 3))) (wC (.int 48271))) (wC (.int 1039))) (aU fO (aD 3) (wC (.int 1)))) aO))))) aO)))
 (mL (yS (aD 2) (aE (oV (aE (wC (.str "share")) (aE (aD 5) (aE (aD 6) aO)))) aO))))))
def cQ {D ρ S} := bL dW.eq_1 D ρ S
noncomputable def jH : WS :=
 (aS (eO (bN iL (aU gL (aU gL (aU mD (aD 4) (wC (.int 48271))) (wC (.int 1087))) (wC (.int 7))) (wC (.int 1)))
 (aS (cI 7 (aU gL (aU gL (aU mD (aD 4) (wC (.int 48271))) (wC (.int 1091))) (wC (.int 190))))
 (cI 8 (aU gL (aU gL (aU mD (aD 4) (wC (.int 48271))) (wC (.int 1093))) (wC (.int 190)))))
 aY)
 dW)
def iD {D ρ S} := bL jH.eq_1 D ρ S
noncomputable def jI : WS :=
 (aS (cI 8 (aU gL (aU gL (aU mD (aU fO (aD 4) (wC (.int 1))) (wC (.int 48271))) (wC (.int 1033))) (wC (.int 4))))
 jH)
def iE {D ρ S} := bL jI.eq_1 D ρ S
noncomputable def jJ : WS :=
 (aS (cI 7 (aU gL (aU gL (aU mD (aU fO (aD 4) (aD 3)) (wC (.int 48271))) (wC (.int 1009))) (wC (.int 9))))
 jI)
def iF {D ρ S} := bL jJ.eq_1 D ρ S
noncomputable def jK : WS :=
 (aS (cI 6 (aU fO (aU gL (aU gL (aU mD (aU fO (aU fO (aU fO (aD 4) (aD 3)) (wC (.int 1))) (aU zrt (aD 3) (wC (.int 5)))) (wC (.int 48271))) (wC (.int 1019))) (aD 1)) (wC (.int 1))))
 jJ)
def iG {D ρ S} := bL jK.eq_1 D ρ S
noncomputable def jL : WS :=
 (aS (cI 5 (aU fO (aU gL (aU gL (aU mD (aU fO (aD 4) (aD 3)) (wC (.int 48271))) (wC (.int 1013))) (aD 1)) (wC (.int 1))))
 jK)
def iH {D ρ S} := bL jL.eq_1 D ρ S
noncomputable def cE : WS :=
 (aS (cI 4 (aU bI (aD 0) (aD 3)))
 jL)
def kB {D ρ S} := bL cE.eq_1 D ρ S
noncomputable def kC : WS :=
 (aS (cI 2 (wZ aO))
 (aS (zes 2 (qK 3 (aE (kZ dZ (aE (aD 0) aO)) aO)
 cE))
 (bA (aD 2))))
def uM {D ρ S} := bL kC.eq_1 D ρ S
noncomputable def zg9 : WS :=
 (bA (qT [] (wR2 (aE (wC (.int 1)) (aE (aU fO (aD 0) (wC (.int 1))) aO))) rW (zoa gY (aE (aD 0) aO))))
def zp8 {D ρ S} := bL zg9.eq_1 D ρ S
noncomputable def zc2 : WS :=
 (bA (zag (wSl (bE fX (aE (aD 0) aO)) (some (aD 1)) (some (aU fO (aD 1) (aD 2)))) (oV (aE (wC (.str "cut")) (aE (aD 0) aO)))))
def zmk {D ρ S} := bL zc2.eq_1 D ρ S
noncomputable def vX : WS :=
 (aS (cI 3 (bE pP (aE (pN "rows" (aD 0)) (aE (aD 1) (aE (aD 2) aO)))))
 (aS (mL (xI "hear_all" cP (aD 0) (aE (aD 3) aO)))
 (bA (aD 3))))
def zha {D ρ S} := bL vX.eq_1 D ρ S
noncomputable def zml : WS :=
 (aS (eO (bN oGe (aD 2) (kZ dZ (aE (pN "slips" (aD 0)) aO)))
 (bA (wC .non))
 aY)
 (aS (cI 3 (aU bI (pN "slips" (aD 0)) (aD 2)))
 (zth (bA (xI "hear" gB (aD 1) (aE (aD 3) aO))) (ztj "hear" iQ (aD 1) (aE (aD 3) aO)) ((pB, (bA (wC .non))) :: []))))
def xR {D ρ S} := bL zml.eq_1 D ρ S
noncomputable def ze6 : WS :=
 (bA (xI "hear_all" cP (aD 3) (aE (pN "slips" (aD 2)) aO)))
def zjs {D ρ S} := bL ze6.eq_1 D ρ S
noncomputable def ze7 : WS :=
 (aS (eO (bN iL (aU bI (aD 1) (wC (.int 0))) (wC (.str "tell")))
 (bA (bE xO (aE (aD 2) (aE (aD 3) (aE (aU bI (aD 1) (wC (.int 3))) aO)))))
 aY)
 ze6)
def lH {D ρ S} := bL ze7.eq_1 D ρ S
noncomputable def ze8 : WS :=
 (aS (cI 3 (aU bI (aD 0) (aU zf4 (aU bI (aD 1) (wC (.int 2))) (wC (.int 1)))))
 ze7)
def lJ {D ρ S} := bL ze8.eq_1 D ρ S
noncomputable def ze9 : WS :=
 (aS (eO (bN iL (aU bI (aD 1) (wC (.int 0))) (wC (.str "rub")))
 (bA (xI "rub" lF (aD 2) (aE (aU bI (aD 1) (wC (.int 2))) (aE (aU bI (aD 1) (wC (.int 3))) aO))))
 aY)
 ze8)
def jM {D ρ S} := bL ze9.eq_1 D ρ S
noncomputable def zfa : WS :=
 (aS (eO (bN iL (aU bI (aD 1) (wC (.int 0))) (wC (.str "write")))
 (bA (xI "write" iP (aD 2) (aE (aU bI (aD 1) (wC (.int 2))) (aE (aU bI (aD 1) (wC (.int 3))) aO))))
 aY)
 ze9)
def gR {D ρ S} := bL zfa.eq_1 D ρ S
noncomputable def zmm : WS :=
 (aS (cI 2 (aU bI (aD 0) (aU zf4 (aU bI (aD 1) (wC (.int 1))) (wC (.int 1)))))
 zfa)
def nN {D ρ S} := bL zmm.eq_1 D ρ S
noncomputable def iZ : WS :=
 (mL (yS (aD 3) (aE (bE qX (aE (aD 2) (aE (aD 4) aO))) aO)))
def zhb {D ρ S} := bL iZ.eq_1 D ρ S
noncomputable def zhc : WS :=
 (aS (cI 2 (bE nM (aE (aD 0) aO)))
 (aS (cI 3 (wZ aO))
 (aS (zes 3 (za0 4 (aD 1)
 iZ))
 (bA (aD 3)))))
def zp9 {D ρ S} := bL zhc.eq_1 D ρ S
noncomputable def dN : WS :=
 (mL (bE qX (aE (aD 2) (aE (aD 3) aO))))
def vY {D ρ S} := bL dN.eq_1 D ρ S
noncomputable def pC : WS :=
 (aS (cI 2 (bE nM (aE (aD 0) aO)))
 (aS (za0 3 (aD 1)
 dN)
 (bA (aD 2))))
def za6 {D ρ S} := bL pC.eq_1 D ρ S
noncomputable def zmn : WS :=
 (bA (zag (bE dD (aE (aD 0) (aE (aD 1) aO))) (pN "slips" (aD 0))))
def ztv {D ρ S} := bL zmn.eq_1 D ρ S
noncomputable def zmo : WS :=
 (bA (zag (bE dD (aE (aD 0) (aE (aD 1) aO))) (pN "rows" (aD 0))))
def ztw {D ρ S} := bL zmo.eq_1 D ρ S
noncomputable def zhd : WS :=
 (bA (zi8 (wC (.str "")) (aE (iS (aD 0) (eN (bZ (aU bI (aD 0) (wC (.int 3))))) (aU bI (aD 0) (wC (.int 2)))) aO)))
def zqa {D ρ S} := bL zhd.eq_1 D ρ S
noncomputable def zhe : WS :=
 (bA (zag (bE dD (aE (aD 0) (aE (aD 1) aO))) (bE pQ (aE (pN "rows" (aD 0)) aO))))
def zqb {D ρ S} := bL zhe.eq_1 D ρ S
noncomputable def pD : WS :=
 (aS (eO (yM (eN (bZ (fG "tuple" (aD 0)))) (bN oLt (kZ dZ (aE (aD 0) aO)) (wC (.int 2))))
 (bA (wC (.bl false)))
 aY)
 (aS (eO (yM (eN (bZ (fG "str" (aU bI (aD 0) (wC (.int 0)))))) (eN (bZ (bE dB (aE (aU bI (aD 0) (wC (.int 1))) aO)))))
 (bA (wC (.bl false)))
 aY)
 (aS (eO (uJ (bN iL (aU bI (aD 0) (wC (.int 0))) (wC (.str "put"))) (bN iL (kZ dZ (aE (aD 0) aO)) (wC (.int 4))))
 (bA (kW (bE dB (aE (aU bI (aD 0) (wC (.int 2))) aO)) (fG "str" (aU bI (aD 0) (wC (.int 3))))))
 aY)
 (bA (kW (aU (mS iL) (aU bI (aD 0) (wC (.int 0))) (wC (.str "cut"))) (aU (mS iL) (kZ dZ (aE (aD 0) aO)) (wC (.int 2))))))))
def rL {D ρ S} := bL pD.eq_1 D ρ S
noncomputable def cY : WS :=
 (eO (eN (bZ (bE gQ (aE (aD 1) aO))))
 (bA (wC (.bl false)))
 aY)
def sP {D ρ S} := bL cY.eq_1 D ρ S
noncomputable def mI : WS :=
 (aS (eO (eN (bZ (fG "list" (aD 0))))
 (bA (wC (.bl false)))
 aY)
 (aS (za0 1 (aD 0)
 cY)
 (bA (wC (.bl true)))))
def xS {D ρ S} := bL mI.eq_1 D ρ S
noncomputable def fI (n : Nat) : WS :=
 (eO (eN (bZ (bE (eY n) (aE (aU bI (aD 0) (aD 2)) (aE (aU bI (aD 1) (aD 2)) aO)))))
 (bA (wC (.bl false)))
 aY)
theorem zd3 {n : Nat} {D : Dn} {ρ : Ev} {S : aN} : fI n D ρ S =
 (eO (eN (bZ (bE (eY n) (aE (aU bI (aD 0) (aD 2)) (aE (aU bI (aD 1) (aD 2)) aO)))))
 (bA (wC (.bl false)))
 aY) D ρ S := id rfl
noncomputable def oF (n : Nat) : WS :=
 (bA (wC (.bl true)))
theorem zd4 {n : Nat} {D : Dn} {ρ : Ev} {S : aN} : oF n D ρ S =
 (bA (wC (.bl true))) D ρ S := id rfl
noncomputable def sQ (n : Nat) : WS :=
 (aS (qK 2 (aE (kZ dZ (aE (aD 1) aO)) aO)
 (fI n))
 (oF n))
theorem zd5 {n : Nat} {D : Dn} {ρ : Ev} {S : aN} : sQ n D ρ S =
 (aS (qK 2 (aE (kZ dZ (aE (aD 1) aO)) aO)
 (fI n))
 (oF n)) D ρ S := id rfl
noncomputable def sR (n : Nat) : WS :=
 (aS (eO (bN pH (kZ dZ (aE (aD 0) aO)) (kZ dZ (aE (aD 1) aO)))
 (bA (wC (.bl false)))
 aY)
 (sQ n))
theorem zd6 {n : Nat} {D : Dn} {ρ : Ev} {S : aN} : sR n D ρ S =
 (aS (eO (bN pH (kZ dZ (aE (aD 0) aO)) (kZ dZ (aE (aD 1) aO)))
 (bA (wC (.bl false)))
 aY)
 (sQ n)) D ρ S := id rfl
noncomputable def sS (n : Nat) : WS :=
 (aS (eO (yM (bN pH (fG "list" (aD 1)) (fG "list" (aD 0))) (eN (bZ (zws (aD 1)))))
 (bA (wC (.bl false)))
 aY)
 (sR n))
theorem zd7 {n : Nat} {D : Dn} {ρ : Ev} {S : aN} : sS n D ρ S =
 (aS (eO (yM (bN pH (fG "list" (aD 1)) (fG "list" (aD 0))) (eN (bZ (zws (aD 1)))))
 (bA (wC (.bl false)))
 aY)
 (sR n)) D ρ S := id rfl
noncomputable def sT (n : Nat) : WS :=
 (aS (eO (bN pH (fG "tuple" (aD 1)) (fG "tuple" (aD 0)))
 (bA (wC (.bl false)))
 aY)
 (sS n))
theorem zd8 {n : Nat} {D : Dn} {ρ : Ev} {S : aN} : sT n D ρ S =
 (aS (eO (bN pH (fG "tuple" (aD 1)) (fG "tuple" (aD 0)))
 (bA (wC (.bl false)))
 aY)
 (sS n)) D ρ S := id rfl
noncomputable def sU (n : Nat) : WS :=
 (aS (eO (bZ (fG "dict" (aD 1)))
 wNo
 aY)
 (sT n))
theorem zd9 {n : Nat} {D : Dn} {ρ : Ev} {S : aN} : sU n D ρ S =
 (aS (eO (bZ (fG "dict" (aD 1)))
 wNo
 aY)
 (sT n)) D ρ S := id rfl
noncomputable def sV (n : Nat) : WS :=
 (aS (eO (bZ (fG "str" (aD 1)))
 (bA (kW (fG "str" (aD 0)) (aU (mS iL) (aD 0) (aD 1))))
 aY)
 (sU n))
theorem uY {n : Nat} {D : Dn} {ρ : Ev} {S : aN} : sV n D ρ S =
 (aS (eO (bZ (fG "str" (aD 1)))
 (bA (kW (fG "str" (aD 0)) (aU (mS iL) (aD 0) (aD 1))))
 aY)
 (sU n)) D ρ S := id rfl
noncomputable def sW (n : Nat) : WS :=
 (aS (eO (bZ (fG "int" (aD 1)))
 (bA (kW (fG "int" (aD 0)) (kW (zer (fG "bool" (aD 0))) (aU (mS iL) (aD 0) (aD 1)))))
 aY)
 (sV n))
theorem pE {n : Nat} {D : Dn} {ρ : Ev} {S : aN} : sW n D ρ S =
 (aS (eO (bZ (fG "int" (aD 1)))
 (bA (kW (fG "int" (aD 0)) (kW (zer (fG "bool" (aD 0))) (aU (mS iL) (aD 0) (aD 1)))))
 aY)
 (sV n)) D ρ S := id rfl
noncomputable def sX (n : Nat) : WS :=
 (aS (eO (bZ (fG "bool" (aD 1)))
 (bA (kW (fG "bool" (aD 0)) (aU (mS iL) (aD 0) (aD 1))))
 aY)
 (sW n))
theorem pF {n : Nat} {D : Dn} {ρ : Ev} {S : aN} : sX n D ρ S =
 (aS (eO (bZ (fG "bool" (aD 1)))
 (bA (kW (fG "bool" (aD 0)) (aU (mS iL) (aD 0) (aD 1))))
 aY)
 (sW n)) D ρ S := id rfl
noncomputable def sY (n : Nat) : WS :=
 (aS (eO (bN oIs (aD 1) (wC .non))
 (bA (aU (mS oIs) (aD 0) (wC .non)))
 aY)
 (sX n))
theorem vZ {n : Nat} {D : Dn} {ρ : Ev} {S : aN} : sY n D ρ S =
 (aS (eO (bN oIs (aD 1) (wC .non))
 (bA (aU (mS oIs) (aD 0) (wC .non)))
 aY)
 (sX n)) D ρ S := id rfl
noncomputable def wA : WS :=
 (aS (eO (bN oGt (kZ dZ (aE (aD 0) aO)) (wC (.int 63)))
 (bA (aD 2))
 aY)
 (bA (aD 1)))
def zhf {D ρ S} := bL wA.eq_1 D ρ S
theorem zqc : ∀ ds S Q, pP ds S Q → zc2 { nx := fun _ S' => Q .non S', rt := Q } (cK 3 ds) S := by
 rintro _ S Q ⟨rows, p, m, rfl, q⟩
 have ec : rQ ((there rows).map fun r => cC r.tag) (some (p : Int)) (some ((p : Int) + (m : Int))) = (mV rows p m).map cC := by
  rw [zjj]
  unfold mV
  rw [← List.map_drop, ← List.map_take, List.map_map]; rfl
 simp [zmk, cK, ec]
 refine zct _ [] ?_
 rw [List.nil_append]
 exact q
theorem zjt : ∀ ds S Q, lF ds S Q → vX { nx := fun _ S' => Q .non S', rt := Q } (cK 4 ds) S := by
 rintro _ S Q ⟨a, n, rows, ss, p, m, rows', ss', k, rfl, hS, h, q⟩
 simp [zha, cK, cM hS]
 refine ⟨rows, p, m, rfl, ?_⟩
 simp [cM hS]
 refine ⟨a, _, n, rows, ss, eQ (mV rows p m), rows', ss', k, rfl, hS, xF, (fun e => by cases e), h, ?_⟩
 simp
 exact q
theorem zfb {Q : QE} : ∀ (m k : Nat) (ps : List Addr) (S : aN), cS S ps (hs0 k) → (∀ ps S', cS S' ps (hs0 (k + m)) → Q (.lst (ps.map .ref)) S') →
 cmpL (yE [] rW) (wS [] (zoa gY (aE (aD 0) aO))) ((List.range' k m).map fun (i : Nat) => Dv.int (1 + (i : Int))) S (ps.map .ref) (fun zs S2 => Q (.lst zs) S2)
 | 0, k, ps, S, h, q => q ps S h
 | m + 1, k, ps, S, h, q => by
   have lp : ps.length = k := by rw [h.2.1]; exact List.length_replicate
   rw [List.range'_succ, List.map_cons]
   simp [cmpL]
   intro p hp
   refine ⟨p, 1 + (k : Int), rfl, cF, ?_⟩
   have hp' := h.free hp
   have h' : cS (cB S p (.ins (bY (1 + (k : Int)) [] []))) (ps ++ [p]) (hs0 (k + 1)) := by
    refine ⟨?_, by rw [List.length_append, lp]; exact List.length_replicate.symm, fun j q y hq hy => ?_⟩
    · rw [List.nodup_append]
      exact ⟨h.1, List.nodup_cons.mpr ⟨List.not_mem_nil, List.nodup_nil⟩, fun a ha b hb e => hp' (by rw [← List.mem_singleton.mp hb, ← e]; exact ha)⟩
    · have ey : y = ⟨[], []⟩ := (List.mem_replicate.mp (List.mem_of_getElem? hy)).2
      by_cases hj : j < ps.length
      · rw [List.getElem?_append_left hj] at hq
        rw [gU (fun z => hp' (by rw [← z]; exact List.mem_of_getElem? hq))]
        exact h.2.2 j q y hq (by
         rw [ey]
         unfold hs0
         rw [List.getElem?_replicate, if_pos (by omega)])
      · rw [List.getElem?_append_right (by omega)] at hq
        have ej : j = ps.length := by
         have := (List.getElem?_eq_some_iff.mp hq).1
         rw [List.length_singleton] at this; omega
        rw [ej, Nat.sub_self] at hq
        have eq : q = p := (Option.some.inj hq).symm
        rw [eq, cF, ey, ej, lp, Int.add_comm]
   have z := zfb (Q := Q) m (k + 1) (ps ++ [p]) _ h' (fun ps' S' hh => q ps' S' (by rw [show k + (m + 1) = k + 1 + m by omega]; exact hh))
   rw [List.map_append] at z
   simp [dF]
   exact z
theorem ztx : ∀ ds S Q, nM ds S Q → zg9 { nx := fun _ S' => Q .non S', rt := Q } (cK 1 ds) S := by
 rintro _ S Q ⟨n, rfl, hn, q⟩
 have z := zfb (Q := Q) n 0 [] S ⟨List.nodup_nil, rfl, fun k p h hp => by simp at hp⟩ (fun ps S' h => q ps S' (by rw [Nat.zero_add] at h; exact h))
 simp [zp8, cK]
 refine ⟨by omega, by omega, ?_⟩
 have e : ((n : Int) + 1 - 1).toNat = n := by omega
 unfold zd2
 rw [List.range_eq_range']
 first | exact z | (rw [e]; exact z)
theorem zzx {nm : Str} {D : Dn} {ρ : Ev} {S : aN} {w : WS} (h : nm = "NotYet" ∨ nm = "Clash" ∨ nm = "Backwards") (k : w D ρ S) : zp1 [(pB, w)] nm D ρ S := by
 rcases h with rfl | rfl | rfl <;> exact k
theorem zw3 {rows : List Rw} {s : Slip} {nm : Str} (h : ztl rows s = some nm) : nm = "NotYet" ∨ nm = "Clash" ∨ nm = "Backwards" := by
 cases s with
 | put t b x =>
   have h' : zmh rows t b x = some nm := h
   unfold zmh at h'
   split at h'
   · split at h'
     · cases h'
     · cases h'; exact .inr (.inl rfl)
   · split at h'
     · cases h'; exact .inl rfl
     · split at h'
       · cases h'
       · cases h'; exact .inr (.inr rfl)
 | cut t =>
   have h' : zmi rows t = some nm := h
   unfold zmi at h'
   split at h'
   · cases h'
   · cases h'; exact .inl rfl
theorem zw4 : ∀ ds S Q, xO ds S Q → zml { nx := fun _ S' => Q .non S', rt := Q } (cK 4 ds) S := by
 rintro _ S Q ⟨ps, hs, hs', a, g, t, w, pg, pt, rfl, hg, ht, hA, st, q⟩
 have at' : ∀ {k : Nat} {p : Addr} {s : HS}, ps[k]? = some p → hs[k]? = some s → S p = some (.ins (bY ((k : Int) + 1) s.rows s.ss)) := fun h1 h2 => hA.2.2 _ _ _ h1 h2
 have ixs : ∀ {s : HS} {x : Slip} (S : aN), s.ss[w]? = some x → bI S (.lst (s.ss.map aJ)) (.int (w : Int)) = some (aJ x) := fun S h => eP (by omega) (by rw [Int.toNat_natCast, List.getElem?_map, h]; rfl)
 cases st with
 | @past _ _ _ s u es eu hw =>
   have hl : ((s.ss.length : Int) ≤ (w : Int)) := by omega
   simp [xR, cK, cM (at' hg es), hl]
   exact q S hA (zO.refl _ _)
 | @old _ _ _ s u x es eu ex oh okx hm =>
   have hl := (List.getElem?_eq_some_iff.mp ex).1
   have hl' : ¬ ((s.ss.length : Int) ≤ (w : Int)) := by omega
   simp [xR, cK, cM (at' hg es), hl', ixs _ ex]
   unfold zth
   left
   simp [cM (at' ht eu)]
   exact ⟨pt, _, u.rows, u.ss, x, rfl, at' ht eu, oh, okx, fun _ => q S hA (zO.refl _ _), fun z => absurd hm z⟩
 | @new _ _ _ s u x rows' es eu ex oh okx hm hr oa =>
   have hl := (List.getElem?_eq_some_iff.mp ex).1
   have hl' : ¬ ((s.ss.length : Int) ≤ (w : Int)) := by omega
   simp [xR, cK, cM (at' hg es), hl', ixs _ ex]
   unfold zth
   left
   simp [cM (at' ht eu)]
   exact ⟨pt, _, u.rows, u.ss, x, rfl, at' ht eu, oh, okx, fun z => absurd z hm, fun _ => ⟨rows', hr, q _ (hA.set ht ⟨rows', u.ss ++ [x]⟩) (zO.set ht)⟩⟩
 | @refused _ _ _ s u x nm es eu ex oh okx hm hr oa =>
   have hl := (List.getElem?_eq_some_iff.mp ex).1
   have hl' : ¬ ((s.ss.length : Int) ≤ (w : Int)) := by omega
   simp [xR, cK, cM (at' hg es), hl', ixs _ ex]
   unfold zth
   right
   simp [cM (at' ht eu)]
   refine ⟨pt, _, u.rows, u.ss, x, nm, rfl, at' ht eu, oh, okx, hm, hr, zzx (zw3 hr) ?_⟩
   simp
   exact q S hA (zO.refl _ _)
theorem kJ : PyData.strOk ("write" : Str) = true := by decide +kernel
theorem qY : PyData.strOk ("rub" : Str) = true := by decide +kernel
theorem pR : PyData.strOk ("tell" : Str) = true := by decide +kernel
theorem tZ : PyData.strOk ("share" : Str) = true := by decide +kernel
@[simp] theorem zafd {S : aN} : iL S (.str "write") (.str "write") = some true := by rw [eV kJ kJ]; simp
@[simp] theorem zafe {S : aN} : iL S (.str "rub") (.str "write") = some false := by rw [eV qY kJ, decide_eq_false (by decide +kernel)]
@[simp] theorem zaff {S : aN} : iL S (.str "tell") (.str "write") = some false := by rw [eV pR kJ, decide_eq_false (by decide +kernel)]
@[simp] theorem zafg {S : aN} : iL S (.str "share") (.str "write") = some false := by rw [eV tZ kJ, decide_eq_false (by decide +kernel)]
@[simp] theorem zafh {S : aN} : iL S (.str "write") (.str "rub") = some false := by rw [eV kJ qY, decide_eq_false (by decide +kernel)]
@[simp] theorem zafi {S : aN} : iL S (.str "rub") (.str "rub") = some true := by rw [eV qY qY]; simp
@[simp] theorem zafj {S : aN} : iL S (.str "tell") (.str "rub") = some false := by rw [eV pR qY, decide_eq_false (by decide +kernel)]
@[simp] theorem zafk {S : aN} : iL S (.str "share") (.str "rub") = some false := by rw [eV tZ qY, decide_eq_false (by decide +kernel)]
@[simp] theorem zafl {S : aN} : iL S (.str "tell") (.str "tell") = some true := by rw [eV pR pR]; simp
@[simp] theorem zafm {S : aN} : iL S (.str "share") (.str "tell") = some false := by rw [eV tZ pR, decide_eq_false (by decide +kernel)]
theorem zw5 : ∀ ds S Q, qX ds S Q → zmm { nx := fun _ S' => Q .non S', rt := Q } (cK 4 ds) S := by
 rintro _ S Q ⟨ps, hs, hs', d, a, rfl, hA, st, q⟩
 have ixp : ∀ {k : Nat} {p : Addr} (S : aN), ps[k]? = some p → bI S (.lst (ps.map .ref)) (.int (k : Int)) = some (.ref p) := fun S h => eP (by omega) (by rw [Int.toNat_natCast, List.getElem?_map, h]; rfl)
 cases st with
 | @write h p z s rows' ss' k es hl hz ha =>
   obtain ⟨ph, hp, hS⟩ := hA.at es
   simp [nN, gR, cK, bH, ixp _ hp, cM hS]
   exact ⟨ph, _, s.rows, s.ss, p, z, rows', ss', k, rfl, hS, hl, hz, ha, q _ (hA.set hp ⟨rows', ss'⟩) (zO.set hp)⟩
 | @rub h p m s rows' ss' k es ha =>
   obtain ⟨ph, hp, hS⟩ := hA.at es
   simp [nN, gR, jM, cK, bH, ixp _ hp, cM hS]
   exact ⟨ph, _, s.rows, s.ss, p, m, rows', ss', k, rfl, hS, ha, q _ (hA.set hp ⟨rows', ss'⟩) (zO.set hp)⟩
 | @share g t s u rows' ss' k es eu ha =>
   obtain ⟨pg, hg, hSg⟩ := hA.at es
   obtain ⟨pt, ht, hSt⟩ := hA.at eu
   simp [nN, gR, jM, lJ, lH, zjs, cK, bH, ixp _ hg, ixp _ ht, cM hSg, cM hSt]
   exact ⟨pt, _, _, u.rows, u.ss, s.ss, rows', ss', k, rfl, hSt, xF, (fun e => by cases e), ha, q _ (hA.set ht ⟨rows', ss'⟩) (zO.set ht)⟩
 | @past g t w s u es eu hw =>
   obtain ⟨pg, hg, hSg⟩ := hA.at es
   obtain ⟨pt, ht, hSt⟩ := hA.at eu
   simp [nN, gR, jM, lJ, lH, cK, bH, ixp _ hg, ixp _ ht]
   exact ⟨ps, _, _, _, g, t, w, pg, pt, rfl, hg, ht, hA, .past es eu hw, q⟩
 | @old g t w s u x es eu ex oh okx hm =>
   obtain ⟨pg, hg, hSg⟩ := hA.at es
   obtain ⟨pt, ht, hSt⟩ := hA.at eu
   simp [nN, gR, jM, lJ, lH, cK, bH, ixp _ hg, ixp _ ht]
   exact ⟨ps, _, _, _, g, t, w, pg, pt, rfl, hg, ht, hA, .old es eu ex oh okx hm, q⟩
 | @new g t w s u x rows' es eu ex oh okx hm hr oa =>
   obtain ⟨pg, hg, hSg⟩ := hA.at es
   obtain ⟨pt, ht, hSt⟩ := hA.at eu
   simp [nN, gR, jM, lJ, lH, cK, bH, ixp _ hg, ixp _ ht]
   exact ⟨ps, _, _, _, g, t, w, pg, pt, rfl, hg, ht, hA, .new es eu ex oh okx hm hr oa, q⟩
 | @refused g t w s u x nm es eu ex oh okx hm hr oa =>
   obtain ⟨pg, hg, hSg⟩ := hA.at es
   obtain ⟨pt, ht, hSt⟩ := hA.at eu
   simp [nN, gR, jM, lJ, lH, cK, bH, ixp _ hg, ixp _ ht]
   exact ⟨ps, _, _, _, g, t, w, pg, pt, rfl, hg, ht, hA, .refused es eu ex oh okx hm hr oa, q⟩
theorem zju {D : Dn} {ps : List Addr} {p3 : Addr} {x0 x1 : Option Dv} {hs hs' : List HS} {ds : List Deed} {as : List Ans} (rn : Run hs ds hs' as) : ∀ (acc : List Ans) (S : aN) (x4 : Option Dv), acc.length + ds.length ≤ 1000 → cS S ps hs → S p3 = some (.lst (acc.map pA)) → p3 ∉ ps →
 (∀ S' y, S' p3 = some (.lst ((acc ++ as).map pA)) → D.nx [x0, x1, some (.lst (ps.map .ref)), some (.ref p3), y] S') → dL 4 iZ D (ds.map bH) [x0, x1, some (.lst (ps.map .ref)), some (.ref p3), x4] S := by
 induction rn with
 | nil =>
   intro acc S x4 hl hA h3 n3 fin
   exact fin S x4 (by rw [List.append_nil]; exact h3)
 | @cons hs h1 h2 d ds a as st _ ih =>
   intro acc S x4 hl hA h3 n3 fin
   rw [List.length_cons] at hl
   have step := fun S' (hA' : cS S' ps h1) (h3' : S' p3 = some (.lst ((acc ++ [a]).map pA))) => ih (acc ++ [a]) S' (some (bH d)) (by rw [List.length_append, List.length_singleton]; omega) hA' h3' n3 (fun S2 y z => fin S2 y (by rw [List.append_assoc] at z; exact z))
   show iZ { D with nx := dL 4 iZ D (ds.map bH), ct := dL 4 iZ D (ds.map bH), bk := D.nx } [x0, x1, some (.lst (ps.map .ref)), some (.ref p3), some (bH d)] S
   generalize dL 4 iZ D (ds.map bH) = N at step ⊢
   have hlim : acc.length < mT := by unfold mT; omega
   simp [zhb, sO h3]
   refine ⟨ps, hs, h1, d, a, rfl, hA, st, fun S' hA' kp => ?_⟩
   have h3' := kp p3 _ n3 h3
   simp [sO h3', hlim]
   exact step _ (hA'.other n3) (by rw [cF, List.map_append]; rfl)
theorem zty {i : Nat} {ρ : Ev} {S : aN} {p : Addr} {ds : List Dv} {k : Ev → aN → Prop} (h1 : ev? ρ i = some (.ref p)) (h2 : S p = some (.lst ds)) (h : k (ρ.set i (some (.lst ds))) (zaz S p)) : xC i ρ S k := by
 simp only [xC, h1, h2]
 exact h
theorem ztz : ∀ ds S Q, sM ds S Q → zhc { nx := fun _ S' => Q .non S', rt := Q } (cK 5 ds) S := by
 rintro _ S Q ⟨n, deeds, hs', as, rfl, hn, hl, rn, q⟩
 simp [zp9, cK]
 refine ⟨n, rfl, hn, fun ps S1 hA => ?_⟩
 simp
 intro p3 h3
 refine zju rn [] _ none (by show 0 + _ ≤ _; omega) (hA.other (hA.free h3)) cF (hA.free h3) fun S' y z => ?_
 rw [List.nil_append] at z
 dsimp only
 refine zty (by simp) z ?_
 simp
 exact q _
theorem zjv {D : Dn} {ps : List Addr} {x0 x1 : Option Dv} {hs hs' : List HS} {ds : List Deed} {as : List Ans} (rn : Run hs ds hs' as) : ∀ (S : aN) (x3 : Option Dv), cS S ps hs →
 (∀ S' y, cS S' ps hs' → D.nx [x0, x1, some (.lst (ps.map .ref)), y] S') → dL 3 dN D (ds.map bH) [x0, x1, some (.lst (ps.map .ref)), x3] S := by
 induction rn with
 | nil => intro S x3 hA fin; exact fin S x3 hA
 | @cons hs h1 h2 d ds a as st _ ih =>
   intro S x3 hA fin
   have step := fun S' (hA' : cS S' ps h1) => ih S' (some (bH d)) hA' fin
   show dN { D with nx := dL 3 dN D (ds.map bH), ct := dL 3 dN D (ds.map bH), bk := D.nx } [x0, x1, some (.lst (ps.map .ref)), some (bH d)] S
   generalize dL 3 dN D (ds.map bH) = N at step ⊢
   simp [vY]
   exact ⟨ps, hs, h1, d, a, rfl, hA, st, fun S' hA' kp => step S' hA'⟩
theorem zc3 : ∀ ds S Q, dD ds S Q → pC { nx := fun _ S' => Q .non S', rt := Q } (cK 4 ds) S := by
 rintro _ S Q ⟨n, deeds, hs', as, rfl, hn, rn, q⟩
 simp [za6, cK]
 refine ⟨n, rfl, hn, fun ps S1 hA => ?_⟩
 simp
 refine zjv rn _ none hA fun S' y z => ?_
 simp
 exact q ps S' z
theorem zhg {S : aN} {f : Str} {v : HS → Dv} (hv : ∀ (n : Int) (h : HS), (bY n h.rows h.ss).lookup f = some (v h)) {Q : List Dv → aN → Prop} : ∀ (ps : List Addr) (hs : List HS) (acc : List Dv), ps.length = hs.length → (∀ (k : Nat) p h, ps[k]? = some p → hs[k]? = some h → ∃ n : Int, S p = some (.ins (bY n h.rows h.ss))) →
 Q (acc ++ hs.map v) S → cmpL rW (pN f (aD 0)) (ps.map .ref) S acc Q
 | [], [], acc, _, _, q => by simpa [cmpL] using q
 | [], _ :: _, _, h, _, _ => by simp at h
 | _ :: _, [], _, h, _, _ => by simp at h
 | p :: ps, h :: hs, acc, hl, hk, q => by
   obtain ⟨n, hS⟩ := hk 0 p h rfl rfl
   have z := zhg (S := S) hv (Q := Q) ps hs (acc ++ [v h]) (by simpa using hl) (fun k p' h' h1 h2 => hk (k + 1) p' h' (by simpa using h1) (by simpa using h2)) (by simpa using q)
   simp [cmpL, cM hS, hv]
   exact z
theorem cS.ex {S : aN} {ps : List Addr} {hs : List HS} (h : cS S ps hs) : ∀ (k : Nat) p x, ps[k]? = some p → hs[k]? = some x → ∃ n : Int, S p = some (.ins (bY n x.rows x.ss)) := fun k p x h1 h2 => ⟨_, h.2.2 k p x h1 h2⟩
theorem zw6 : ∀ ds S Q, xQ ds S Q → zmo { nx := fun _ S' => Q .non S', rt := Q } (cK 2 ds) S := by
 rintro _ S Q ⟨n, deeds, hs', as, rfl, hn, rn, q⟩
 simp [ztw, cK]
 refine ⟨n, deeds, hs', as, rfl, hn, rn, fun ps S1 hA => ?_⟩
 simp
 exact zhg (fun n h => zwt) ps hs' [] hA.2.1 hA.ex (q _)
theorem zw7 : ∀ ds S Q, xP ds S Q → zmn { nx := fun _ S' => Q .non S', rt := Q } (cK 2 ds) S := by
 rintro _ S Q ⟨n, deeds, hs', as, rfl, hn, rn, q⟩
 simp [ztv, cK]
 refine ⟨n, deeds, hs', as, rfl, hn, rn, fun ps S1 hA => ?_⟩
 simp
 exact zhg (fun n h => ztc) ps hs' [] hA.2.1 hA.ex (q _)
theorem uA {S : aN} {Q : List Dv → aN → Prop} : ∀ (rows : List Rw) (acc : List Dv), Q (acc ++ (there rows).map fun r => Dv.str r.sg) S → cmpL (eN (bZ (aU bI (aD 0) (wC (.int 3))))) (aU bI (aD 0) (wC (.int 2))) (rows.map bC) S acc Q
 | [], acc, q => by simpa [cmpL, there] using q
 | r :: rs, acc, q => by
   cases ho : r.out with
   | true =>
     have e : there (r :: rs) = there rs := by unfold there; rw [List.filter_cons, ho]; rfl
     rw [e] at q
     have z := uA (S := S) (Q := Q) rs acc q
     simp [cmpL, iI, ho]
     exact z
   | false =>
     have e : there (r :: rs) = r :: there rs := by unfold there; rw [List.filter_cons, ho]; rfl
     rw [e] at q
     have z := uA (S := S) (Q := Q) rs (acc ++ [.str r.sg]) (by simpa using q)
     simp [cmpL, iI, ho]
     exact z
theorem zt0 : ∀ ds S Q, pQ ds S Q → zhd { nx := fun _ S' => Q .non S', rt := Q } (cK 1 ds) S := by
 rintro _ S Q ⟨rows, rfl, hl, h1, q⟩
 simp [zqa, cK]
 refine uA rows [] ?_
 have hs := zcb (rows := there rows) (fun r hr => h1 r (kI hr))
 have hle := pM rows
 simp
 refine ⟨(there rows).map Rw.sg, by rw [List.map_map]; rfl, ?_, by rw [zbm]; exact q⟩
 rw [hs, tS]; omega
theorem zfc {S : aN} {Q : List Dv → aN → Prop} : ∀ (ps : List Addr) (hs : List HS) (acc : List Dv), ps.length = hs.length → (∀ (k : Nat) p h, ps[k]? = some p → hs[k]? = some h → ∃ n : Int, S p = some (.ins (bY n h.rows h.ss))) → (∀ h ∈ hs, h.rows.length ≤ 1000 ∧ one1 h.rows) →
 Q (acc ++ hs.map fun h => .str (txt h.rows)) S → cmpL rW (bE pQ (aE (pN "rows" (aD 0)) aO)) (ps.map .ref) S acc Q
 | [], [], acc, _, _, _, q => by simpa [cmpL] using q
 | [], _ :: _, _, h, _, _, _ => by simp at h
 | _ :: _, [], _, h, _, _, _ => by simp at h
 | p :: ps, h :: hs, acc, hl, hk, hw, q => by
   obtain ⟨n, hS⟩ := hk 0 p h rfl rfl
   obtain ⟨w1, w2⟩ := hw h List.mem_cons_self
   have z := zfc (S := S) (Q := Q) ps hs (acc ++ [.str (txt h.rows)]) (by simpa using hl) (fun k p' h' h1 h2 => hk (k + 1) p' h' (by simpa using h1) (by simpa using h2)) (fun x hx => hw x (List.mem_cons_of_mem _ hx)) (by simpa using q)
   simp [cmpL, cM hS]
   exact ⟨h.rows, rfl, w1, w2, z⟩
theorem zt1 : ∀ ds S Q, sN ds S Q → zhe { nx := fun _ S' => Q .non S', rt := Q } (cK 2 ds) S := by
 rintro _ S Q ⟨n, deeds, hs', as, rfl, hn, rn, hw, q⟩
 simp [zqb, cK]
 refine ⟨n, deeds, hs', as, rfl, hn, rn, fun ps S1 hA => ?_⟩
 simp
 exact zfc ps hs' [] hA.2.1 hA.ex hw (q _)
theorem zc4 : ∀ ds S Q, gQ ds S Q → pD { nx := fun _ S' => Q .non S', rt := Q } (cK 1 ds) S := by
 rintro _ S Q ⟨s, rfl, q⟩
 cases s with
 | put t b x =>
   simp [rL, cK, aJ]
   exact q
 | cut t =>
   simp [rL, cK, aJ]
   exact q
theorem zfd {D : Dn} {S : aN} {x0 : Option Dv} (fin : ∀ y, D.nx [x0, y] S) : ∀ (ss : List Slip) (x1 : Option Dv), dL 1 cY D (ss.map aJ) [x0, x1] S
 | [], x1 => fin x1
 | s :: ss, x1 => by
   have step := zfd fin ss (some (aJ s))
   show cY { D with nx := dL 1 cY D (ss.map aJ), ct := dL 1 cY D (ss.map aJ), bk := D.nx } [x0, some (aJ s)] S
   generalize dL 1 cY D (ss.map aJ) = N at step ⊢
   simp [sP]
   refine ⟨s, rfl, ?_⟩
   simp
   exact step
theorem zQ : ∀ ds S Q, dM ds S Q → mI { nx := fun _ S' => Q .non S', rt := Q } (cK 2 ds) S := by
 rintro _ S Q ⟨ss, rfl, q⟩
 simp [xS, cK]
 exact zfd (fun y => by simp; exact q) ss none
theorem zjw : ∀ ds S Q, lG ds S Q → wA { nx := fun _ S' => Q .non S', rt := Q } (cK 3 ds) S := by
 rintro _ S Q ⟨ns, a, b, rfl, hl, q⟩
 have h : ¬ ((63 : Int) < (ns.length : Int)) := by omega
 simp [zhf, cK, h]
 exact q
theorem zjx {D : Dn} {S : aN} {n : Nat} {d : Dv} {ds : List Dv} (hd : d = .tup ds ∨ d = .lst ds) (hl : ∀ x ∈ ds, lay n x) (fin : ∀ y2, D.nx [some d, some d, y2] S) : ∀ (m k : Nat) (x2 : Option Dv), m + k = ds.length →
 gK 2 (fI (n + 1)) D m (k : Int) [some d, some d, x2] S
 | 0, k, x2, _ => fin x2
 | m + 1, k, x2, hm => by
   have hk : k < ds.length := by omega
   have g : ds[k]? = some ds[k] := List.getElem?_eq_getElem hk
   have step : gK 2 (fI (n + 1)) D m ((k : Int) + 1) [some d, some d, some (.int k)] S := zjx hd hl fin m (k + 1) (some (.int k)) (by omega)
   show fI (n + 1) { D with nx := gK 2 (fI (n + 1)) D m ((k : Int) + 1), ct := gK 2 (fI (n + 1)) D m ((k : Int) + 1), bk := D.nx } [some d, some d, some (.int k)] S
   generalize gK 2 (fI (n + 1)) D m ((k : Int) + 1) = N at step ⊢
   have ix : ∀ S : aN, bI S d (.int (k : Int)) = some ds[k] := fun S => by
    rcases hd with e | e <;> rw [e]
    · exact rX (by omega) (by rw [Int.toNat_natCast]; exact g)
    · exact eP (by omega) (by rw [Int.toNat_natCast]; exact g)
   simp [zd3, ix]
   refine ⟨ds[k], rfl, hl _ (List.getElem_mem hk), ?_⟩
   simp
   exact step
theorem uB : ∀ n ds S Q, eY (n + 1) ds S Q → sY n { nx := fun _ S' => Q .non S', rt := Q } (cK 3 ds) S := by
 have base : ∀ n d S Q, lay 0 d → Q (.bl true) S → sY n { nx := fun _ S' => Q .non S', rt := Q } (cK 3 [d, d]) S := by
  rintro n d S Q h q
  rcases h with ⟨i, rfl⟩ | ⟨x, rfl, okx⟩
  · have e1 : oIs S (.int i) .non = some false := rfl
    simp [vZ, pF, pE, cK, e1]
    exact q
  · have e1 : oIs S (.str x) .non = some false := rfl
    have e2 : isI S "bool" (.str x) = some (.bl false) := rfl
    have e3 : isI S "int" (.str x) = some (.bl false) := rfl
    have e4 : iL S (.str x) (.str x) = some true := by rw [eV okx okx]; simp
    simp [vZ, pF, pE, uY, cK, e1, e2, e3, e4]
    exact q
 have seq : ∀ n d (ds : List Dv) S Q, (d = .tup ds ∨ d = .lst ds) → ds.length ≤ 5000 → (∀ x ∈ ds, lay n x) → Q (.bl true) S → sY (n + 1) { nx := fun _ S' => Q .non S', rt := Q } (cK 3 [d, d]) S := by
  rintro n d ds S Q hd hl hx q
  have z := zjx (D := { nx := oF (n + 1) { nx := fun _ S' => Q .non S', rt := Q }, rt := Q }) (S := S) hd hx (fun y2 => by simp [zd4]; exact q) ds.length 0 none (by omega)
  have e1 : oIs S d .non = some false := by rcases hd with e | e <;> rw [e] <;> rfl
  have e2 : isI S "bool" d = some (.bl false) := by rcases hd with e | e <;> rw [e] <;> rfl
  have e3 : isI S "int" d = some (.bl false) := by rcases hd with e | e <;> rw [e] <;> rfl
  have e4 : isI S "str" d = some (.bl false) := by rcases hd with e | e <;> rw [e] <;> rfl
  have e5 : isI S "dict" d = some (.bl false) := by rcases hd with e | e <;> rw [e] <;> rfl
  have e6 : isP S d = some (.bl true) := by rcases hd with e | e <;> rw [e] <;> rfl
  have e7 : ∃ b, isI S "tuple" d = some (.bl b) := by rcases hd with e | e <;> rw [e] <;> exact ⟨_, rfl⟩
  have e8 : ∃ b, isI S "list" d = some (.bl b) := by rcases hd with e | e <;> rw [e] <;> exact ⟨_, rfl⟩
  have e9 : dZ S [d] = some (.int ds.length) := by
   rcases hd with e | e <;> rw [e]
   · exact zr7
   · exact zr6
  obtain ⟨b7, e7⟩ := e7
  obtain ⟨b8, e8⟩ := e8
  simp [vZ, pF, pE, uY, zd9, zd8, zd7, zd6, zd5, cK, e1, e2, e3, e4, e5, e6, e7, e8, e9]
  exact ⟨by omega, z⟩
 rintro n _ S Q ⟨d, rfl, h, q⟩
 induction n generalizing d with
 | zero => exact base 0 d S Q h q
 | succ n ih =>
   have down : ∀ (m : Nat) (d : Dv), lay m d → lay 0 d ∨ ∃ m' ds, m' < m ∧ (d = .tup ds ∨ d = .lst ds) ∧ ds.length ≤ 5000 ∧ ∀ x ∈ ds, lay m' x := by
    intro m
    induction m with
    | zero => exact fun d h => .inl h
    | succ m ihm =>
      intro d h
      rcases h with h | ⟨ds, h1, h2, h3⟩
      · rcases ihm d h with z | ⟨m', ds, z1, z2⟩
        · exact .inl z
        · exact .inr ⟨m', ds, by omega, z2⟩
      · exact .inr ⟨m, ds, by omega, h1, h2, h3⟩
   have up : ∀ (m m' : Nat) (d : Dv), m' ≤ m → lay m' d → lay m d := by
    intro m
    induction m with
    | zero => intro m' d hm h; rw [show m' = 0 by omega] at h; exact h
    | succ m ihm =>
      intro m' d hm h
      by_cases e : m' = m + 1
      · rw [e] at h; exact h
      · exact .inl (ihm m' d (by omega) h)
   rcases down (n + 1) d h with z | ⟨m', ds, hm, z1, z2, z3⟩
   · exact base (n + 1) d S Q z q
   · exact seq n d ds S Q z1 z2 (fun x hx => up n m' x (by omega) (z3 x hx)) q
theorem zw8 {z : Str} {l h : Option Int} (ok : PyData.strOk z = true) : PyData.strOk (zdp z l h) = true ∧ (zdp z l h).length ≤ z.length := by
 unfold zdp
 refine ⟨?_, ?_⟩
 · have all : z.cps.all (· < 0x110000) = true := ok
   rw [← Array.all_toList, List.all_eq_true] at all
   show (List.toArray _ : Array Nat).all (· < 0x110000) = true
   rw [← Array.all_toList, List.all_eq_true]
   intro x hx
   exact all x (List.mem_of_mem_drop (List.mem_of_mem_take (by simpa using hx)))
 · show (List.toArray _).size ≤ z.cps.size
   rw [List.size_toArray, List.length_take, List.length_drop, Array.length_toList]
   omega
theorem zoh : ("ab ~c(d0i" : Str).length = 9 := by decide +kernel
theorem zoi : ("ab ~c(d0i" : Str).length ≤ mT := by rw [zoh]; decide
theorem zzy : PyData.strOk ("ab ~c(d0i" : Str) = true := by decide +kernel
theorem zfe {S : aN} {c : Int} {Q : List Dv → aN → Prop} : ∀ (L : List Nat) (acc : List Str), (∀ x ∈ acc, PyData.strOk x = true ∧ x.length = 1) → (∀ ts : List Str, ts.length = acc.length + L.length → (∀ x ∈ ts, PyData.strOk x = true ∧ x.length = 1) → Q (ts.map .str) S) →
 cmpL (yE [.int c] rW) (wS [.int c] (aU bI (bE fH aO) (aU gL (aU fO (aD 1) (aU mD (wC (.int 5)) (aD 0))) (wC (.int 94))))) (L.map fun (i : Nat) => Dv.int (0 + (i : Int))) S (acc.map .str) Q
 | [], acc, ha, q => q acc (by simp) ha
 | k :: L, acc, ha, q => by
   obtain ⟨sg, hsg, oksg, lsg⟩ := zwb (S := S) (z := zey) (i := (c + 5 * (k : Int)) % 94) (by rw [zez]; decide) zss (by omega) (by rw [zez]; omega)
   have z := zfe (S := S) (c := c) (Q := Q) L (acc ++ [sg]) (fun x hx => by
    rcases List.mem_append.mp hx with m | m
    · exact ha x m
    · rw [List.mem_singleton.mp m]; exact ⟨oksg, lsg⟩) (fun ts hl h => q ts (by rw [hl, List.length_append, List.length_singleton, List.length_cons]; omega) h)
   have e5 : ∀ S : aN, mD S (.int 5) (.int (k : Int)) = some (.int (5 * (k : Int))) := fun S => vN (by decide) (by decide)
   rw [List.map_append] at z
   simp [cmpL, e5, hsg]
   simpa using z
theorem zw9 {D : Dn} {S0 : aN} {p : Addr} {n h t pl gn k : Nat} {c : Int} {x0 x1 x9 x10 : Option Dv} {deeds : List Deed} (hh : h < n) (ht : t < n) (hl : deeds.length ≤ 100) (hk : k ≤ 100)
 (fin : ∀ d, DOk n d → ∀ y9 y10, D.nx [x0, x1, some (.ref p), some (.int k), some (.int c), some (.int ((h : Int) + 1)), some (.int ((t : Int) + 1)), some (.int pl), some (.int gn), y9, y10] (cB S0 p (.lst ((deeds ++ [d]).map bH)))) :
 dW D [x0, x1, some (.ref p), some (.int k), some (.int c), some (.int ((h : Int) + 1)), some (.int ((t : Int) + 1)), some (.int pl), some (.int gn), x9, x10] (cB S0 p (.lst (deeds.map bH))) := by
 have hlim : deeds.length < mT := by unfold mT; omega
 have fin' : ∀ d, DOk n d → ∀ y9 y10, D.nx [x0, x1, some (.ref p), some (.int k), some (.int c), some (.int ((h : Int) + 1)), some (.int ((t : Int) + 1)), some (.int pl), some (.int gn), y9, y10] (cB S0 p (.lst (deeds.map bH ++ [bH d]))) := fun d hd y9 y10 => by
  have z := fin d hd y9 y10
  rw [List.map_append] at z
  exact z
 have e5 : ∀ S : aN, mD S (.int 5) (.int (k : Int)) = some (.int (5 * (k : Int))) := fun S => vN (by decide) (by decide)
 by_cases h1 : c * 48271 % 1021 % 8 < 3
 · obtain ⟨ok9, l9⟩ := zw8 (l := some ((k : Int) % 6)) (h := some ((k : Int) % 6 + (c + (k : Int) / 4 + 2) * 48271 % 1031 % 4)) zzy
   rw [zoh] at l9
   by_cases h2 : (k : Int) % 20 = 3
   · have m0 : 0 ≤ (c + (k : Int) / 4 + 2) * 48271 % 1031 % 4 := by omega
     have m1 : (c + (k : Int) / 4 + 2) * 48271 % 1031 % 4 < 4 := by omega
     have e4 : ∀ S : aN, mD S (.int 4) (.int ((c + (k : Int) / 4 + 2) * 48271 % 1031 % 4)) = some (.int (4 * ((c + (k : Int) / 4 + 2) * 48271 % 1031 % 4))) := fun S => vN (by decide) (by decide)
     simp [cQ, h1, h2, zoi, e4]
     generalize (c + (k : Int) / 4 + 2) * 48271 % 1031 % 4 = sz at *
     refine ⟨by omega, by omega, ?_⟩
     unfold zd2
     refine zfe (List.range (4 * sz).toNat) [] (fun x hx => by cases hx) fun ts tl th => ?_
     simp
     refine ⟨ts, rfl, ?_, ?_⟩
     · have : (ts.map (·.length)).sum = ts.length := by
        clear tl
        induction ts with
        | nil => rfl
        | cons a l ih => rw [List.map_cons, List.sum_cons, (th a List.mem_cons_self).2, ih fun x hx => th x (List.mem_cons_of_mem _ hx), List.length_cons]; omega
       simp at tl
       rw [this, tS]; omega
     · have lt : (za5 "" ts).length = ts.length := by
        rw [zbm, zsu, tS]
        clear tl
        induction ts with
        | nil => rfl
        | cons a l ih =>
          have := ih fun x hx => th x (List.mem_cons_of_mem _ hx)
          rw [List.map_cons, List.sum_cons, (th a List.mem_cons_self).2, List.length_cons]; omega
       have okt : PyData.strOk (za5 "" ts) = true := by rw [zbm]; exact zsv zjb fun x hx => (th x hx).1
       simp at tl
       simp [hlim, dF]
       exact fin' (.write h pl (za5 "" ts)) ⟨hh, by omega, okt⟩ _ _
   · simp [cQ, h1, h2, zoi, hlim, dF]
     exact fin' (.write h pl (zdp "ab ~c(d0i" (some ((k : Int) % 6)) (some ((k : Int) % 6 + (c + (k : Int) / 4 + 2) * 48271 % 1031 % 4)))) ⟨hh, by omega, ok9⟩ _ _
 · by_cases h2 : c * 48271 % 1021 % 8 = 3
   · simp [cQ, h1, h2, hlim, dF]
     exact fin' (.rub h pl gn) hh _ _
   · by_cases h3 : c * 48271 % 1021 % 8 < 7
     · have hk1 : (0 : Int) < (k : Int) + 1 := by omega
       have m0 := Int.emod_nonneg ((c + 5 * (k : Int)) * 48271 % 1039) (show (k : Int) + 1 ≠ 0 by omega)
       have em : ∀ (S : aN) (i : Int), gL S (.int i) (.int ((k : Int) + 1)) = some (.int (i % ((k : Int) + 1))) := fun S i => zit hk1
       simp [cQ, h1, h2, h3, e5, em, hlim, dF]
       have z := fin' (.tell h t ((c + 5 * (k : Int)) * 48271 % 1039 % ((k : Int) + 1)).toNat) ⟨hh, ht⟩ x9 x10
       have e : ((((c + 5 * (k : Int)) * 48271 % 1039 % ((k : Int) + 1)).toNat : Nat) : Int) = (c + 5 * (k : Int)) * 48271 % 1039 % ((k : Int) + 1) := by omega
       simp only [bH] at z
       rw [e] at z
       exact z
     · simp [cQ, h1, h2, h3, hlim, dF]
       exact fin' (.share h t) ⟨hh, ht⟩ _ _
theorem zoj {a : Int} {n : Nat} (hn : 0 < n) : ∃ h : Nat, h < n ∧ a % (n : Int) = (h : Int) := by
 have h0 := Int.emod_nonneg a (show (n : Int) ≠ 0 by omega)
 have h1 := Int.emod_lt_of_pos a (show (0 : Int) < n by omega)
 exact ⟨(a % (n : Int)).toNat, by omega, by omega⟩
theorem zjy {D : Dn} {S0 : aN} {p : Addr} {n : Nat} {cells : List Int} (hn : 0 < n) (hc : cells.length ≤ 64)
 (fin : ∀ (deeds : List Deed) (ρ : Ev), deeds.length = cells.length → (∀ d ∈ deeds, DOk n d) → ev? ρ 2 = some (.ref p) → ρ.length = 11 → D.nx ρ (cB S0 p (.lst (deeds.map bH)))) :
 ∀ (m k : Nat) (deeds : List Deed) (x3 x4 x5 x6 x7 x8 x9 x10 : Option Dv), m + k = cells.length → deeds.length = k → (∀ d ∈ deeds, DOk n d) →
   gK 3 cE D m (k : Int) [some (.lst (cells.map .int)), some (.int n), some (.ref p), x3, x4, x5, x6, x7, x8, x9, x10] (cB S0 p (.lst (deeds.map bH))) := by
 intro m
 induction m with
 | zero =>
   intro k deeds x3 x4 x5 x6 x7 x8 x9 x10 hm hl hd
   exact fin deeds _ (by omega) hd (by simp) (by simp)
 | succ m ih =>
   intro k deeds x3 x4 x5 x6 x7 x8 x9 x10 hm hl hd
   have hk : k < cells.length := by omega
   have ix : ∀ S, bI S (.lst (cells.map .int)) (.int (k : Int)) = some (.int cells[k]) := fun S => eP (by omega) (by simp [hk])
   generalize cells[k] = c at ix
   obtain ⟨h, hh, eh⟩ := zoj (a := (c + (k : Int)) * 48271 % 1013) hn
   obtain ⟨t, ht, et⟩ := zoj (a := (c + (k : Int) + 1 + (k : Int) / 5) * 48271 % 1019) hn
   have step : ∀ (d : Deed), DOk n d → ∀ (pl gn : Int) y9 y10, gK 3 cE D m ((k : Int) + 1) [some (.lst (cells.map .int)), some (.int n), some (.ref p), some (.int k), some (.int c), some (.int ((h : Int) + 1)), some (.int ((t : Int) + 1)), some (.int pl), some (.int gn), y9, y10] (cB S0 p (.lst ((deeds ++ [d]).map bH))) := fun d dk pl gn y9 y10 =>
    ih (k + 1) (deeds ++ [d]) _ _ _ _ _ _ _ _ (by omega) (by rw [List.length_append, List.length_singleton]; omega) (fun q hq => by
     rcases List.mem_append.mp hq with z | z
     · exact hd q z
     · rw [List.mem_singleton.mp z]; exact dk)
   show cE { D with nx := gK 3 cE D m ((k : Int) + 1), ct := gK 3 cE D m ((k : Int) + 1), bk := D.nx } [some (.lst (cells.map .int)), some (.int n), some (.ref p), some (.int k), x4, x5, x6, x7, x8, x9, x10] (cB S0 p (.lst (deeds.map bH)))
   generalize gK 3 cE D m ((k : Int) + 1) = N at step ⊢
   have hn' : (0 : Int) < (n : Int) := by omega
   have em : ∀ (S : aN) (i : Int), gL S (.int i) (.int (n : Int)) = some (.int (i % (n : Int))) := fun S i => zit hn'
   have six : ∀ (pl gn : Int) (x9 x10 : Option Dv), 0 ≤ pl → 0 ≤ gn → dW { D with nx := N, ct := N, bk := D.nx } [some (.lst (cells.map .int)), some (.int n), some (.ref p), some (.int k), some (.int c), some (.int ((h : Int) + 1)), some (.int ((t : Int) + 1)), some (.int pl), some (.int gn), x9, x10] (cB S0 p (.lst (deeds.map bH))) := fun pl gn x9 x10 h1 h2 => by
    have e1 : pl = ((pl.toNat : Nat) : Int) := by omega
    have e2 : gn = ((gn.toNat : Nat) : Int) := by omega
    rw [e1, e2]
    exact zw9 hh ht (by omega) (by omega) fun d dk y9 y10 => step d dk _ _ y9 y10
   by_cases h7 : c * 48271 % 1087 % 7 = 1
   · simp [kB, iH, iG, iF, iE, iD, ix, em, eh, et, h7]
     exact six _ _ _ _ (by omega) (by omega)
   · simp [kB, iH, iG, iF, iE, iD, ix, em, eh, et, h7]
     exact six _ _ _ _ (by omega) (by omega)
theorem wB : ∀ ds S Q, eT ds S Q → kC { nx := fun _ S' => Q .non S', rt := Q } (cK 11 ds) S := by
 rintro _ S Q ⟨cells, n, rfl, hn, _, hc, q⟩
 simp [uM, cK]
 intro p hp
 refine ⟨by omega, zjy (S0 := S) (p := p) hn hc ?_ cells.length 0 [] none none none none none none none none (by simp) rfl (fun d hd => by cases hd)⟩
 intro deeds ρ hl hd h2 h11
 refine yW h2 hp ?_
 have e : ev? (ρ.set 2 (some (.lst (deeds.map bH)))) 2 = some (.lst (deeds.map bH)) := by simp [ev?, h11]
 simp [e]
 exact q deeds hl hd
end Lk
set_option maxHeartbeats 0
namespace Lk
open PySem PySem.Spec PyProof.Rows L2 MQ
theorem _root_.L2.Fun.bi0 {K : W.Frag} {x qual : Str} {st : Stmt} {f : Addr} {fd : FuncData} (F : Fun K x qual st f fd) (ps : List Str) (e : ps.length = 0 := by rfl)
 (h : ∀ (kV doc pm : Value) (an : Option Addr) (cdv ct : Value), bindArgs (W.fnOf x qual (aX st) (aQ st) (aK st) .none kV doc pm an cdv ct) ⟨[], []⟩ = pure (ps.zip []) := by intros; rfl) : iB K fd ps [] := F.binds (by intro a1 a2 a3 a4 a5 a6 us hl; rw [e] at hl; revert hl; revert us; exact zni (h a1 a2 a3 a4 a5 a6))
theorem _root_.L2.Fun.bi1 {K : W.Frag} {x qual : Str} {st : Stmt} {f : Addr} {fd : FuncData} (F : Fun K x qual st f fd) (ps : List Str) (e : ps.length = 1 := by rfl)
 (h : ∀ (kV doc pm : Value) (an : Option Addr) (cdv ct : Value) (a : Value), bindArgs (W.fnOf x qual (aX st) (aQ st) (aK st) .none kV doc pm an cdv ct) ⟨[a], []⟩ = pure (ps.zip [a]) := by intros; rfl) : iB K fd ps [] := F.binds (by intro a1 a2 a3 a4 a5 a6 us hl; rw [e] at hl; revert hl; revert us; exact znj (h a1 a2 a3 a4 a5 a6))
theorem _root_.L2.Fun.bi2 {K : W.Frag} {x qual : Str} {st : Stmt} {f : Addr} {fd : FuncData} (F : Fun K x qual st f fd) (ps : List Str) (e : ps.length = 2 := by rfl)
 (h : ∀ (kV doc pm : Value) (an : Option Addr) (cdv ct : Value) (a b : Value), bindArgs (W.fnOf x qual (aX st) (aQ st) (aK st) .none kV doc pm an cdv ct) ⟨[a, b], []⟩ = pure (ps.zip [a, b]) := by intros; rfl) : iB K fd ps [] := F.binds (by intro a1 a2 a3 a4 a5 a6 us hl; rw [e] at hl; revert hl; revert us; exact znk (h a1 a2 a3 a4 a5 a6))
theorem _root_.L2.Fun.bi3 {K : W.Frag} {x qual : Str} {st : Stmt} {f : Addr} {fd : FuncData} (F : Fun K x qual st f fd) (ps : List Str) (e : ps.length = 3 := by rfl)
 (h : ∀ (kV doc pm : Value) (an : Option Addr) (cdv ct : Value) (a b c : Value), bindArgs (W.fnOf x qual (aX st) (aQ st) (aK st) .none kV doc pm an cdv ct) ⟨[a, b, c], []⟩ = pure (ps.zip [a, b, c]) := by intros; rfl) : iB K fd ps [] := F.binds (by intro a1 a2 a3 a4 a5 a6 us hl; rw [e] at hl; revert hl; revert us; exact znl (h a1 a2 a3 a4 a5 a6))
theorem _root_.L2.Fun.bi4 {K : W.Frag} {x qual : Str} {st : Stmt} {f : Addr} {fd : FuncData} (F : Fun K x qual st f fd) (ps : List Str) (e : ps.length = 4 := by rfl)
 (h : ∀ (kV doc pm : Value) (an : Option Addr) (cdv ct : Value) (a b c d : Value), bindArgs (W.fnOf x qual (aX st) (aQ st) (aK st) .none kV doc pm an cdv ct) ⟨[a, b, c, d], []⟩ = pure (ps.zip [a, b, c, d]) := by intros; rfl) : iB K fd ps [] := F.binds (by intro a1 a2 a3 a4 a5 a6 us hl; rw [e] at hl; revert hl; revert us; exact zvt (h a1 a2 a3 a4 a5 a6))
def mW (P : Program) (w : World) (K : W.Frag) (mg : Str → Option Value) (base : Heap) (k : Nat) (N : List Str) (x : Str) (st : Stmt) (ws : WS) : Prop := ∀ (f : Addr) (cdv : Value) (A : Around) (outer : List Env) (s : Shared) (H : Hp) (E : XK), Room k (cxD P w K mg base N x st f cdv A outer s H E).A → DSs (cxD P w K mg base N x st f cdv A outer s H E) (aQ st) ws
def LkV (P : Program) (w : World) (K : W.Frag) (mg : Str → Option Value) (base : Heap) (k : Nat) (N : List Str) (x : Str) (st : Stmt) (ws : WX) : Prop := ∀ (f : Addr) (cdv : Value) (A : Around) (outer : List Env) (s : Shared) (H : Hp) (E : XK), Room k (cxV P w K mg base N x st f cdv A outer s H E).A → DXs true (cxV P w K mg base N x st f cdv A outer s H E) (aQ st) ws
theorem zok {rows rows' : List Rw} {s : Slip} (h : zpk rows s = some rows') : (rows.map Rw.tag).Sublist (rows'.map Rw.tag) := by
 cases s with
 | put t b x =>
   have h' : MQ.putF rows t b x = some rows' := h
   cases f : mU t rows with
   | some k =>
     unfold MQ.putF at h'
     rw [f] at h'
     dsimp only at h'
     split at h'
     · cases h'; exact List.Sublist.refl _
     · cases h'
   | none =>
     obtain ⟨A, B, e1, e2⟩ := zwn f h'
     rw [e1, e2, List.map_append, List.map_append, List.map_append, List.append_assoc]
     exact (List.Sublist.refl _).append (List.sublist_append_right _ _)
 | cut t =>
   have h' : zl3 rows t = some rows' := h
   unfold zl3 at h'
   cases f : mU t rows with
   | none => rw [f] at h'; cases h'
   | some k =>
     rw [f] at h'
     dsimp only at h'
     obtain ⟨r, hr, _⟩ := zb7 f
     rw [hr] at h'
     dsimp only at h'
     cases h'
     obtain ⟨hk, er⟩ := List.getElem?_eq_some_iff.mp hr
     have e : rows = rows.take k ++ r :: rows.drop (k + 1) := by rw [← er, ← List.drop_eq_getElem_cons hk, List.take_append_drop]
     have e2 : (rows.take k ++ [{ r with out := true }] ++ rows.drop (k + 1)).map Rw.tag = rows.map Rw.tag := by
      conv => rhs; rw [e]
      simp only [List.map_append, List.map_cons, List.append_assoc]
      rfl
     rw [e2]
     exact List.Sublist.refl _
theorem HA.sub {rows rows' : List Rw} {ss ss' r : List Slip} {k : Nat} (h : HA rows ss r rows' ss' k) : (rows.map Rw.tag).Sublist (rows'.map Rw.tag) := by
 induction h with
 | nil => exact List.Sublist.refl _
 | old _ _ _ _ ih => exact ih
 | new _ _ _ hr _ ih => exact (zok hr).trans ih
noncomputable def pS (hs hs' : List HS) : Prop := hs'.length = hs.length ∧ ∀ (k : Nat) (s s' : HS), hs[k]? = some s → hs'[k]? = some s' → (s.rows.map Rw.tag).Sublist (s'.rows.map Rw.tag)
theorem pS.refl (hs : List HS) : pS hs hs := ⟨rfl, fun k s s' h h' => by rw [h] at h'; cases h'; exact List.Sublist.refl _⟩
theorem pS.trans {a b c : List HS} (h : pS a b) (k : pS b c) : pS a c := ⟨k.1.trans h.1, fun i s s' hs hs' => by
 have il : i < b.length := by rw [h.1]; exact (List.getElem?_eq_some_iff.mp hs).1
 exact (h.2 i s _ hs (List.getElem?_eq_getElem il)).trans (k.2 i _ s' (List.getElem?_eq_getElem il) hs')⟩
theorem pS.set {hs : List HS} {t : Nat} {u x : HS} (hu : hs[t]? = some u) (h : (u.rows.map Rw.tag).Sublist (x.rows.map Rw.tag)) : pS hs (hs.set t x) := ⟨List.length_set, fun k s s' hk hk' => by
 by_cases e : t = k
 · subst e
   rw [hu] at hk
   cases hk
   rw [List.getElem?_set_self (List.getElem?_eq_some_iff.mp hu).1] at hk'
   cases hk'
   exact h
 · rw [List.getElem?_set_ne e, hk] at hk'
   cases hk'
   exact List.Sublist.refl _⟩
theorem Stp.subs {hs hs' : List HS} {d : Deed} {a : Ans} (h : Stp hs d hs' a) : pS hs hs' := by
 cases h with
 | write es _ _ ha => exact pS.set es (HA.sub ha)
 | rub es ha => exact pS.set es (HA.sub ha)
 | past => exact pS.refl _
 | old => exact pS.refl _
 | new es eu ex _ _ _ hr => exact pS.set eu (zok hr)
 | refused => exact pS.refl _
 | share es eu ha => exact pS.set eu (HA.sub ha)
theorem zmp {α : Type} [DecidableEq α] {l m : List α} (h : l.Sublist m) : m.Nodup → m.filter (fun x => decide (x ∈ l)) = l := by
 induction h with
 | slnil => intro _; rfl
 | @cons l m a h ih =>
   intro nd
   obtain ⟨n1, n2⟩ := List.nodup_cons.mp nd
   have na : a ∉ l := fun z => n1 (h.subset z)
   rw [List.filter_cons, if_neg (by simpa using na)]
   exact ih n2
 | @cons_cons l m a h ih =>
   intro nd
   obtain ⟨n1, n2⟩ := List.nodup_cons.mp nd
   rw [List.filter_cons, if_pos (by simp)]
   congr 1
   refine Eq.trans ?_ (ih n2)
   refine List.filter_congr fun x hx => ?_
   have nx : x ≠ a := fun e => n1 (by rw [← e]; exact hx)
   simp [nx]
theorem zol {U : Slip → Prop} {rows F : List Rw} {ss : List Slip} (H : Hrd U rows ss) (sub : (rows.map Rw.tag).Sublist (F.map Rw.tag)) (nd : (F.map Rw.tag).Nodup) :
 (F.filter fun r => decide (r.tag ∈ aT ss) && !decide (r.tag ∈ bQ ss)).map Rw.tag = (there rows).map Rw.tag := by
 have e1 : (F.map Rw.tag).filter (fun t => decide (t ∈ aT ss)) = rows.map Rw.tag := by
  refine Eq.trans ?_ (zmp sub nd)
  refine List.filter_congr fun t _ => ?_
  have z : t ∈ aT ss ↔ t ∈ rows.map Rw.tag := by
   rw [← H.tags, List.mem_map]
  exact decide_eq_decide.mpr z
 have e2 : (F.filter fun r => decide (r.tag ∈ aT ss) && !decide (r.tag ∈ bQ ss)).map Rw.tag = (F.map Rw.tag).filter (fun t => decide (t ∈ aT ss) && !decide (t ∈ bQ ss)) := by
  rw [List.filter_map]; rfl
 have e3 : (F.map Rw.tag).filter (fun t => decide (t ∈ aT ss) && !decide (t ∈ bQ ss)) = ((F.map Rw.tag).filter (fun t => decide (t ∈ aT ss))).filter (fun t => !decide (t ∈ bQ ss)) := by
  rw [List.filter_filter]
  exact List.filter_congr fun t _ => Bool.and_comm _ _
 rw [e2, e3, e1, List.filter_map]
 unfold there
 congr 1
 refine List.filter_congr fun r hr => ?_
 show (!decide (r.tag ∈ bQ ss)) = !r.out
 congr 1
 rw [Bool.eq_iff_iff, decide_eq_true_eq, lC]
 exact (H.put r hr).2.symm
noncomputable def xT : Int → List Slip → Int
 | m, [] => m
 | m, .put t _ _ :: ss => xT (if t.1 > m then t.1 else m) ss
 | m, .cut _ :: ss => xT m ss
theorem wD : ∀ (ss : List Slip) (m : Int), m ≤ xT m ss ∧ (∀ t ∈ aT ss, t.1 ≤ xT m ss) ∧ (xT m ss = m ∨ ∃ t ∈ aT ss, xT m ss = t.1)
 | [], m => ⟨Int.le_refl m, (fun t ht => by cases ht), .inl rfl⟩
 | .cut t :: ss, m => wD ss m
 | .put t b x :: ss, m => by
   obtain ⟨h1, h2, h3⟩ := wD ss (if t.1 > m then t.1 else m)
   show m ≤ xT (if t.1 > m then t.1 else m) ss ∧ (∀ u ∈ t :: aT ss, u.1 ≤ xT (if t.1 > m then t.1 else m) ss) ∧ (xT (if t.1 > m then t.1 else m) ss = m ∨ ∃ u ∈ t :: aT ss, xT (if t.1 > m then t.1 else m) ss = u.1)
   generalize xT (if t.1 > m then t.1 else m) ss = B at h1 h2 h3 ⊢
   by_cases hm : t.1 > m
   · rw [if_pos hm] at h1 h3
     refine ⟨by omega, fun u hu => ?_, ?_⟩
     · rcases List.mem_cons.mp hu with e | hu
       · rw [e]; exact h1
       · exact h2 u hu
     · rcases h3 with e | ⟨u, hu, e⟩
       · exact .inr ⟨t, List.mem_cons_self, e⟩
       · exact .inr ⟨u, List.mem_cons_of_mem _ hu, e⟩
   · rw [if_neg hm] at h1 h3
     refine ⟨h1, fun u hu => ?_, ?_⟩
     · rcases List.mem_cons.mp hu with e | hu
       · rw [e]; omega
       · exact h2 u hu
     · rcases h3 with e | ⟨u, hu, e⟩
       · exact .inl e
       · exact .inr ⟨u, List.mem_cons_of_mem _ hu, e⟩
theorem zom : ∀ (l : List Int) (m : Int), big m l = m ∨ big m l ∈ l
 | [], m => .inl rfl
 | x :: xs, m => by
   show big (if m < x then x else m) xs = m ∨ big (if m < x then x else m) xs ∈ x :: xs
   rcases zom xs (if m < x then x else m) with e | e
   · by_cases h : m < x
     · rw [if_pos h] at e ⊢; exact .inr (by rw [e]; exact List.mem_cons_self)
     · rw [if_neg h] at e ⊢; exact .inl e
   · exact .inr (List.mem_cons_of_mem _ e)
theorem zt2 {rows : List Rw} : most rows = 0 ∨ ∃ r ∈ rows, most rows = r.tc := by
 cases rows with
 | nil => exact .inl rfl
 | cons r rs =>
   right
   show ∃ q ∈ r :: rs, big r.tc (rs.map (·.tc)) = q.tc
   rcases zom (rs.map (·.tc)) r.tc with e | e
   · exact ⟨r, List.mem_cons_self, e⟩
   · obtain ⟨q, hq, eq⟩ := List.mem_map.mp e
     exact ⟨q, List.mem_cons_of_mem _ hq, eq.symm⟩
theorem zff {U : Slip → Prop} {rows : List Rw} {ss : List Slip} (H : Hrd U rows ss) (tc : ∀ r ∈ rows, 1 ≤ r.tc) : xT 0 ss = most rows := by
 obtain ⟨h1, h2, h3⟩ := wD ss 0
 have nn := zgm tc
 refine Int.le_antisymm ?_ ?_
 · rcases h3 with e | ⟨t, ht, e⟩
   · rw [e]; exact nn
   · obtain ⟨r, hr, et⟩ := H.tags.mpr ht
     rw [e, ← et]; exact tT r hr
 · rcases zt2 (rows := rows) with e | ⟨r, hr, e⟩
   · rw [e]; exact h1
   · rw [e]; exact h2 r.tag (H.tags.mp ⟨r, hr, rfl⟩)
theorem zt3 {rows : List Rw} {p : Nat} : jG rows p = (if 0 < p ∧ 0 < (there rows).length then ((there rows).map Rw.tag)[min p (there rows).length - 1]?.getD (0, 0) else (0, 0)) := by
 unfold jG
 split
 · rename_i h
   have hl : (((there rows).map Rw.tag).take p).length = min p (there rows).length := by rw [List.length_take, List.length_map]
   have hne : 0 < (((there rows).map Rw.tag).take p).length := by rw [hl]; omega
   rw [List.getLast?_cons, List.getLast?_eq_getElem?, hl, List.getElem?_take_of_lt (by omega)]
   rw [List.getElem?_eq_getElem (by rw [List.length_map]; omega)]
   rfl
 · rename_i h
   have e : ((there rows).map Rw.tag).take p = [] := by
    rw [List.take_eq_nil_iff]
    by_cases hp : p = 0
    · exact .inl hp
    · right
      rw [List.map_eq_nil_iff]
      exact List.eq_nil_of_length_eq_zero (by omega)
   rw [e]; rfl
noncomputable def knw (ss : List Slip) : Slip → Bool
 | .put _ b _ => decide (b = (0, 0)) || decide (b ∈ aT ss)
 | .cut t => !decide (t = (0, 0)) && decide (t ∈ aT ss)
theorem zmq {U : Slip → Prop} (F : Fit U) {ss : List Slip} (hU : ∀ s ∈ ss, U s) (s : Slip) : knw ss s = true ↔ yZ ss s := by
 cases s with
 | put t b x =>
   show (decide (b = (0, 0)) || decide (b ∈ aT ss)) = true ↔ (b = (0, 0) ∨ ∃ b' x', Slip.put b b' x' ∈ ss)
   simp only [Bool.or_eq_true, decide_eq_true_eq]
   rw [bT]
 | cut t =>
   show (!decide (t = (0, 0)) && decide (t ∈ aT ss)) = true ↔ ∃ b x, Slip.put t b x ∈ ss
   simp only [Bool.and_eq_true, Bool.not_eq_true', decide_eq_false_iff_not, decide_eq_true_eq]
   rw [bT]
   exact ⟨fun h => h.2, fun h => ⟨fun e => by
    obtain ⟨b, x, m⟩ := h
    exact (F.put t b x (hU _ m)).2.1 e, h⟩⟩
inductive Bk : List Slip → List Slip → Nat → Prop
 | nil {ss : List Slip} : Bk ss [] 0
 | old {ss r : List Slip} {s : Slip} {k : Nat} : s ∈ ss → Bk ss r k → Bk ss (s :: r) k
 | new {ss r : List Slip} {s : Slip} {k : Nat} : s ∉ ss → knw ss s = true → Bk (ss ++ [s]) r k → Bk ss (s :: r) (k + 1)
theorem Bk.of {U : Slip → Prop} (F : Fit U) : ∀ (r ss d : List Slip), (∀ s ∈ ss, U s) → (∀ s ∈ r, U s) → (∀ x ∈ d, x ∈ ss) → Cz d r → ∃ k, Bk ss r k ∧ (dd ss r).length = ss.length + k
 | [], ss, d, _, _, _, _ => ⟨0, .nil, rfl⟩
 | s :: r, ss, d, h1, h2, hd, c => by
   obtain ⟨c1, c2⟩ := c
   have us := h2 s List.mem_cons_self
   by_cases hm : s ∈ ss
   · obtain ⟨k, b, l⟩ := Bk.of F r ss (d ++ [s]) h1 (fun q hq => h2 q (List.mem_cons_of_mem _ hq)) (fun x hx => by
      rcases List.mem_append.mp hx with z | z
      · exact hd x z
      · rw [List.mem_singleton.mp z]; exact hm) c2
     exact ⟨k, .old hm b, by rw [show dd ss (s :: r) = dd ss r from if_pos hm]; exact l⟩
   · obtain ⟨k, b, l⟩ := Bk.of F r (ss ++ [s]) (d ++ [s]) (fun q hq => by
      rcases List.mem_append.mp hq with z | z
      · exact h1 q z
      · rw [List.mem_singleton.mp z]; exact us) (fun q hq => h2 q (List.mem_cons_of_mem _ hq)) (fun x hx => by
      rcases List.mem_append.mp hx with z | z
      · exact List.mem_append_left _ (hd x z)
      · exact List.mem_append_right _ z) c2
     refine ⟨k + 1, .new hm ((zmq F h1 s).mpr (zA hd c1)) b, ?_⟩
     rw [show dd ss (s :: r) = dd (ss ++ [s]) r from if_neg hm, l, List.length_append, List.length_singleton]
     omega
theorem zc5 {n : Int} : ∀ (xs : List Str) (c : Int) (b : cV), b.1 < c → (cX c n b xs).Nodup
 | [], _, _, _ => List.nodup_nil
 | y :: ys, c, b, hb => by
   show (Slip.put (c, n) b y :: cX (c + 1) n (c, n) ys).Nodup
   refine List.nodup_cons.mpr ⟨fun m => ?_, zc5 ys (c + 1) (c, n) (by show c < c + 1; omega)⟩
   obtain ⟨t, b', x, e, _, h2, _, _⟩ := qU (by show c < c + 1; omega) m
   cases e
   have : c + 1 ≤ c := h2
   omega
section
variable {n : Nat} {hs : List HS} {Pm : List Slip} {Cm : List cV}
theorem zqd (w : WI n hs Pm Cm) {h p : Nat} {z : Str} {s : HS} (es : hs[h]? = some s) : (∀ q ∈ kF h s p z, q ∉ s.ss) ∧ (kF h s p z).Nodup ∧ Cz s.ss (kF h s p z) := by
 have ms := List.mem_of_getElem? es
 have H := w.hrd s ms
 have nn := zgm (w.tc ms)
 have bh : (jG s.rows p).1 < most s.rows + 1 := by
  rcases tX s.rows p with e | ⟨r, hr, e⟩
  · rw [e]; show (0 : Int) < _; omega
  · rw [← e]
    have := tT r hr
    show r.tc < _
    omega
 refine ⟨fun q hq hm => ?_, zc5 _ _ _ bh, zM _ _ _ _ ?_⟩
 · obtain ⟨t, b', x, e, _, h2, _, _⟩ := qU bh hq
   cases e
   obtain ⟨r, hr, et⟩ := H.has _ _ _ hm
   have := tT r hr
   have e3 : r.tc = t.1 := congrArg Prod.fst et
   omega
 · rcases tX s.rows p with e | ⟨r, hr, e⟩
   · exact .inl e
   · exact .inr (by rw [← e]; exact bT.mpr ⟨_, _, (H.put r hr).1⟩)
theorem zt4 (w : WI n hs Pm Cm) {h p m : Nat} {s : HS} (es : hs[h]? = some s) : (∀ q ∈ vU s p m, q ∉ s.ss) ∧ (vU s p m).Nodup ∧ Cz s.ss (vU s p m) := by
 have ms := List.mem_of_getElem? es
 have H := w.hrd s ms
 have sub : ∀ t ∈ mV s.rows p m, ∃ r ∈ there s.rows, r.tag = t := fun t ht => by
  unfold mV at ht
  exact List.mem_map.mp (List.mem_of_mem_drop (List.mem_of_mem_take ht))
 refine ⟨fun q hq hm => ?_, ?_, zN _ _ fun t ht => ?_⟩
 · obtain ⟨t, ht, e⟩ := qV.mp hq
   subst e
   obtain ⟨r, hr, et⟩ := sub t ht
   have z := (H.put r (kI hr)).2.mpr (by rw [et]; exact hm)
   have z2 := (List.mem_filter.mp hr).2
   rw [z] at z2
   cases z2
 · have nd : (mV s.rows p m).Nodup := by
    unfold mV
    have h1 : ((there s.rows).map Rw.tag).Nodup := by
     have z := H.gd.nd
     refine z.sublist ?_
     unfold there
     exact (List.filter_sublist).map _
    exact (h1.sublist (List.drop_sublist _ _)).sublist (List.take_sublist _ _)
   show (eQ _).Nodup
   unfold eQ
   rw [List.nodup_iff_pairwise_ne, List.pairwise_map]
   exact (List.nodup_iff_pairwise_ne.mp nd).imp fun h e => h (by cases e; rfl)
 · obtain ⟨r, hr, e⟩ := sub t ht
   rw [← e]
   exact bT.mpr ⟨_, _, (H.put r (kI hr)).1⟩
end
inductive Rn (n : Nat) : List HS → List Deed → List HS → List Ans → Prop
 | nil {hs : List HS} : Rn n hs [] hs []
 | cons {hs h1 h2 : List HS} {d : Deed} {ds : List Deed} {a : Ans} {as : List Ans} {Pm : List Slip} {Cm : List cV} : WI n hs Pm Cm → Pm.length ≤ 1000 → DOk n d → Stp hs d h1 a → Rn n h1 ds h2 as → Rn n hs (d :: ds) h2 (a :: as)
theorem Rn.run {n : Nat} {hs hs' : List HS} {ds : List Deed} {as : List Ans} (h : Rn n hs ds hs' as) : Run hs ds hs' as := by
 induction h with
 | nil => exact .nil
 | cons _ _ _ st _ ih => exact .cons st ih
theorem Rn.subs {n : Nat} {hs hs' : List HS} {ds : List Deed} {as : List Ans} (h : Rn n hs ds hs' as) : pS hs hs' := by
 induction h with
 | nil => exact pS.refl _
 | cons _ _ _ st _ ih => exact (Stp.subs st).trans ih
theorem Rn.of {n : Nat} : ∀ {ds : List Deed} {hs : List HS} {Pm : List Slip} {Cm : List cV}, WI n hs Pm Cm → (∀ d ∈ ds, DOk n d) → Pm.length + 12 * ds.length ≤ 1000 → ∃ hs' as Pm' Cm', Rn n hs ds hs' as ∧ WI n hs' Pm' Cm' ∧ Pm'.length ≤ 1000
 | [], hs, Pm, Cm, w, _, hl => ⟨hs, [], Pm, Cm, .nil, w, by simp at hl; omega⟩
 | d :: ds, hs, Pm, Cm, w, hd, hl => by
   rw [List.length_cons] at hl
   obtain ⟨h1, a, st, w1, l1⟩ := w.step (hd d List.mem_cons_self) (by omega)
   obtain ⟨h2, as, P2, C2, r, w2, l2⟩ := Rn.of w1 (fun q hq => hd q (List.mem_cons_of_mem _ hq)) (by rw [List.length_append]; omega)
   exact ⟨h2, a :: as, P2, C2, .cons w (by omega) (hd d List.mem_cons_self) st r, w2, l2⟩
noncomputable def pG (S S' : aN) : Prop := ∀ b o, S b = some o → S' b = some o
theorem pG.refl (S : aN) : pG S S := fun _ _ h => h
theorem pG.new {S : aN} {p : Addr} {o : Ob} (h : S p = none) : pG S (cB S p o) := fun b u e => by
 rw [gU (fun z => by rw [z, h] at e; cases e)]; exact e
theorem pG.upd {S0 S : aN} {p : Addr} {o : Ob} (h : pG S0 S) (hp : S0 p = none) : pG S0 (cB S p o) := fun b u e => by
 rw [gU (fun z => by rw [z, hp] at e; cases e)]; exact h b u e
noncomputable def dQ (S : aN) (bs : List Addr) (hs : List HS) : Prop := bs.Nodup ∧ bs.length = hs.length ∧ ∀ (k : Nat) b h, bs[k]? = some b → hs[k]? = some h → S b = some (.lst (h.ss.map aJ))
noncomputable def eE : Ds := fun ds S Q => ∃ (b : Addr) (ss : List Slip) (s : Slip), ds = [.ref b, aJ s] ∧ S b = some (.lst (ss.map aJ)) ∧ Q (.bl (knw ss s)) S
theorem zhh : ∀ ds S Q, eE ds S Q → ds.length = 2 := by rintro _ S Q ⟨_, _, _, rfl, _⟩; rfl
noncomputable def lK : Ds := fun ds S Q => ∃ (F : List Rw) (b : Addr) (ss : List Slip), ds = [.lst (F.map bC), .ref b] ∧ S b = some (.lst (ss.map aJ)) ∧ ss.length ≤ 5000 ∧ (∀ t ∈ aT ss, t ≠ (0, 0)) ∧ (∀ t ∈ bQ ss, t ≠ (0, 0)) ∧
 ∀ S', pG S S' → Q (.lst (((F.filter fun r => decide (r.tag ∈ aT ss) && !decide (r.tag ∈ bQ ss)).map Rw.tag).map cC)) S'
theorem zjz : ∀ ds S Q, lK ds S Q → ds.length = 2 := by rintro _ S Q ⟨_, _, _, rfl, _⟩; rfl
noncomputable def fT : Ds := fun ds S Q => ∃ (F : List Rw) (b : Addr) (s : HS) (d : Deed) (r : List Slip), ds = [.lst (F.map bC), .ref b, bH d] ∧ S b = some (.lst (s.ss.map aJ)) ∧ s.ss.length ≤ 5000 ∧ (∀ t ∈ aT s.ss, t ≠ (0, 0)) ∧ (∀ t ∈ bQ s.ss, t ≠ (0, 0)) ∧
 (F.filter fun r => decide (r.tag ∈ aT s.ss) && !decide (r.tag ∈ bQ s.ss)).map Rw.tag = (there s.rows).map Rw.tag ∧ xT 0 s.ss = most s.rows ∧ ((∃ h p z, d = .write h p z ∧ z.length ≤ 1000 ∧ r = kF h s p z) ∨ ∃ h p m, d = .rub h p m ∧ r = vU s p m) ∧
 ∀ S', pG S S' → Q (.lst (r.map aJ)) S'
theorem zR : ∀ ds S Q, fT ds S Q → ds.length = 3 := by rintro _ S Q ⟨_, _, _, _, _, rfl, _⟩; rfl
noncomputable def jN : Ds := fun ds S Q => ∃ (b : Addr) (ss r : List Slip) (k : Nat), ds = [.ref b, .lst (r.map aJ), .lst (r.map aJ)] ∧ S b = some (.lst (ss.map aJ)) ∧ ss.length + r.length ≤ 5000 ∧ (∀ s ∈ ss, okSl s) ∧ (∀ s ∈ r, okSl s) ∧ Bk ss r k ∧ (∀ s ∈ r, s ∉ ss) ∧ r.Nodup ∧
 Q (.bl true) (cB S b (.lst ((ss ++ r).map aJ)))
theorem zj0 : ∀ ds S Q, jN ds S Q → ds.length = 3 := by rintro _ S Q ⟨_, _, _, _, rfl, _⟩; rfl
noncomputable def iR : Ds := fun ds S Q => ∃ (b : Addr) (g : Addr) (ss r : List Slip) (k : Nat), ds = [.ref b, .ref g, .int k] ∧ S b = some (.lst (ss.map aJ)) ∧ S g = some (.lst (r.map aJ)) ∧ ss.length + r.length ≤ 5000 ∧ (∀ s ∈ ss, okSl s) ∧ (∀ s ∈ r, okSl s) ∧ Bk ss r k ∧
 Q (.bl true) (cB S b (.lst ((dd ss r).map aJ)))
theorem zea : ∀ ds S Q, iR ds S Q → ds.length = 3 := by rintro _ S Q ⟨_, _, _, _, _, rfl, _⟩; rfl
noncomputable def gD : Ds := fun ds S Q => ∃ (bs : List Addr) (hs hs' : List HS) (a : Ans) (g t w : Nat) (pg pt : Addr), ds = [.ref pt, .ref pg, .int w, pA a] ∧ bs[g]? = some pg ∧ bs[t]? = some pt ∧ dQ S bs hs ∧ Stp hs (.tell g t w) hs' a ∧ (∃ U, Fit U ∧ ∀ h ∈ hs, ∀ s ∈ h.ss, U s) ∧
 ∀ S', dQ S' bs hs' → Q (.bl true) S'
theorem za7 : ∀ ds S Q, gD ds S Q → ds.length = 4 := by rintro _ S Q ⟨_, _, _, _, _, _, _, _, _, rfl, _⟩; rfl
noncomputable def lL : Ds := fun ds S Q => ∃ (n : Nat) (bs : List Addr) (hs hs' hF : List HS) (Pm : List Slip) (Cm : List cV) (d : Deed) (a : Ans), ds = [.lst (hF.map fun h => .lst (h.rows.map bC)), .lst (bs.map .ref), bH d, pA a] ∧ dQ S bs hs ∧ WI n hs Pm Cm ∧ Pm.length ≤ 1000 ∧ DOk n d ∧ Stp hs d hs' a ∧ pS hs hF ∧
 (∀ h ∈ hF, (h.rows.map Rw.tag).Nodup) ∧ ∀ S', dQ S' bs hs' → Q (.bl true) S'
theorem zj1 : ∀ ds S Q, lL ds S Q → ds.length = 4 := by rintro _ S Q ⟨_, _, _, _, _, _, _, _, _, rfl, _⟩; rfl
noncomputable def lM : Ds := fun ds S Q => ∃ (n : Nat) (deeds : List Deed), ds = [.lst (deeds.map bH), .lst (deeds.map bH)] ∧ (∀ d ∈ deeds, DOk n d) ∧ deeds.length ≤ 1000 ∧ Q (.bl true) S
theorem zj2 : ∀ ds S Q, lM ds S Q → ds.length = 2 := by rintro _ S Q ⟨_, _, rfl, _⟩; rfl
noncomputable def hI : Ds := fun ds S Q => ∃ a b c d, ds = [.tup [.int a, .int b], .tup [.int c, .int d]] ∧ Q (.bl (lat a b c d)) S
theorem zhi : ∀ ds S Q, hI ds S Q → ds.length = 2 := by rintro _ S Q ⟨_, _, _, _, rfl, _⟩; rfl
@[simp] theorem zt5 {a b c d : Int} {S : aN} {Q : QE} : hI [.tup [.int a, .int b], .tup [.int c, .int d]] S Q = Q (.bl (lat a b c d)) S := propext ⟨fun ⟨_, _, _, _, e, h⟩ => by cases e; exact h, fun h => ⟨a, b, c, d, rfl, h⟩⟩
noncomputable def lN : Ds := fun ds S Q => ∃ rows : List Rw, ds = [.lst (rows.map bC)] ∧ rows.length ≤ 1000 ∧ (∃ st, Wk [(0, 0)] rows st) ∧ ∀ S', pG S S' → Q (.bl true) S'
theorem zj3 : ∀ ds S Q, lN ds S Q → ds.length = 1 := by rintro _ S Q ⟨_, rfl, _⟩; rfl
noncomputable def dO : Ds := fun ds S Q => ∃ (rows : List Rw) (ss : List Slip), ds = [.lst (rows.map bC), .str (txt rows), .lst (ss.map aJ)] ∧ rows.length ≤ 1000 ∧ okS rows ∧ one1 rows ∧ (∀ s ∈ ss, okSl s) ∧ Gd rows ∧ rows.length = (ss.filter fN).length ∧
 (∀ t b x, Slip.put t b x ∈ ss → (⟨t.1, t.2, b.1, b.2, x, decide (t ∈ bQ ss)⟩ : Rw) ∈ rows) ∧ ∀ S', pG S S' → Q (.bl true) S'
theorem wE : ∀ ds S Q, dO ds S Q → ds.length = 3 := by rintro _ S Q ⟨_, _, rfl, _⟩; rfl
noncomputable def eJ : WS :=
 (aS (cI 4 (aU bI (aU bI (aD 0) (aD 2)) (aD 3)))
 (aS (eO (uJ (eN (bZ (fG "str" (aD 4)))) (eN (bZ (bE cU (aE (aD 4) aO)))))
 (bA (wC (.bl false)))
 aY)
 (eO (bN pH (aD 4) (aU bI (aU bI (aD 1) (aD 2)) (aD 3)))
 (bA (wC (.bl false)))
 aY)))
def rM {D ρ S} := bL eJ.eq_1 D ρ S
noncomputable def eK : WS :=
 (aS (eO (yM (eN (bZ (fG "tuple" (aU bI (aD 0) (aD 2))))) (bN pH (kZ dZ (aE (aU bI (aD 0) (aD 2)) aO)) (kZ dZ (aE (aU bI (aD 1) (aD 2)) aO))))
 (bA (wC (.bl false)))
 aY)
 (qK 3 (aE (kZ dZ (aE (aU bI (aD 1) (aD 2)) aO)) aO)
 eJ))
def za8 {D ρ S} := bL eK.eq_1 D ρ S
noncomputable def wF : WS :=
 (aS (eO (bN pH (kZ dZ (aE (aD 0) aO)) (kZ dZ (aE (aD 1) aO)))
 (bA (wC (.bl false)))
 aY)
 (aS (qK 2 (aE (kZ dZ (aE (aD 1) aO)) aO)
 eK)
 (bA (wC (.bl true)))))
def zhj {D ρ S} := bL wF.eq_1 D ρ S
noncomputable def cN : WS :=
 (eO (uJ (bN iL (aU bI (aD 3) (wC (.int 0))) (wC (.str "put"))) (bN iL (aU bI (aD 3) (wC (.int 1))) (aD 2)))
 (bA (wC (.bl true)))
 aY)
def kK {D ρ S} := bL cN.eq_1 D ρ S
noncomputable def sZ : WS :=
 (aS (cI 2 (aU bI (aD 1) (wC (.int 1))))
 (aS (eO (bN iL (aU bI (aD 1) (wC (.int 0))) (wC (.str "put")))
 (cI 2 (aU bI (aD 1) (wC (.int 2))))
 aY)
 (aS (eO (bN iL (aD 2) (oV (aE (wC (.int 0)) (aE (wC (.int 0)) aO))))
 (bA (aU (mS iL) (aU bI (aD 1) (wC (.int 0))) (wC (.str "put"))))
 aY)
 (aS (zco 3 (aD 0)
 cN)
 (bA (wC (.bl false)))))))
def kT {D ρ S} := bL sZ.eq_1 D ρ S
noncomputable def cJ : WS :=
 (eO (bN yQ (aD 4) (aD 0))
 (aS (eO (eN (bZ (bE eE (aE (aD 0) (aE (aD 4) aO)))))
 (bA (wC (.bl false)))
 aY)
 (aS (mL (yS (aD 0) (aE (aD 4) aO)))
 (cI 3 (aU fO (aD 3) (wC (.int 1))))))
 aY)
def oG {D ρ S} := bL cJ.eq_1 D ρ S
noncomputable def qZ : WS :=
 (aS (cI 3 (wC (.int 0)))
 (aS (za0 4 (kZ rK (aE (aD 1) aO))
 cJ)
 (bA (kW (bE cU (aE (aD 2) aO)) (aU (mS iL) (aD 2) (aD 3))))))
def zc6 {D ρ S} := bL qZ.eq_1 D ρ S
noncomputable def fL : WS :=
 (aS (eO (yM (bN oIn (aD 3) (aD 0)) (eN (bZ (bE eE (aE (aD 0) (aE (aD 3) aO))))))
 (bA (wC (.bl false)))
 aY)
 (mL (yS (aD 0) (aE (aD 3) aO))))
def za9 {D ρ S} := bL fL.eq_1 D ρ S
noncomputable def wG : WS :=
 (aS (eO (yM (eN (bZ (bE dM (aE (aD 1) aO)))) (eN (bZ (bE (eY 4) (aE (aD 1) (aE (aD 2) aO))))))
 (bA (wC (.bl false)))
 aY)
 (aS (za0 3 (aD 1)
 fL)
 (bA (wC (.bl true)))))
def zhk {D ρ S} := bL wG.eq_1 D ρ S
noncomputable def oH : WS :=
 (bA (aU (mS zpx) (aD 3) (wC (.bl true))))
def uN {D ρ S} := bL oH.eq_1 D ρ S
noncomputable def oI : WS :=
 (aS (mL (yS (aD 0) (aE (aD 4) aO)))
 oH)
def uO {D ρ S} := bL oI.eq_1 D ρ S
noncomputable def oJ : WS :=
 (aS (eO (eN (bZ (bE eE (aE (aD 0) (aE (aD 4) aO)))))
 (bA (aU (mS oIs) (aD 3) (wC .non)))
 aY)
 oI)
def mO {D ρ S} := bL oJ.eq_1 D ρ S
noncomputable def oK : WS :=
 (aS (eO (bN oIn (aD 4) (aD 0))
 (bA (aU (mS zpx) (aD 3) (wC (.bl false))))
 aY)
 oJ)
def iJ {D ρ S} := bL oK.eq_1 D ρ S
noncomputable def oM : WS :=
 (aS (cI 4 (aU bI (aD 1) (aD 2)))
 oK)
def iK {D ρ S} := bL oM.eq_1 D ρ S
noncomputable def nO : WS :=
 (aS (eO (bN oGe (aD 2) (kZ dZ (aE (aD 1) aO)))
 (bA (aU (mS oIs) (aD 3) (wC .non)))
 aY)
 oM)
def hJ {D ρ S} := bL nO.eq_1 D ρ S
noncomputable def cT : WS :=
 (eO (bN iL (aU bI (aD 4) (wC (.int 0))) (wC (.str "put")))
 (zn5 (aD 2) (aU bI (aD 4) (wC (.int 1))) (wC (.bl true)))
 (zn5 (aD 3) (aU bI (aD 4) (wC (.int 1))) (wC (.bl true))))
def rN {D ρ S} := bL cT.eq_1 D ρ S
noncomputable def wH : WS :=
 (aS (cI 2 zn7)
 (aS (cI 3 zn7)
 (aS (zco 4 (aD 1)
 cT)
 (bA (zgo [2, 3] (aD 0) (uJ (bN zpu (aU bI (aD 0) (wC (.int 0))) (aD 1)) (bN tU (aU bI (aD 0) (wC (.int 0))) (aD 2))) (aU bI (aD 0) (wC (.int 0))))))))
def zhl {D ρ S} := bL wH.eq_1 D ρ S
noncomputable def bS : WS :=
 (eO (bN iL (aU bI (aD 5) (wC (.int 0))) (wC (.str "put")))
 (cI 4 (kZ zwh (aE (aD 4) (aE (aU bI (aU bI (aD 5) (wC (.int 1))) (wC (.int 0))) aO))))
 aY)
def lQ {D ρ S} := bL bS.eq_1 D ρ S
noncomputable def cZ : WS :=
 (aS (cI 4 (aU fO (aD 4) (wC (.int 1))))
 (aS (mL (yS (aD 7) (aE (oV (aE (wC (.str "put")) (aE (oV (aE (aD 4) (aE (aU bI (aD 2) (wC (.int 1))) aO))) (aE (aD 6) (aE (aD 8) aO))))) aO)))
 (cI 6 (oV (aE (aD 4) (aE (aU bI (aD 2) (wC (.int 1))) aO))))))
def tB {D ρ S} := bL cZ.eq_1 D ρ S
noncomputable def jA : WS :=
 (bA (aD 7))
def tD {D ρ S} := bL jA.eq_1 D ρ S
noncomputable def nP : WS :=
 (aS (zes 7 (zny 8 (aU bI (aD 2) (wC (.int 3)))
 cZ))
 jA)
def tE {D ρ S} := bL nP.eq_1 D ρ S
noncomputable def jB : WS :=
 (aS (cI 7 (wZ aO))
 nP)
def tF {D ρ S} := bL jB.eq_1 D ρ S
noncomputable def nQ : WS :=
 (aS (eO (uJ (bN oGt (aU bI (aD 2) (wC (.int 2))) (wC (.int 0))) (bN oGt (kZ dZ (aE (aD 3) aO)) (wC (.int 0))))
 (cI 6 (aU bI (aD 3) (aU zf4 (kZ zsq (aE (aU bI (aD 2) (wC (.int 2))) (aE (kZ dZ (aE (aD 3) aO)) aO))) (wC (.int 1)))))
 aY)
 jB)
def tG {D ρ S} := bL nQ.eq_1 D ρ S
noncomputable def nR : WS :=
 (aS (cI 6 (oV (aE (wC (.int 0)) (aE (wC (.int 0)) aO))))
 nQ)
def tH {D ρ S} := bL nR.eq_1 D ρ S
noncomputable def nS : WS :=
 (aS (zco 5 (aD 1)
 bS)
 nR)
def tI {D ρ S} := bL nS.eq_1 D ρ S
noncomputable def nT : WS :=
 (aS (cI 4 (wC (.int 0)))
 nS)
def tJ {D ρ S} := bL nT.eq_1 D ρ S
noncomputable def nU : WS :=
 (aS (eO (bN iL (aU bI (aD 2) (wC (.int 0))) (wC (.str "rub")))
 (bA (zag (wSl (aD 3) (some (aU bI (aD 2) (wC (.int 2)))) (some (aU fO (aU bI (aD 2) (wC (.int 2))) (aU bI (aD 2) (wC (.int 3)))))) (oV (aE (wC (.str "cut")) (aE (aD 0) aO)))))
 aY)
 nT)
def lR {D ρ S} := bL nU.eq_1 D ρ S
noncomputable def mJ : WS :=
 (aS (cI 3 (bE lK (aE (aD 0) (aE (aD 1) aO))))
 nU)
def xU {D ρ S} := bL mJ.eq_1 D ρ S
noncomputable def wI : WS :=
 (aS (cI 4 (aU bI (aD 1) (aU zf4 (aU bI (aD 2) (wC (.int 1))) (wC (.int 1)))))
 (aS (eO (yM (bN iL (aU bI (aD 2) (wC (.int 0))) (wC (.str "write"))) (bN iL (aU bI (aD 2) (wC (.int 0))) (wC (.str "rub"))))
 (bA (bE jN (aE (aD 4) (aE (aD 3) (aE (bE fT (aE (aU bI (aD 0) (aU zf4 (aU bI (aD 2) (wC (.int 1))) (wC (.int 1)))) (aE (aD 4) (aE (aD 2) aO)))) aO)))))
 aY)
 (aS (eO (bN iL (aU bI (aD 2) (wC (.int 0))) (wC (.str "tell")))
 (bA (bE gD (aE (aU bI (aD 1) (aU zf4 (aU bI (aD 2) (wC (.int 2))) (wC (.int 1)))) (aE (aD 4) (aE (aU bI (aD 2) (wC (.int 3))) (aE (aD 3) aO))))))
 aY)
 (bA (bE iR (aE (aU bI (aD 1) (aU zf4 (aU bI (aD 2) (wC (.int 2))) (wC (.int 1)))) (aE (aD 4) (aE (aD 3) aO))))))))
def gC {D ρ S} := bL wI.eq_1 D ρ S
noncomputable def tK : WS :=
 (bA (zvr (aU (mS oGt) (aU bI (aD 0) (wC (.int 0))) (aU bI (aD 1) (wC (.int 0)))) (kW (aU (mS iL) (aU bI (aD 0) (wC (.int 0))) (aU bI (aD 1) (wC (.int 0)))) (aU (mS oGt) (aU bI (aD 0) (wC (.int 1))) (aU bI (aD 1) (wC (.int 1)))))))
def zeb {D ρ S} := bL tK.eq_1 D ρ S
noncomputable def kU : WS :=
 (cI 3 (zy4 (aD 1)))
def zba {D ρ S} := bL kU.eq_1 D ρ S
noncomputable def pT : WS :=
 (mL (yS (aD 1) (aE (aU bI (aD 2) (wC (.int 0))) aO)))
def nV {D ρ S} := bL pT.eq_1 D ρ S
noncomputable def pU : WS :=
 (aS (eO (uJ (bN oW (aD 3) (wC .non)) (eN (bZ (bE hI (aE (aD 3) (aE (aU bI (aD 2) (wC (.int 0))) aO))))))
 (bA (wC (.bl false)))
 aY)
 pT)
def nW {D ρ S} := bL pU.eq_1 D ρ S
noncomputable def pV : WS :=
 (aS (eO (bN iL (kZ dZ (aE (aD 1) aO)) (wC (.int 0)))
 (bA (wC (.bl false)))
 aY)
 pU)
def nX {D ρ S} := bL pV.eq_1 D ρ S
noncomputable def pW : WS :=
 (aS (zbw (uJ (bN oGt (kZ dZ (aE (aD 1) aO)) (wC (.int 0))) (bN pH (aU bI (aD 1) (wC (.int (-1)))) (aU bI (aD 2) (wC (.int 1)))))
 kU)
 pV)
def wJ {D ρ S} := bL pW.eq_1 D ρ S
noncomputable def fM : WS :=
 (aS (cI 3 (wC .non))
 pW)
def zbb {D ρ S} := bL fM.eq_1 D ρ S
noncomputable def wK : WS :=
 (aS (cI 1 (wZ (aE (oV (aE (wC (.int 0)) (aE (wC (.int 0)) aO))) aO)))
 (aS (za0 2 (aD 0)
 fM)
 (bA (wC (.bl true)))))
def zhm {D ρ S} := bL wK.eq_1 D ρ S
noncomputable def cO : WS :=
 (eO (bN pH (zl8 (aD 0) (aE (oV (aE (aU bI (aD 5) (wC (.int 1))) (aE (aU bI (aD 5) (wC (.int 2))) (aE (aU bI (aD 5) (wC (.int 3))) (aE (aU (mS oIn) (aU bI (aD 5) (wC (.int 1))) (aD 3)) aO))))) aO)) (wC (.int 1)))
 (bA (wC (.bl false)))
 aY)
def rA {D ρ S} := bL cO.eq_1 D ρ S
noncomputable def gS : WS :=
 (bA (aU (mS iL) (aD 1) (zi8 (wC (.str "")) (aE (iS (aD 0) (eN (bZ (aU bI (aD 0) (wC (.int 3))))) (aU bI (aD 0) (wC (.int 2)))) aO))))
def rB {D ρ S} := bL gS.eq_1 D ρ S
noncomputable def lU : WS :=
 (aS (za0 5 (aD 4)
 cO)
 gS)
def rE {D ρ S} := bL lU.eq_1 D ρ S
noncomputable def lV : WS :=
 (aS (eO (yM (bN pH (kZ dZ (aE (aD 0) aO)) (kZ dZ (aE (aD 4) aO))) (eN (bZ (bE lN (aE (aD 0) aO)))))
 (bA (wC (.bl false)))
 aY)
 lU)
def rF {D ρ S} := bL lV.eq_1 D ρ S
noncomputable def lW : WS :=
 (aS (cI 4 (iS (aD 2) (bN iL (aU bI (aD 0) (wC (.int 0))) (wC (.str "put"))) (aD 0)))
 lV)
def rG {D ρ S} := bL lW.eq_1 D ρ S
noncomputable def lY : WS :=
 (aS (cI 3 (iS (aD 2) (bN iL (aU bI (aD 0) (wC (.int 0))) (wC (.str "cut"))) (aU bI (aD 0) (wC (.int 1)))))
 lW)
def rH {D ρ S} := bL lY.eq_1 D ρ S
noncomputable def kD : WS :=
 (aS (eO (yM (eN (bZ (bE dI (aE (aD 0) aO)))) (eN (bZ (fG "str" (aD 1)))))
 (bA (wC (.bl false)))
 aY)
 lY)
def uP {D ρ S} := bL kD.eq_1 D ρ S
noncomputable def nY : WS :=
 (eO (eN (bZ (bE dI (aE (aD 8) aO))))
 (bA (wC (.bl false)))
 aY)
def zmr {D ρ S} := bL nY.eq_1 D ρ S
noncomputable def lZ : WS :=
 (eO (eN (bZ (bE lL (aE (aD 6) (aE (aD 9) (aE (aU bI (aD 2) (aD 10)) (aE (aU bI (aD 4) (aD 10)) aO)))))))
 (bA (wC (.bl false)))
 aY)
def zms {D ρ S} := bL lZ.eq_1 D ρ S
noncomputable def mB : WS :=
 (aS (eO (yM (eN (bZ (bE dM (aE (aU bI (aD 5) (aD 10)) aO)))) (bN pH (aU bI (aD 5) (aD 10)) (aU bI (aD 9) (aD 10))))
 (bA (wC (.bl false)))
 aY)
 (eO (eN (bZ (bE dO (aE (aU bI (aD 6) (aD 10)) (aE (aU bI (aD 7) (aD 10)) (aE (zy1 (aU bI (aD 9) (aD 10))) aO))))))
 (bA (wC (.bl false)))
 aY))
def zmt {D ρ S} := bL mB.eq_1 D ρ S
noncomputable def zfg : WS :=
 (bA (wC (.bl true)))
def zj4 {D ρ S} := bL zfg.eq_1 D ρ S
noncomputable def zfh : WS :=
 (aS (qK 10 (aE (aD 1) aO)
 mB)
 zfg)
def zj5 {D ρ S} := bL zfh.eq_1 D ρ S
noncomputable def zfi : WS :=
 (aS (qK 10 (aE (kZ dZ (aE (aD 2) aO)) aO)
 lZ)
 zfh)
def zj6 {D ρ S} := bL zfi.eq_1 D ρ S
noncomputable def zfj : WS :=
 (aS (cI 9 (qT [] (wR1 (aE (aD 1) aO)) rW (wZ aO)))
 zfi)
def zj7 {D ρ S} := bL zfj.eq_1 D ρ S
noncomputable def zfk : WS :=
 (aS (za0 8 (aD 6)
 nY)
 zfj)
def zj8 {D ρ S} := bL zfk.eq_1 D ρ S
noncomputable def zfl : WS :=
 (aS (eO (yM (bN pH (kZ dZ (aE (aD 6) aO)) (aD 1)) (bN pH (kZ dZ (aE (aD 7) aO)) (aD 1)))
 (bA (wC (.bl false)))
 aY)
 zfk)
def zj9 {D ρ S} := bL zfl.eq_1 D ρ S
noncomputable def zfm : WS :=
 (aS (eO (yM (eN (bZ (fG "list" (aD 6)))) (eN (bZ (fG "list" (aD 7)))))
 (bA (wC (.bl false)))
 aY)
 zfl)
def zka {D ρ S} := bL zfm.eq_1 D ρ S
noncomputable def zkb : WS :=
 (aS (cI 7 (bE sN (aE (aD 1) (aE (kZ rK (aE (aD 2) aO)) aO))))
 zfm)
def zmu {D ρ S} := bL zkb.eq_1 D ρ S
noncomputable def zkc : WS :=
 (aS (cI 6 (bE xQ (aE (aD 1) (aE (kZ rK (aE (aD 2) aO)) aO))))
 zkb)
def zmv {D ρ S} := bL zkc.eq_1 D ρ S
noncomputable def zkd : WS :=
 (aS (eO (yM (eN (bZ (fG "list" (aD 5)))) (bN pH (kZ dZ (aE (aD 5) aO)) (aD 1)))
 (bA (wC (.bl false)))
 aY)
 zkc)
def zmw {D ρ S} := bL zkd.eq_1 D ρ S
noncomputable def zke : WS :=
 (aS (eO (bN pH (kZ dZ (aE (aD 4) aO)) (kZ dZ (aE (aD 2) aO)))
 (bA (wC (.bl false)))
 aY)
 zkd)
def zmx {D ρ S} := bL zke.eq_1 D ρ S
noncomputable def zkf : WS :=
 (aS (eO (yM (eN (bZ (bE lM (aE (aD 3) (aE (aD 2) aO))))) (eN (bZ (fG "list" (aD 4)))))
 (bA (wC (.bl false)))
 aY)
 zke)
def zmy {D ρ S} := bL zkf.eq_1 D ρ S
noncomputable def zkg : WS :=
 (aS (cI 5 (bE xP (aE (aD 1) (aE (kZ rK (aE (aD 2) aO)) aO))))
 zkf)
def zmz {D ρ S} := bL zkg.eq_1 D ρ S
noncomputable def zkh : WS :=
 (aS (cI 4 (bE sM (aE (aD 1) (aE (aD 3) aO))))
 zkg)
def zm0 {D ρ S} := bL zkh.eq_1 D ρ S
noncomputable def zki : WS :=
 (aS (cI 3 (kZ rK (aE (aD 2) aO)))
 zkh)
def zm1 {D ρ S} := bL zki.eq_1 D ρ S
noncomputable def zkj : WS :=
 (aS (cI 2 (bE eT (aE (wSl (aD 0) (some (wC (.int 1))) (some (aU fO (wC (.int 1)) (bE lG (aE (aD 0) (aE (wC (.int 30)) (aE (wC (.int 50)) aO))))))) (aE (aD 1) aO))))
 zki)
def zm2 {D ρ S} := bL zkj.eq_1 D ρ S
noncomputable def zt6 : WS :=
 (aS (cI 1 (aU bI (zf3 (aE (wC (.int 1)) (aE (wC (.int 2)) (aE (wC (.int 3)) (aE (wC (.int 4)) (aE (wC (.int 2)) (aE (wC (.int 3)) (aE (wC (.int 4)) (aE (wC (.int 9)) aO))))))))) (aU gL (aU gL (aU mD (bE nB (aE (aD 0) (aE (wC (.int 0)) aO))) (wC (.int 48271))) (wC (.int 1049))) (wC (.int 8)))))
 zkj)
def zxb {D ρ S} := bL zt6.eq_1 D ρ S
@[simp ↓] theorem zadx {o : WE} {ρ : Ev} {S : aN} {Q : QE} : zy4 o ρ S Q = o ρ S (fun d S1 => vM S1 d fun p ds => goK ds.getLast? (cB S1 p (.lst ds.dropLast)) Q) := id rfl
@[simp] theorem zzz {S : aN} {ds : List Dv} : oW S (.tup ds) .non = some true := id rfl
theorem zz0 (a b c d : Int) : (decide (c < a) || (decide (a = c) && decide (d < b))) = lat a b c d := by
 unfold lat; by_cases h1 : a = c
 · subst h1; simp
 · simp [h1]
theorem zhn : ∀ ds S Q, hI ds S Q → tK { nx := fun _ S' => Q .non S', rt := Q } (cK 2 ds) S := by
 rintro _ S Q ⟨a, b, c, d, rfl, q⟩
 rw [← zz0] at q
 simp [zeb, cK]
 by_cases h1 : c < a
 · rw [if_pos h1]; simpa [h1] using q
 · rw [if_neg h1]
   by_cases h2 : a = c
   · rw [if_pos h2]; simpa [h1, h2] using q
   · rw [if_neg h2]; simpa [h1, h2] using q
theorem zt7 {S : aN} {p : Addr} {xs : List Dv} {d : Dv} : bI (cB S p (.lst (xs ++ [d]))) (.ref p) (.int (-1)) = some d := by
 show ((jU (cB S p (.lst (xs ++ [d]))) (.ref p)).bind fun ds => atI ds (-1)) = some d
 simp only [jU, cF]
 exact zsk (S := S) (by simp)
noncomputable def zkk (l : Dv) : List cV → Dv
 | [] => l
 | y :: ys => zkk (cC y) ys
theorem zkl : ∀ (l : Dv) (pre : List cV), zkk l pre = match pre.getLast? with | none => l | some y => cC y
 | l, [] => rfl
 | l, [y] => rfl
 | l, y :: z :: ys => by
   rw [List.getLast?_cons_cons]
   show zkk (cC y) (z :: ys) = _
   rw [zkl (cC y) (z :: ys)]
   cases h : (z :: ys).getLast? with
   | none => simp at h
   | some v => rfl
theorem zt8 (y : cV) (l : List cV) : (y :: l).reverse.map cC = l.reverse.map cC ++ [cC y] := by rw [List.reverse_cons, List.map_append]; rfl
theorem zc7 {D : Dn} {S0 : aN} {p : Addr} {x0 : Option Dv} {r : Rw} {post : List cV} : ∀ (pre : List cV) (l : Dv), (∀ y ∈ pre, y ≠ r.bhd) →
 D.nx [x0, some (.ref p), some (bC r), some (zkk l pre)] (cB S0 p (.lst ((r.bhd :: post).reverse.map cC))) →
 whl (uJ (bN oGt (kZ dZ (aE (aD 1) aO)) (wC (.int 0))) (bN pH (aU bI (aD 1) (wC (.int (-1)))) (aU bI (aD 2) (wC (.int 1))))) kU D (pre.length + 1) [x0, some (.ref p), some (bC r), some l] (cB S0 p (.lst ((pre ++ r.bhd :: post).reverse.map cC)))
 | [], l, hy, q => by
   unfold whl
   rw [List.nil_append]
   rw [zt8] at q ⊢
   have ix := zt7 (S := S0) (p := p) (xs := post.reverse.map cC) (d := cC r.bhd)
   have e : cC r.bhd = .tup [.int r.bc, .int r.bh] := rfl
   rw [e] at ix q ⊢
   generalize post.reverse.map cC = xs at ix q ⊢
   have hp : (0 : Int) < (xs.length : Int) + 1 := by omega
   simp [ix, iI, hp]
   simpa [iI, zkk] using q
 | y :: pre, l, hy, q => by
   have step := zc7 (D := D) (S0 := S0) (p := p) (x0 := x0) (r := r) (post := post) pre (cC y) (fun z hz => hy z (List.mem_cons_of_mem _ hz)) q
   unfold whl
   rw [List.length_cons]
   generalize whl (uJ (bN oGt (kZ dZ (aE (aD 1) aO)) (wC (.int 0))) (bN pH (aU bI (aD 1) (wC (.int (-1)))) (aU bI (aD 2) (wC (.int 1))))) kU D (pre.length + 1) = N at step ⊢
   rw [List.cons_append, zt8]
   generalize (pre ++ r.bhd :: post).reverse.map cC = xs at step ⊢
   have ix := zt7 (S := S0) (p := p) (xs := xs) (d := cC y)
   have ne := hy y List.mem_cons_self
   have e : cC y = .tup [.int y.1, .int y.2] := rfl
   rw [e] at ix step ⊢
   have hp : (0 : Int) < (xs.length : Int) + 1 := by omega
   have ne2 : ¬ (y.1 = r.bc ∧ y.2 = r.bh) := fun z => ne (Prod.ext z.1 z.2)
   have ne3 : y.1 = r.bc → ¬ y.2 = r.bh := fun a b => ne2 ⟨a, b⟩
   simp [ix, iI, hp, ne2, ne3, zba, dF]
   simpa [iI] using step
theorem zm3 {D : Dn} {S0 : aN} {p : Addr} {x0 : Option Dv} {rows : List Rw} {st st' : List cV} (w : Wk st rows st') (s : Srt st) (hl : st.length + rows.length ≤ 5000)
 (fin : ∀ y2 y3 ds, D.nx [x0, some (.ref p), y2, y3] (cB S0 p (.lst ds))) : ∀ x2 x3, dL 2 fM D (rows.map bC) [x0, some (.ref p), x2, x3] (cB S0 p (.lst (st.reverse.map cC))) := by
 induction w with
 | nil => intro x2 x3; exact fin x2 x3 _
 | @cons st pre post st' r rs e1 e2 e3 w ih =>
   intro x2 x3
   subst e1
   have s1 := s.tail e3
   rw [List.length_append, List.length_cons, List.length_cons] at hl
   have hb : ∀ y ∈ pre, y ≠ r.bhd := fun y hy z => by
    have := (List.pairwise_append.mp s).2.2 y hy r.bhd List.mem_cons_self
    rw [z] at this
    exact znu this
   have step := ih s1 (by simp; omega)
   show fM { D with nx := dL 2 fM D (rs.map bC), ct := dL 2 fM D (rs.map bC), bk := D.nx } [x0, some (.ref p), some (bC r), x3] (cB S0 p (.lst ((pre ++ r.bhd :: post).reverse.map cC)))
   generalize dL 2 fM D (rs.map bC) = N at step ⊢
   simp [-List.map_reverse, -List.reverse_append, zbb, wJ]
   refine ⟨_, zc7 pre .non hb ?_⟩
   rw [zkl, zt8]
   have st4 := step (some (bC r))
   rw [zt8, zt8] at st4
   have hlt : post.length + 1 < mT := by unfold mT; omega
   have hne : ¬ ((post.length : Int) + 1 = 0) := by omega
   have et : cC r.tag = .tup [.int r.tc, .int r.th] := rfl
   cases hg : pre.getLast? with
   | none =>
     simp [nX, nW, nV, hne, hlt, iI, dF]
     have z := st4 (some .non)
     rw [et] at z
     simpa [iI] using z
   | some y =>
     have hy : lat y.1 y.2 r.tc r.th = true := e2 y hg
     have ey : cC y = .tup [.int y.1, .int y.2] := rfl
     simp [ey, nX, nW, nV, hne, hlt, iI, hy, dF]
     have z := st4 (some (cC y))
     rw [et, ey] at z
     simpa [iI] using z
theorem zkm : ∀ ds S Q, lN ds S Q → wK { nx := fun _ S' => Q .non S', rt := Q } (cK 4 ds) S := by
 rintro _ S Q ⟨rows, rfl, hl, ⟨st, w⟩, q⟩
 simp [zhm, cK]
 intro p hp
 exact zm3 (S0 := S) (p := p) w srt0 (by simp; omega) (fun y2 y3 ds => by simp; exact q _ (pG.new hp)) none none
theorem oN {D : Dn} {S : aN} {b : Addr} {c h : Int} {all : List Dv} {x1 : Option Dv} (hS : jU S (.ref b) = some all) : ∀ (ss : List Slip) (x3 : Option Dv), (if ((c, h) : cV) ∈ aT ss then D.rt (.bl true) S else ∀ y, D.nx [some (.ref b), x1, some (.tup [.int c, .int h]), y] S) →
 gX 3 cN D (.ref b) all (ss.map aJ) [some (.ref b), x1, some (.tup [.int c, .int h]), x3] S
 | [], x3, q => by
   rw [if_neg (by intro z; cases z)] at q
   exact q x3
 | .cut t :: ss, x3, q => by
   have step := oN (D := D) (c := c) (h := h) (x1 := x1) hS ss (some (aJ (.cut t))) q
   show cN { D with nx := fun ρ1 S1 => jU S1 (.ref b) = some all ∧ gX 3 cN D (.ref b) all (ss.map aJ) ρ1 S1, ct := fun ρ1 S1 => jU S1 (.ref b) = some all ∧ gX 3 cN D (.ref b) all (ss.map aJ) ρ1 S1, bk := D.nx } [some (.ref b), x1, some (.tup [.int c, .int h]), some (aJ (.cut t))] S
   generalize gX 3 cN D (.ref b) all (ss.map aJ) = N at step ⊢
   simp [kK, aJ, hS] at step ⊢
   exact step
 | .put t b' x :: ss, x3, q => by
   have q' : if ((c, h) : cV) ∈ t :: aT ss then D.rt (.bl true) S else ∀ y, D.nx [some (.ref b), x1, some (.tup [.int c, .int h]), y] S := q
   show cN { D with nx := fun ρ1 S1 => jU S1 (.ref b) = some all ∧ gX 3 cN D (.ref b) all (ss.map aJ) ρ1 S1, ct := fun ρ1 S1 => jU S1 (.ref b) = some all ∧ gX 3 cN D (.ref b) all (ss.map aJ) ρ1 S1, bk := D.nx } [some (.ref b), x1, some (.tup [.int c, .int h]), some (aJ (.put t b' x))] S
   by_cases e : t.1 = c ∧ t.2 = h
   · rw [if_pos (by rw [← e.1, ← e.2]; exact List.mem_cons_self)] at q'
     simp [kK, aJ, e.1, e.2]
     exact q'
   · have ne : ¬ ((c, h) : cV) = t := fun z => e (by rw [← z]; exact ⟨rfl, rfl⟩)
     have step := oN (D := D) (c := c) (h := h) (x1 := x1) hS ss (some (aJ (.put t b' x))) (by
      by_cases m : ((c, h) : cV) ∈ aT ss
      · rw [if_pos m]; rw [if_pos (List.mem_cons_of_mem _ m)] at q'; exact q'
      · rw [if_neg m]; rw [if_neg (fun z => (List.mem_cons.mp z).elim ne m)] at q'; exact q')
     generalize gX 3 cN D (.ref b) all (ss.map aJ) = N at step ⊢
     simp [kK, aJ, hS, e] at step ⊢
     exact step
theorem wL {S : aN} {p : Addr} {ds : List Dv} (h : S p = some (.lst ds)) : jU S (.ref p) = some ds := by simp only [jU, h]
theorem zho : ∀ ds S Q, eE ds S Q → sZ { nx := fun _ S' => Q .non S', rt := Q } (cK 4 ds) S := by
 rintro _ S Q ⟨b, ss, s, rfl, hS, q⟩
 have hr := wL hS
 cases s with
 | put t bh x =>
   obtain ⟨c, h⟩ := bh
   have kt := fun x1 => oN (D := { nx := bA (wC (.bl false)) { nx := fun _ S' => Q .non S', rt := Q }, rt := Q }) (c := c) (h := h) (x1 := x1) hr ss none
   by_cases e : c = 0 ∧ h = 0
   · simp [kT, cK, aJ, e.1, e.2]
     have e1 : knw ss (.put t (c, h) x) = true := by
      show (decide (((c, h) : cV) = (0, 0)) || _) = true
      rw [e.1, e.2]; rfl
     rw [e1] at q
     exact q
   · have ne : ¬ ((c, h) : cV) = (0, 0) := fun z => e ⟨congrArg Prod.fst z, congrArg Prod.snd z⟩
     have e1 : knw ss (.put t (c, h) x) = decide (((c, h) : cV) ∈ aT ss) := by
      show (decide (((c, h) : cV) = (0, 0)) || decide (((c, h) : cV) ∈ aT ss)) = _
      rw [decide_eq_false ne, Bool.false_or]
     rw [e1] at q
     simp [kT, cK, aJ, e, hr]
     refine kt _ ?_
     by_cases m : ((c, h) : cV) ∈ aT ss
     · rw [if_pos m]; rw [decide_eq_true m] at q; exact q
     · rw [if_neg m]; rw [decide_eq_false m] at q; intro y; simp; exact q
 | cut t =>
   obtain ⟨c, h⟩ := t
   have kt := fun x1 => oN (D := { nx := bA (wC (.bl false)) { nx := fun _ S' => Q .non S', rt := Q }, rt := Q }) (c := c) (h := h) (x1 := x1) hr ss none
   by_cases e : c = 0 ∧ h = 0
   · have e1 : knw ss (.cut (c, h)) = false := by
      show (!decide (((c, h) : cV) = (0, 0)) && _) = false
      rw [e.1, e.2]; rfl
     rw [e1] at q
     simp [kT, cK, aJ, e.1, e.2]
     exact q
   · have ne : ¬ ((c, h) : cV) = (0, 0) := fun z => e ⟨congrArg Prod.fst z, congrArg Prod.snd z⟩
     have e1 : knw ss (.cut (c, h)) = decide (((c, h) : cV) ∈ aT ss) := by
      show (!decide (((c, h) : cV) = (0, 0)) && decide (((c, h) : cV) ∈ aT ss)) = _
      rw [decide_eq_false ne]; rfl
     rw [e1] at q
     simp [kT, cK, aJ, e, hr]
     refine kt _ ?_
     by_cases m : ((c, h) : cV) ∈ aT ss
     · rw [if_pos m]; rw [decide_eq_true m] at q; exact q
     · rw [if_neg m]; rw [decide_eq_false m] at q; intro y; simp; exact q
theorem zhp {S : aN} {ss : List Slip} {s : Slip} {p : Addr} (hp : S p = some (.lst (ss.map aJ))) (h1 : okSl s) (h2 : ∀ s ∈ ss, okSl s) : oIn S (aJ s) (.ref p) = some (decide (s ∈ ss)) := by
 have e : vK S (.ref p) = .lst (ss.map aJ) := by simp only [vK, hp]
 unfold oIn
 rw [e]
 exact zG (S := S) h1 h2
theorem zc8 {D : Dn} {b : Addr} {x1 x2 : Option Dv} : ∀ (r ss : List Slip) (S : aN) (x3 : Option Dv) (k : Nat), S b = some (.lst (ss.map aJ)) → ss.length + r.length ≤ 5000 → (∀ s ∈ ss, okSl s) → (∀ s ∈ r, okSl s) → Bk ss r k → (∀ s ∈ r, s ∉ ss) → r.Nodup →
 (∀ y, D.nx [some (.ref b), x1, x2, y] (cB S b (.lst ((ss ++ r).map aJ)))) → dL 3 fL D (r.map aJ) [some (.ref b), x1, x2, x3] S
 | [], ss, S, x3, k, hS, _, _, _, _, _, _, fin => by
   have z := fin x3
   rw [List.append_nil, zgt hS] at z
   exact z
 | s :: r, ss, S, x3, k, hS, hl, ok1, ok2, bk, hn, nd, fin => by
   rw [List.length_cons] at hl
   obtain ⟨n1, n2⟩ := List.nodup_cons.mp nd
   have ns := hn s List.mem_cons_self
   have oks := ok2 s List.mem_cons_self
   have hlim : ss.length < mT := by unfold mT; omega
   cases bk with
   | old hm => exact absurd hm ns
   | @new _ _ _ k hm hk bk =>
     have step := zc8 (D := D) (b := b) (x1 := x1) (x2 := x2) r (ss ++ [s]) (cB S b (.lst ((ss ++ [s]).map aJ))) (some (aJ s)) k cF (by rw [List.length_append, List.length_singleton]; omega) (fun q hq => by
      rcases List.mem_append.mp hq with z | z
      · exact ok1 q z
      · rw [List.mem_singleton.mp z]; exact oks) (fun q hq => ok2 q (List.mem_cons_of_mem _ hq)) bk (fun q hq hm => by
      rcases List.mem_append.mp hm with z | z
      · exact hn q (List.mem_cons_of_mem _ hq) z
      · rw [List.mem_singleton.mp z] at hq; exact n1 hq) n2 (fun y => by
      have z := fin y
      rw [dF, List.append_assoc]
      exact z)
     show fL { D with nx := dL 3 fL D (r.map aJ), ct := dL 3 fL D (r.map aJ), bk := D.nx } [some (.ref b), x1, x2, some (aJ s)] S
     generalize dL 3 fL D (r.map aJ) = N at step ⊢
     simp [za9, zhp hS oks ok1, hm]
     refine ⟨b, ss, s, rfl, hS, ?_⟩
     rw [hk]
     simp [sO hS, hlim]
     simpa using step
theorem zt9 {s : Slip} (h : okSl s) : lay 2 (aJ s) := by
 have tg : ∀ t : cV, lay 1 (.tup [.int t.1, .int t.2]) := fun t => .inr ⟨_, .inl rfl, by show 2 ≤ 5000; decide, fun x hx => by
  rcases List.mem_cons.mp hx with e | hx
  · exact .inl ⟨_, e⟩
  · rcases List.mem_cons.mp hx with e | hx
    · exact .inl ⟨_, e⟩
    · cases hx⟩
 cases s with
 | put t b x =>
   refine .inr ⟨_, .inl rfl, by show 4 ≤ 5000; decide, fun y hy => ?_⟩
   rcases List.mem_cons.mp hy with e | hy
   · exact .inl (.inr ⟨_, e, oZ⟩)
   · rcases List.mem_cons.mp hy with e | hy
     · rw [e]; exact tg t
     · rcases List.mem_cons.mp hy with e | hy
       · rw [e]; exact tg b
       · rcases List.mem_cons.mp hy with e | hy
         · exact .inl (.inr ⟨_, e, h⟩)
         · cases hy
 | cut t =>
   refine .inr ⟨_, .inl rfl, by show 2 ≤ 5000; decide, fun y hy => ?_⟩
   rcases List.mem_cons.mp hy with e | hy
   · exact .inl (.inr ⟨_, e, sA⟩)
   · rcases List.mem_cons.mp hy with e | hy
     · rw [e]; exact tg t
     · cases hy
theorem zm4 {ss : List Slip} (h : ∀ s ∈ ss, okSl s) (hl : ss.length ≤ 5000) : lay 3 (.lst (ss.map aJ)) := .inr ⟨_, .inr rfl, by rw [List.length_map]; exact hl, fun x hx => by
 obtain ⟨s, hs, e⟩ := List.mem_map.mp hx
 rw [← e]; exact zt9 (h s hs)⟩
theorem zkn : ∀ ds S Q, jN ds S Q → wG { nx := fun _ S' => Q .non S', rt := Q } (cK 4 ds) S := by
 rintro _ S Q ⟨b, ss, r, k, rfl, hS, hl, ok1, ok2, bk, hn, nd, q⟩
 have mt := zc8 (D := { nx := bA (wC (.bl true)) { nx := fun _ S' => Q .non S', rt := Q }, rt := Q }) (b := b) (x1 := some (.lst (r.map aJ))) (x2 := some (.lst (r.map aJ))) r ss S none k hS hl ok1 ok2 bk hn nd (fun y => q)
 have ly := zm4 ok2 (by omega)
 simp only [zhk, cK]
 simp
 refine ⟨r, rfl, ?_⟩
 simp
 refine ⟨_, rfl, ly, ?_⟩
 simp
 exact mt
theorem zhq {D : Dn} {b : Addr} {x1 x2 : Option Dv} {r ss : List Slip} {k : Nat} (bk : Bk ss r k) : ∀ (S : aN) (c : Nat) (x4 : Option Dv), S b = some (.lst (ss.map aJ)) → ss.length + r.length ≤ 5000 → (∀ s ∈ ss, okSl s) → (∀ s ∈ r, okSl s) →
 (∀ y, D.nx [some (.ref b), x1, x2, some (.int ((c + k : Nat) : Int)), y] (cB S b (.lst ((dd ss r).map aJ)))) → dL 4 cJ D (r.map aJ) [some (.ref b), x1, x2, some (.int (c : Int)), x4] S := by
 induction bk with
 | nil =>
   intro S c x4 hS _ _ _ fin
   have z := fin x4
   rw [Nat.add_zero, show ∀ l : List Slip, dd l [] = l from fun _ => rfl, zgt hS] at z
   exact z
 | @old ss r s k hm _ ih =>
   intro S c x4 hS hl ok1 ok2 fin
   rw [List.length_cons] at hl
   have oks := ok2 s List.mem_cons_self
   have step := ih S c (some (aJ s)) hS (by omega) ok1 (fun q hq => ok2 q (List.mem_cons_of_mem _ hq)) (fun y => by
    have z := fin y
    rw [show dd ss (s :: r) = dd ss r from if_pos hm] at z
    exact z)
   show cJ { D with nx := dL 4 cJ D (r.map aJ), ct := dL 4 cJ D (r.map aJ), bk := D.nx } [some (.ref b), x1, x2, some (.int (c : Int)), some (aJ s)] S
   generalize dL 4 cJ D (r.map aJ) = N at step ⊢
   simp [oG, zcr hS oks ok1, hm]
   exact step
 | @new ss r s k hm hk _ ih =>
   intro S c x4 hS hl ok1 ok2 fin
   rw [List.length_cons] at hl
   have oks := ok2 s List.mem_cons_self
   have hlim : ss.length < mT := by unfold mT; omega
   have step := ih (cB S b (.lst ((ss ++ [s]).map aJ))) (c + 1) (some (aJ s)) cF (by rw [List.length_append, List.length_singleton]; omega) (fun q hq => by
    rcases List.mem_append.mp hq with z | z
    · exact ok1 q z
    · rw [List.mem_singleton.mp z]; exact oks) (fun q hq => ok2 q (List.mem_cons_of_mem _ hq)) (fun y => by
    have z := fin y
    rw [show dd ss (s :: r) = dd (ss ++ [s]) r from if_neg hm] at z
    rw [dF, show c + 1 + k = c + (k + 1) by omega]
    exact z)
   rw [show ((c + 1 : Nat) : Int) = (c : Int) + 1 by omega, List.map_append] at step
   show cJ { D with nx := dL 4 cJ D (r.map aJ), ct := dL 4 cJ D (r.map aJ), bk := D.nx } [some (.ref b), x1, x2, some (.int (c : Int)), some (aJ s)] S
   generalize dL 4 cJ D (r.map aJ) = N at step ⊢
   simp [oG, zcr hS oks ok1, hm]
   refine ⟨b, ss, s, rfl, hS, ?_⟩
   rw [hk]
   simp [sO hS, hlim]
   simpa using step
theorem zec : ∀ ds S Q, iR ds S Q → qZ { nx := fun _ S' => Q .non S', rt := Q } (cK 5 ds) S := by
 rintro _ S Q ⟨b, g, ss, r, k, rfl, hS, hg, hl, ok1, ok2, bk, q⟩
 have fl : ∀ S : aN, S g = some (.lst (r.map aJ)) → rK S [.ref g] = some (.lst (r.map aJ)) := fun S h => by
  show (jU S (.ref g)).map Dv.lst = _
  rw [wL h]; rfl
 simp [zc6, cK, fl S hg]
 refine zhq bk S 0 none hS hl ok1 ok2 fun y => ?_
 simp
 exact q
theorem dQ.at {S : aN} {bs : List Addr} {hs : List HS} (h : dQ S bs hs) {k : Nat} {s : HS} (hk : hs[k]? = some s) : ∃ b, bs[k]? = some b ∧ S b = some (.lst (s.ss.map aJ)) := by
 have hl : k < bs.length := by rw [h.2.1]; exact (List.getElem?_eq_some_iff.mp hk).1
 exact ⟨bs[k], List.getElem?_eq_getElem hl, h.2.2 k bs[k] s (List.getElem?_eq_getElem hl) hk⟩
theorem dQ.set {S : aN} {bs : List Addr} {hs : List HS} (h : dQ S bs hs) {k : Nat} {p : Addr} (hp : bs[k]? = some p) (x : HS) : dQ (cB S p (.lst (x.ss.map aJ))) bs (hs.set k x) := by
 have kl := (List.getElem?_eq_some_iff.mp hp).1
 refine ⟨h.1, by rw [List.length_set]; exact h.2.1, fun j q y hq hy => ?_⟩
 by_cases e : k = j
 · subst e
   rw [hp] at hq
   cases hq
   rw [List.getElem?_set_self (by rw [← h.2.1]; exact kl)] at hy
   cases hy
   exact cF
 · rw [List.getElem?_set_ne e] at hy
   have ne : q ≠ p := fun z => e ((List.getElem?_inj kl h.1).mp (by rw [hp, hq, z]))
   rw [gU ne]
   exact h.2.2 j q y hq hy
theorem dQ.ext {S S' : aN} {bs : List Addr} {hs : List HS} (h : dQ S bs hs) (e : pG S S') : dQ S' bs hs := ⟨h.1, h.2.1, fun k b s h1 h2 => e _ _ (h.2.2 k b s h1 h2)⟩
theorem zbc : ∀ ds S Q, gD ds S Q → nO { nx := fun _ S' => Q .non S', rt := Q } (cK 5 ds) S := by
 rintro _ S Q ⟨bs, hs, hs', a, g, t, w, pg, pt, rfl, hg, ht, hB, st, ⟨U, F, hU⟩, q⟩
 have at' : ∀ {k : Nat} {p : Addr} {s : HS}, bs[k]? = some p → hs[k]? = some s → S p = some (.lst (s.ss.map aJ)) := fun h1 h2 => hB.2.2 _ _ _ h1 h2
 have ixs : ∀ {s : HS} {x : Slip}, S pg = some (.lst (s.ss.map aJ)) → s.ss[w]? = some x → bI S (.ref pg) (.int (w : Int)) = some (aJ x) := fun hp h => zacu hp (by omega) (by rw [Int.toNat_natCast, List.getElem?_map, h]; rfl)
 cases st with
 | @past _ _ _ s u es eu hw =>
   have hl : ((s.ss.length : Int) ≤ (w : Int)) := by omega
   simp [hJ, cK, pA, zbp (at' hg es), hl]
   exact q S hB
 | @old _ _ _ s u x es eu ex oh okx hm =>
   have hl := (List.getElem?_eq_some_iff.mp ex).1
   have hl' : ¬ ((s.ss.length : Int) ≤ (w : Int)) := by omega
   have eb : ∀ S : aN, zpx S (.bl false) (.bl false) = some true := fun _ => rfl
   simp [hJ, iK, iJ, cK, pA, zbp (at' hg es), hl', ixs (at' hg es) ex, zhp (at' ht eu) okx oh.oks, hm, eb]
   exact q S hB
 | @new _ _ _ s u x rows' es eu ex oh okx hm hr oa =>
   have hl := (List.getElem?_eq_some_iff.mp ex).1
   have hl' : ¬ ((s.ss.length : Int) ≤ (w : Int)) := by omega
   have hk : knw u.ss x = true := (zmq F (hU u (List.mem_of_getElem? eu)) x).mpr oa
   have hlim : u.ss.length < mT := by have := oh.len2; unfold mT; omega
   have eb : ∀ S : aN, zpx S (.bl true) (.bl true) = some true := fun _ => rfl
   simp [hJ, iK, iJ, mO, cK, pA, zbp (at' hg es), hl', ixs (at' hg es) ex, zhp (at' ht eu) okx oh.oks, hm]
   refine ⟨pt, u.ss, x, rfl, at' ht eu, ?_⟩
   rw [hk]
   simp [uO, uN, sO (at' ht eu), hlim, eb]
   have z := q _ (hB.set ht ⟨rows', u.ss ++ [x]⟩)
   simpa using z
 | @refused _ _ _ s u x nm es eu ex oh okx hm hr oa =>
   have hl := (List.getElem?_eq_some_iff.mp ex).1
   have hl' : ¬ ((s.ss.length : Int) ≤ (w : Int)) := by omega
   have hk : knw u.ss x = false := by
    rw [Bool.eq_false_iff]
    exact fun z => oa ((zmq F (hU u (List.mem_of_getElem? eu)) x).mp z)
   simp [hJ, iK, iJ, mO, cK, pA, zbp (at' hg es), hl', ixs (at' hg es) ex, zhp (at' ht eu) okx oh.oks, hm]
   refine ⟨pt, u.ss, x, rfl, at' ht eu, ?_⟩
   rw [hk]
   simp
   exact q S hB
theorem zko {S : aN} {p : Addr} {kvs : List (List fJ × Dv)} {k : Addr → List (List fJ × Dv) → Prop} (h : S p = some (.dic kvs)) : zmf S (.ref p) k = k p kvs := by
 unfold zmf zjg zch
 simp only [h]
theorem zhr {S : aN} {p : Addr} {kvs : List (List fJ × Dv)} {a b : Int} (h : S p = some (.dic kvs)) : zpu S (.tup [.int a, .int b]) (.ref p) = some (uK kvs [.inl a, .inl b]) := by
 unfold zpu zch
 simp only [h]; rfl
theorem zc9 {S : aN} {p : Addr} {kvs : List (List fJ × Dv)} {a b : Int} (h : S p = some (.dic kvs)) : tU S (.tup [.int a, .int b]) (.ref p) = some (!uK kvs [.inl a, .inl b]) := by
 unfold tU zch
 simp only [h]; rfl
noncomputable def zS (kvs : List (List fJ × Dv)) (ts : List cV) : Prop := ∀ t : cV, uK kvs (zE t) = decide (t ∈ ts)
theorem zS.nil : zS [] [] := fun t => rfl
theorem zS.put {kvs : List (List fJ × Dv)} {ts : List cV} (h : zS kvs ts) (t : cV) (d : Dv) : zS (vS kvs (zE t) d) (ts ++ [t]) := fun u => by
 rw [zs8, h u, Bool.eq_iff_iff]
 simp only [Bool.or_eq_true, decide_eq_true_eq, List.mem_append, List.mem_singleton]
 constructor
 · rintro (z | z)
   · exact .inl z
   · exact .inr (zs7 z).symm
 · rintro (z | z)
   · exact .inl z
   · exact .inr (by rw [z])
theorem wM {D : Dn} {b p1 p2 : Addr} {x0 : Option Dv} {all : List Dv} {S0 : aN} (hb : S0 b = some (.lst all)) (h1 : S0 p1 = none) (h2 : S0 p2 = none) (hne : p1 ≠ p2) : ∀ (ss : List Slip) (S : aN) (k1 k2 : List (List fJ × Dv)) (t1 t2 : List cV) (x4 : Option Dv),
 pG S0 S → S p1 = some (.dic k1) → S p2 = some (.dic k2) → zS k1 t1 → zS k2 t2 → k1.length + k2.length + ss.length ≤ 10000 → (∀ t ∈ aT ss, t ≠ (0, 0)) → (∀ t ∈ bQ ss, t ≠ (0, 0)) →
 (∀ S' k1' k2' y, pG S0 S' → S' p1 = some (.dic k1') → S' p2 = some (.dic k2') → zS k1' (t1 ++ aT ss) → zS k2' (t2 ++ bQ ss) → D.nx [x0, some (.ref b), some (.ref p1), some (.ref p2), y] S') →
 gX 4 cT D (.ref b) all (ss.map aJ) [x0, some (.ref b), some (.ref p1), some (.ref p2), x4] S
 | [], S, k1, k2, t1, t2, x4, hS, e1, e2, K1, K2, _, _, _, fin => fin S k1 k2 x4 hS e1 e2 (by rw [show aT [] = [] from rfl, List.append_nil]; exact K1) (by rw [show bQ [] = [] from rfl, List.append_nil]; exact K2)
 | .put t bh x :: ss, S, k1, k2, t1, t2, x4, hS, e1, e2, K1, K2, hl, nz1, nz2, fin => by
   rw [List.length_cons] at hl
   have nt : ¬ (t.1 = 0 ∧ t.2 = 0) := fun z => nz1 t (by show t ∈ t :: aT ss; exact List.mem_cons_self) (by rw [Prod.ext_iff]; exact z)
   have pl := zjh k1 (zE t) (.bl true)
   have step := wM (D := D) (x0 := x0) hb h1 h2 hne ss (cB S p1 (.dic (vS k1 (zE t) (.bl true)))) (vS k1 (zE t) (.bl true)) k2 (t1 ++ [t]) t2 (some (aJ (.put t bh x))) (hS.upd h1) cF (by rw [gU (Ne.symm hne)]; exact e2) (K1.put t _) K2 (by omega) (fun u hu => nz1 u (by show u ∈ t :: aT ss; exact List.mem_cons_of_mem _ hu)) nz2 (fun S' k1' k2' y a1 a2 a3 a4 a5 => fin S' k1' k2' y a1 a2 a3 (by
    rw [List.append_assoc] at a4
    exact a4) a5)
   have hr : jU (cB S p1 (.dic (vS k1 (zE t) (.bl true)))) (.ref b) = some all := wL ((hS.upd h1) b _ hb)
   show cT { D with nx := fun ρ1 S1 => jU S1 (.ref b) = some all ∧ gX 4 cT D (.ref b) all (ss.map aJ) ρ1 S1, ct := fun ρ1 S1 => jU S1 (.ref b) = some all ∧ gX 4 cT D (.ref b) all (ss.map aJ) ρ1 S1, bk := D.nx } [x0, some (.ref b), some (.ref p1), some (.ref p2), some (aJ (.put t bh x))] S
   generalize gX 4 cT D (.ref b) all (ss.map aJ) = N at step ⊢
   simp [rN, aJ, zko e1]
   exact ⟨t.1, t.2, ⟨rfl, rfl⟩, (by first | exact nt | exact fun a c => nt ⟨a, c⟩), (by unfold mT; omega), hr, step⟩
 | .cut t :: ss, S, k1, k2, t1, t2, x4, hS, e1, e2, K1, K2, hl, nz1, nz2, fin => by
   rw [List.length_cons] at hl
   have nt : ¬ (t.1 = 0 ∧ t.2 = 0) := fun z => nz2 t (by show t ∈ t :: bQ ss; exact List.mem_cons_self) (by rw [Prod.ext_iff]; exact z)
   have pl := zjh k2 (zE t) (.bl true)
   have step := wM (D := D) (x0 := x0) hb h1 h2 hne ss (cB S p2 (.dic (vS k2 (zE t) (.bl true)))) k1 (vS k2 (zE t) (.bl true)) t1 (t2 ++ [t]) (some (aJ (.cut t))) (hS.upd h2) (by rw [gU hne]; exact e1) cF K1 (K2.put t _) (by omega) nz1 (fun u hu => nz2 u (by show u ∈ t :: bQ ss; exact List.mem_cons_of_mem _ hu)) (fun S' k1' k2' y a1 a2 a3 a4 a5 => fin S' k1' k2' y a1 a2 a3 a4 (by
    rw [List.append_assoc] at a5
    exact a5))
   have hr : jU (cB S p2 (.dic (vS k2 (zE t) (.bl true)))) (.ref b) = some all := wL ((hS.upd h2) b _ hb)
   show cT { D with nx := fun ρ1 S1 => jU S1 (.ref b) = some all ∧ gX 4 cT D (.ref b) all (ss.map aJ) ρ1 S1, ct := fun ρ1 S1 => jU S1 (.ref b) = some all ∧ gX 4 cT D (.ref b) all (ss.map aJ) ρ1 S1, bk := D.nx } [x0, some (.ref b), some (.ref p1), some (.ref p2), some (aJ (.cut t))] S
   generalize gX 4 cT D (.ref b) all (ss.map aJ) = N at step ⊢
   simp [rN, aJ, zko e2]
   exact ⟨t.1, t.2, ⟨rfl, rfl⟩, (by first | exact nt | exact fun a c => nt ⟨a, c⟩), (by unfold mT; omega), hr, step⟩
theorem xV {S : aN} {p1 p2 : Addr} {k1 k2 : List (List fJ × Dv)} {t1 t2 : List cV} (e1 : S p1 = some (.dic k1)) (e2 : S p2 = some (.dic k2)) (K1 : zS k1 t1) (K2 : zS k2 t2) {Q : List Dv → aN → Prop} : ∀ (F : List Rw) (acc : List Dv),
 Q (acc ++ ((F.filter fun r => decide (r.tag ∈ t1) && !decide (r.tag ∈ t2)).map Rw.tag).map cC) S →
 cmpL (yE [.ref p1, .ref p2] (uJ (bN zpu (aU bI (aD 0) (wC (.int 0))) (aD 1)) (bN tU (aU bI (aD 0) (wC (.int 0))) (aD 2)))) (wS [.ref p1, .ref p2] (aU bI (aD 0) (wC (.int 0)))) (F.map bC) S acc Q
 | [], acc, q => by simpa [cmpL] using q
 | r :: F, acc, q => by
   have h1 : uK k1 [.inl r.tc, .inl r.th] = decide (r.tag ∈ t1) := K1 r.tag
   have h2 : uK k2 [.inl r.tc, .inl r.th] = decide (r.tag ∈ t2) := K2 r.tag
   by_cases m1 : r.tag ∈ t1
   · by_cases m2 : r.tag ∈ t2
     · rw [List.filter_cons, if_neg (by simp [m1, m2])] at q
       have z := xV e1 e2 K1 K2 (Q := Q) F acc q
       simp [cmpL, iI, zhr e1, zc9 e2, h1, h2, m1, m2]
       exact z
     · rw [List.filter_cons, if_pos (by simp [m1, m2])] at q
       have z := xV e1 e2 K1 K2 (Q := Q) F (acc ++ [cC r.tag]) (by simpa using q)
       simp [cmpL, iI, zhr e1, zc9 e2, h1, h2, m1, m2]
       exact z
   · rw [List.filter_cons, if_neg (by simp [m1])] at q
     have z := xV e1 e2 K1 K2 (Q := Q) F acc q
     simp [cmpL, iI, zhr e1, h1, m1]
     exact z
theorem zkp : ∀ ds S Q, lK ds S Q → wH { nx := fun _ S' => Q .non S', rt := Q } (cK 5 ds) S := by
 rintro _ S Q ⟨F, b, ss, rfl, hb, hl, nz1, nz2, q⟩
 simp [zhl, cK]
 intro p1 h1 p2 h2
 have hne : p2 ≠ p1 := fun e => by rw [e, cF] at h2; cases h2
 have h2' : S p2 = none := by rw [gU hne] at h2; exact h2
 have hS : pG S (cB (cB S p1 (.dic [])) p2 (.dic [])) := ((pG.refl S).upd h1).upd h2'
 rw [wL (hS b _ hb)]
 simp
 refine wM hb h1 h2' (Ne.symm hne) ss _ [] [] [] [] none hS (by rw [gU (Ne.symm hne), cF]) cF zS.nil zS.nil (by simp; omega) nz1 nz2 fun S' k1' k2' y a1 a2 a3 a4 a5 => ?_
 rw [List.nil_append] at a4 a5
 simp
 exact xV a2 a3 a4 a5 F [] (q S' a1)
theorem wN {D : Dn} {S : aN} {b : Addr} {all : List Dv} {x0 x2 x3 x6 x7 x8 : Option Dv} (hr : jU S (.ref b) = some all) : ∀ (ss : List Slip) (m : Int) (x5 : Option Dv), (∀ y, D.nx [x0, some (.ref b), x2, x3, some (.int (xT m ss)), y, x6, x7, x8] S) →
 gX 5 bS D (.ref b) all (ss.map aJ) [x0, some (.ref b), x2, x3, some (.int m), x5, x6, x7, x8] S
 | [], m, x5, fin => fin x5
 | .put t bh x :: ss, m, x5, fin => by
   have step := wN (D := D) (x0 := x0) (x2 := x2) (x3 := x3) (x6 := x6) (x7 := x7) (x8 := x8) hr ss (if t.1 > m then t.1 else m) (some (aJ (.put t bh x))) fin
   show bS { D with nx := fun ρ1 S1 => jU S1 (.ref b) = some all ∧ gX 5 bS D (.ref b) all (ss.map aJ) ρ1 S1, ct := fun ρ1 S1 => jU S1 (.ref b) = some all ∧ gX 5 bS D (.ref b) all (ss.map aJ) ρ1 S1, bk := D.nx } [x0, some (.ref b), x2, x3, some (.int m), some (aJ (.put t bh x)), x6, x7, x8] S
   generalize gX 5 bS D (.ref b) all (ss.map aJ) = N at step ⊢
   have em : ∀ S : aN, zwh S [.int m, .int t.1] = some (.int (if t.1 > m then t.1 else m)) := fun _ => rfl
   simp [lQ, aJ, em, hr] at step ⊢
   exact step
 | .cut t :: ss, m, x5, fin => by
   have step := wN (D := D) (x0 := x0) (x2 := x2) (x3 := x3) (x6 := x6) (x7 := x7) (x8 := x8) hr ss m (some (aJ (.cut t))) fin
   show bS { D with nx := fun ρ1 S1 => jU S1 (.ref b) = some all ∧ gX 5 bS D (.ref b) all (ss.map aJ) ρ1 S1, ct := fun ρ1 S1 => jU S1 (.ref b) = some all ∧ gX 5 bS D (.ref b) all (ss.map aJ) ρ1 S1, bk := D.nx } [x0, some (.ref b), x2, x3, some (.int m), some (aJ (.cut t)), x6, x7, x8] S
   generalize gX 5 bS D (.ref b) all (ss.map aJ) = N at step ⊢
   simp [lQ, aJ, hr] at step ⊢
   exact step
theorem zfn {D : Dn} {S0 : aN} {p : Addr} {h pl : Nat} {z : Str} {x0 x1 x3 x5 : Option Dv} : ∀ (xs : List Str) (done : List Slip) (c : Int) (b : cV) (x8 : Option Dv), done.length + xs.length ≤ 1000 →
 (∀ ρ, ev? ρ 7 = some (.ref p) → ρ.length = 9 → D.nx ρ (cB S0 p (.lst ((done ++ cX (c + 1) ((h : Int) + 1) b xs).map aJ)))) →
 dL 8 cZ D (xs.map .str) [x0, x1, some (bH (.write h pl z)), x3, some (.int c), x5, some (cC b), some (.ref p), x8] (cB S0 p (.lst (done.map aJ)))
 | [], done, c, b, x8, hl, fin => by
   unfold cX at fin
   rw [List.append_nil] at fin
   exact fin _ (by simp) (by simp)
 | x :: xs, done, c, b, x8, hl, fin => by
   rw [List.length_cons] at hl
   have step := zfn (D := D) (S0 := S0) (p := p) (h := h) (pl := pl) (z := z) (x0 := x0) (x1 := x1) (x3 := x3) (x5 := x5) xs (done ++ [.put (c + 1, (h : Int) + 1) b x]) (c + 1) (c + 1, (h : Int) + 1) (some (.str x)) (by rw [List.length_append, List.length_singleton]; omega) (fun ρ h1 h2 => by
    have q := fin ρ h1 h2
    rw [show cX (c + 1) ((h : Int) + 1) b (x :: xs) = .put (c + 1, (h : Int) + 1) b x :: cX (c + 1 + 1) ((h : Int) + 1) (c + 1, (h : Int) + 1) xs from rfl] at q
    rw [List.append_assoc]; exact q)
   rw [List.map_append, show [Slip.put (c + 1, (h : Int) + 1) b x].map aJ = [.tup [.str "put", .tup [.int (c + 1), .int ((h : Int) + 1)], .tup [.int b.1, .int b.2], .str x]] from rfl, zgk] at step
   show cZ { D with nx := dL 8 cZ D (xs.map .str), ct := dL 8 cZ D (xs.map .str), bk := D.nx } [x0, x1, some (bH (.write h pl z)), x3, some (.int c), x5, some (cC b), some (.ref p), some (.str x)] (cB S0 p (.lst (done.map aJ)))
   generalize dL 8 cZ D (xs.map .str) = N at step ⊢
   have hlim : done.length < mT := by unfold mT; omega
   rw [zgk]
   simp only [bH] at step ⊢
   simp [tB, hlim, dF]
   exact step
theorem zT : ∀ ds S Q, fT ds S Q → mJ { nx := fun _ S' => Q .non S', rt := Q } (cK 9 ds) S := by
 rintro _ S Q ⟨F, b, s, d, r, rfl, hb, hl, nz1, nz2, seen, most', hd, q⟩
 simp only [xU, zv4, zv5, zr5, zis, znp, zbk, cK]
 simp
 refine ⟨F, b, s.ss, rfl, hb, hl, nz1, nz2, fun S1 hS1 => ?_⟩
 rw [seen]
 have hb1 := hS1 b _ hb
 rcases hd with ⟨h, p, z, rfl, hz, rfl⟩ | ⟨h, p, m, rfl, rfl⟩
 · 
   have th : ∀ ds2 : List cV, (ds2.map cC).length = ds2.length := fun l => List.length_map _
   have run : ∀ (bh : cV) (x8 : Option Dv), bh = jG s.rows p → jB { nx := fun _ S' => Q .non S', rt := Q } [some (.lst (F.map bC)), some (.ref b), some (bH (.write h p z)), some (.lst (((there s.rows).map Rw.tag).map cC)), some (.int (most s.rows)), x8, some (cC bh), none, none] S1 := fun bh x8 e => by
    generalize ((there s.rows).map Rw.tag).map cC = T
    generalize F.map bC = FF
    have el : ∀ S : aN, z.length ≤ mT := fun _ => by unfold mT; omega
    simp [tF, tE]
    intro p' hp'
    simp only [bH]
    simp
    try refine ⟨by unfold mT; omega, ?_⟩
    rw [zn2]
    have dt := zfn (D := { nx := fun ρ1 S1 => xC 7 ρ1 S1 (jA { nx := fun _ S' => Q .non S', rt := Q }), rt := Q }) (S0 := S1) (p := p') (h := h) (pl := p) (z := z) (x0 := some (.lst FF)) (x1 := some (.ref b)) (x3 := some (.lst T)) (x5 := x8) (chs z) [] (most s.rows) bh none (by rw [zgl]; simpa using hz) (fun ρ h1 h2 => by
     rw [List.nil_append]
     refine yW h1 hp' ?_
     have e' : ev? (ρ.set 7 (some (.lst ((cX (most s.rows + 1) ((h : Int) + 1) bh (chs z)).map aJ)))) 7 = some (.lst ((cX (most s.rows + 1) ((h : Int) + 1) bh (chs z)).map aJ)) := by simp [ev?, h2]
     simp only [tD, zf7, zbk, e', tQ]
     rw [e]
     exact q S1 hS1)
    exact dt
   have mt := fun x0 x2 x3 D' fin => wN (D := D') (x0 := x0) (x2 := x2) (x3 := x3) (x6 := none) (x7 := none) (x8 := none) (wL hb1) s.ss 0 none fin
   have tl : ((there s.rows).map Rw.tag).length = (there s.rows).length := List.length_map _
   have ax := zt3 (rows := s.rows) (p := p)
   have e0 : bH (.write h p z) = .tup [.str "write", .int ((h : Int) + 1), .int p, .str z] := rfl
   generalize hT : (there s.rows).map Rw.tag = T at run tl ax ⊢
   generalize hFF : F.map bC = FF at run ⊢
   have lT : (T.map cC).length = T.length := List.length_map _
   generalize hTT : T.map cC = TT at run lT ⊢
   rw [e0] at run ⊢
   simp [lR, tJ, tI, wL hb1]
   refine mt _ _ _ _ fun y => ?_
   rw [most']
   simp [tH, tG]
   by_cases hp : 0 < p
   · have hp' : (0 : Int) < (p : Int) := by omega
     by_cases ht : 0 < (there s.rows).length
     · rw [if_pos ⟨hp, ht⟩] at ax
       have hm : min p (there s.rows).length - 1 < T.length := by rw [tl]; omega
       rw [List.getElem?_eq_getElem hm] at ax
       have hTp : 0 < TT.length := by rw [lT, tl]; exact ht
       have hTn : TT ≠ [] := fun zz => by rw [zz] at hTp; simp at hTp
       have r1 := run T[min p (there s.rows).length - 1] y (by rw [ax]; rfl)
       rcases Nat.lt_or_ge TT.length p with hc | hc
       · have fm : ∀ S : aN, zsq S [.int (p : Int), .int (TT.length : Int)] = some (.int (TT.length : Int)) := fun _ => by
          show some (Dv.int (if (TT.length : Int) < (p : Int) then (TT.length : Int) else (p : Int))) = _
          rw [if_pos (by omega)]
         have ix : ∀ S : aN, bI S (.lst TT) (.int ((TT.length : Int) - 1)) = some (cC T[min p (there s.rows).length - 1]) := fun S => by
          refine eP (by omega) ?_
          have e : ((TT.length : Int) - 1).toNat = min p (there s.rows).length - 1 := by omega
          rw [e, ← hTT, List.getElem?_map, List.getElem?_eq_getElem hm]; rfl
         simp [hp', hp, hTp, hTn, fm, ix]
         exact r1
       · have fm : ∀ S : aN, zsq S [.int (p : Int), .int (TT.length : Int)] = some (.int (p : Int)) := fun _ => by
          show some (Dv.int (if (TT.length : Int) < (p : Int) then (TT.length : Int) else (p : Int))) = _
          rw [if_neg (by omega)]
         have ix : ∀ S : aN, bI S (.lst TT) (.int ((p : Int) - 1)) = some (cC T[min p (there s.rows).length - 1]) := fun S => by
          refine eP (by omega) ?_
          have e : ((p : Int) - 1).toNat = min p (there s.rows).length - 1 := by omega
          rw [e, ← hTT, List.getElem?_map, List.getElem?_eq_getElem hm]; rfl
         simp [hp', hp, hTp, hTn, fm, ix]
         exact r1
     · rw [if_neg (fun z => ht z.2)] at ax
       have e : TT = [] := by
        refine List.eq_nil_of_length_eq_zero ?_
        rw [lT, tl]; omega
       have r1 := run (0, 0) y ax.symm
       rw [show cC (0, 0) = .tup [.int 0, .int 0] from rfl] at r1
       subst e
       simp [hp', hp]
       exact r1
   · rw [if_neg (fun z => hp z.1)] at ax
     have r1 := run (0, 0) y ax.symm
     rw [show cC (0, 0) = .tup [.int 0, .int 0] from rfl] at r1
     have e : p = 0 := by omega
     subst e
     simp
     simpa using r1
 · 
   have ec : rQ (((there s.rows).map Rw.tag).map cC) (some (p : Int)) (some ((p : Int) + (m : Int))) = (mV s.rows p m).map cC := by
    rw [zjj]; rfl
   have q' := q S1 hS1
   generalize ((there s.rows).map Rw.tag).map cC = TT at ec ⊢
   generalize F.map bC = FF
   simp only [bH]
   simp [lR, ec]
   refine zct _ [] ?_
   rw [List.nil_append]
   exact q'
theorem pX {bs : List Addr} {k : Nat} {p : Addr} (h : bs[k]? = some p) (S : aN) : bI S (.lst (bs.map .ref)) (.int (k : Int)) = some (.ref p) := eP (by omega) (by rw [Int.toNat_natCast, List.getElem?_map, h]; rfl)
theorem zacv {hF : List HS} {k : Nat} {s : HS} (h : hF[k]? = some s) (S : aN) : bI S (.lst (hF.map fun h => .lst (h.rows.map bC))) (.int (k : Int)) = some (.lst (s.rows.map bC)) := eP (by omega) (by rw [Int.toNat_natCast, List.getElem?_map, h]; rfl)
theorem zon {n : Nat} {hs hs2 : List HS} {Pm Pm2 : List Slip} {Cm Cm2 : List cV} (w : WI n hs Pm Cm) (w2 : WI n hs2 Pm2 Cm2) (hP : ∀ x, x ∈ Pm → x ∈ Pm2) (hC : ∀ t, t ∈ Cm → t ∈ Cm2) (x : Slip) (a : Al hs x) : Al hs2 x := by
 cases x with
 | put t b y => exact (w2.puts _ _ _).mpr (hP _ ((w.puts _ _ _).mp a))
 | cut t => exact (w2.cuts t).mpr (hC _ ((w.cuts t).mp a))
theorem zkq : ∀ ds S Q, lL ds S Q → wI { nx := fun _ S' => Q .non S', rt := Q } (cK 5 ds) S := by
 rintro _ S Q ⟨n, bs, hs, hs', hF, Pm, Cm, d, a, rfl, hB, w, hP, dk, st, sub, nd, q⟩
 have own : ∀ {h : Nat} {s f : HS} {b : Addr} {r : List Slip} {rows' : List Rw} {ss' : List Slip} {k : Nat}, hs[h]? = some s → hF[h]? = some f → bs[h]? = some b → (∀ x ∈ r, x ∉ s.ss) → r.Nodup → Cz s.ss r → HA s.rows s.ss r rows' ss' k → (∀ x ∈ r, okSl x) → r.length ≤ 1000 → ∀ S1, pG S S1 → (∀ S', dQ S' bs (hs.set h ⟨rows', ss'⟩) → Q (.bl true) S') →
  (∃ U, Fit U ∧ (∀ x ∈ s.ss, U x) ∧ ∀ x ∈ r, U x) → jN [.ref b, .lst (r.map aJ), .lst (r.map aJ)] S1 Q := fun {h s f b r rows' ss' k} es ef eb h1 h2 h3 ha ok hl S1 hS1 q' ⟨U, F, u1, u2⟩ => by
  have ms := List.mem_of_getElem? es
  obtain ⟨k', bk, _⟩ := Bk.of F r s.ss s.ss u1 u2 (fun x hx => hx) h3
  have sl := w.ssLen ms
  have e : ss' = s.ss ++ r := by rw [(HA.cnt ha).1, zte r s.ss h1 h2]
  have hb1 := hS1 b _ (hB.2.2 h b s eb es)
  refine ⟨b, s.ss, r, k', rfl, hb1, by omega, fun x hx => w.fit.okSl ⟨s, ms, hx⟩, ok, bk, h1, h2, ?_⟩
  have z := q' _ ((hB.ext hS1).set eb ⟨rows', ss'⟩)
  rw [e] at z
  exact z
 have F' : ∀ {h : Nat} {s : HS}, hs[h]? = some s → ∃ f, hF[h]? = some f ∧ (s.rows.map Rw.tag).Sublist (f.rows.map Rw.tag) ∧ (f.rows.map Rw.tag).Nodup := fun {h s} es => by
  have hl : h < hF.length := by rw [sub.1]; exact (List.getElem?_eq_some_iff.mp es).1
  exact ⟨hF[h], List.getElem?_eq_getElem hl, sub.2 h s _ es (List.getElem?_eq_getElem hl), nd _ (List.getElem_mem hl)⟩
 have nzp : ∀ {h : Nat} {s : HS}, hs[h]? = some s → (∀ t ∈ aT s.ss, t ≠ (0, 0)) ∧ ∀ t ∈ bQ s.ss, t ≠ (0, 0) := fun {h s} es => by
  have ms := List.mem_of_getElem? es
  refine ⟨fun t ht => ?_, fun t ht => ?_⟩
  · obtain ⟨b, x, m⟩ := bT.mp ht
    exact (w.fit.put t b x ⟨s, ms, m⟩).2.1
  · obtain ⟨r, hr, e⟩ := (w.hrd s ms).cut t (lC.mp ht)
    rw [← e]; exact (w.hrd s ms).gd.nz r hr
 generalize hSh : hF.map (fun h => Dv.lst (h.rows.map bC)) = SH
 have ixS : ∀ {k : Nat} {f : HS}, hF[k]? = some f → ∀ S : aN, bI S (.lst SH) (.int (k : Int)) = some (.lst (f.rows.map bC)) := fun h S => by rw [← hSh]; exact zacv h S
 have inv := w
 cases st with
 | @write h p z s rows' ss' k es hl hz ha =>
   obtain ⟨f, ef, sb, mU⟩ := F' es
   obtain ⟨b, eb, hb⟩ := hB.at es
   obtain ⟨n1, n2, n3⟩ := zqd (p := p) (z := z) w es
   obtain ⟨z1, z2⟩ := nzp es
   have ms := List.mem_of_getElem? es
   have sl := w.ssLen ms
   obtain ⟨hn, hz12, okz⟩ := dk
   obtain ⟨s2, hs2, es2, _, w2, l2⟩ := w.write (p := p) hn hz12 okz hP
   rw [es] at es2
   cases es2
   simp only [bH, pA]
   simp [gC, cK, pX eb, ixS ef]
   refine ⟨f.rows, b, s, .write h p z, kF h s p z, rfl, hb, by omega, z1, z2, zol (w.hrd s ms) sb mU, zff (w.hrd s ms) (w.tc ms), .inl ⟨h, p, z, rfl, hz, rfl⟩, fun S1 hS1 => ?_⟩
   have okw : ∀ x ∈ kF h s p z, okSl x := fun x hx => by
    have z := w2.onlyp x (List.mem_append_right _ hx)
    cases x with
    | cut t => cases z
    | put t bh y => exact w2.fit.okSl ((w2.puts _ _ _).mpr (List.mem_append_right _ hx))
   refine own es ef eb n1 n2 n3 ha okw (by omega) S1 hS1 q ⟨_, w2.fit, fun x hx => zon w w2 (fun _ => List.mem_append_left _) (fun _ h => h) x ⟨s, ms, hx⟩, fun x hx => ?_⟩
   have z := w2.onlyp x (List.mem_append_right _ hx)
   cases x with
   | cut t => cases z
   | put t bh y => exact (w2.puts _ _ _).mpr (List.mem_append_right _ hx)
 | @rub h p m s rows' ss' k es ha =>
   obtain ⟨f, ef, sb, mU⟩ := F' es
   obtain ⟨b, eb, hb⟩ := hB.at es
   obtain ⟨n1, n2, n3⟩ := zt4 (p := p) (m := m) w es
   obtain ⟨z1, z2⟩ := nzp es
   have ms := List.mem_of_getElem? es
   have sl := w.ssLen ms
   have rl := w.rowsLen ms
   obtain ⟨s2, hs2, es2, _, w2, l2⟩ := w.rub (p := p) (m := m) dk hP
   rw [es] at es2
   cases es2
   have lr : (vU s p m).length ≤ 1000 := by
    show (eQ (mV s.rows p m)).length ≤ _
    unfold eQ mV
    rw [List.length_map, List.length_take, List.length_drop, List.length_map]
    have := pM s.rows
    omega
   simp only [bH, pA]
   simp [gC, cK, pX eb, ixS ef]
   refine ⟨f.rows, b, s, .rub h p m, vU s p m, rfl, hb, by omega, z1, z2, zol (w.hrd s ms) sb mU, zff (w.hrd s ms) (w.tc ms), .inr ⟨h, p, m, rfl, rfl⟩, fun S1 hS1 => ?_⟩
   have cutr : ∀ x ∈ vU s p m, ∃ t ∈ mV s.rows p m, x = .cut t := fun x hx => qV.mp hx
   refine own es ef eb n1 n2 n3 ha (fun x hx => ?_) lr S1 hS1 q ⟨_, w2.fit, fun x hx => zon w w2 (fun _ h => h) (fun _ => List.mem_append_left _) x ⟨s, ms, hx⟩, fun x hx => ?_⟩
   · obtain ⟨t, _, e⟩ := cutr x hx
     rw [e]; trivial
   · obtain ⟨t, ht, e⟩ := cutr x hx
     rw [e]; exact (w2.cuts t).mpr (List.mem_append_right _ ht)
 | @share g t s u rows' ss' k es eu ha =>
   obtain ⟨bg, eg, hg⟩ := hB.at es
   obtain ⟨bt, et, ht⟩ := hB.at eu
   have ms := List.mem_of_getElem? es
   have mu := List.mem_of_getElem? eu
   have sl := w.ssLen ms
   have ul := w.ssLen mu
   obtain ⟨k', bk, lk⟩ := Bk.of w.fit s.ss u.ss [] (fun x hx => ⟨u, mu, hx⟩) (fun x hx => ⟨s, ms, hx⟩) (fun x hx => by cases hx) (w.cz s ms)
   obtain ⟨e1, e2⟩ := HA.cnt ha
   have ek : k' = k := by rw [← e1] at lk; omega
   subst ek
   simp only [bH, pA]
   simp [gC, cK, pX eg, pX et]
   refine ⟨bt, bg, u.ss, s.ss, k', rfl, ht, hg, by omega, fun x hx => w.fit.okSl ⟨u, mu, hx⟩, fun x hx => w.fit.okSl ⟨s, ms, hx⟩, bk, ?_⟩
   have z := q _ (hB.set et ⟨rows', ss'⟩)
   rw [e1] at z
   exact z
 | @past g t wh s u es eu hw =>
   obtain ⟨bg, eg, hg⟩ := hB.at es
   obtain ⟨bt, et, ht⟩ := hB.at eu
   simp only [bH]
   simp [gC, cK, pX eg, pX et]
   exact ⟨bs, _, _, _, g, t, wh, bg, bt, rfl, eg, et, hB, .past es eu hw, ⟨_, w.fit, fun h hh x hx => ⟨h, hh, hx⟩⟩, q⟩
 | @old g t wh s u x es eu ex oh okx hm =>
   obtain ⟨bg, eg, hg⟩ := hB.at es
   obtain ⟨bt, et, ht⟩ := hB.at eu
   simp only [bH]
   simp [gC, cK, pX eg, pX et]
   exact ⟨bs, _, _, _, g, t, wh, bg, bt, rfl, eg, et, hB, .old es eu ex oh okx hm, ⟨_, w.fit, fun h hh x hx => ⟨h, hh, hx⟩⟩, q⟩
 | @new g t wh s u x rows' es eu ex oh okx hm hr oa =>
   obtain ⟨bg, eg, hg⟩ := hB.at es
   obtain ⟨bt, et, ht⟩ := hB.at eu
   simp only [bH]
   simp [gC, cK, pX eg, pX et]
   exact ⟨bs, _, _, _, g, t, wh, bg, bt, rfl, eg, et, hB, .new es eu ex oh okx hm hr oa, ⟨_, w.fit, fun h hh x hx => ⟨h, hh, hx⟩⟩, q⟩
 | @refused g t wh s u x nm es eu ex oh okx hm hr oa =>
   obtain ⟨bg, eg, hg⟩ := hB.at es
   obtain ⟨bt, et, ht⟩ := hB.at eu
   simp only [bH]
   simp [gC, cK, pX eg, pX et]
   exact ⟨bs, _, _, _, g, t, wh, bg, bt, rfl, eg, et, hB, .refused es eu ex oh okx hm hr oa, ⟨_, w.fit, fun h hh x hx => ⟨h, hh, hx⟩⟩, q⟩
noncomputable def zua (x : Dv) : Prop := (∃ i, x = .int i) ∨ ∃ z, x = .str z ∧ PyData.strOk z = true
theorem zm5 {n : Nat} {d : Deed} (h : DOk n d) : ∃ P : List Dv, bH d = .tup P ∧ P.length ≤ 4 ∧ ∀ x ∈ P, zua x := by
 cases d with
 | write a p z =>
   refine ⟨_, rfl, by show 4 ≤ 4; decide, fun x hx => ?_⟩
   simp at hx
   rcases hx with e | e | e | e
   · exact .inr ⟨_, e, kJ⟩
   · exact .inl ⟨_, e⟩
   · exact .inl ⟨_, e⟩
   · exact .inr ⟨_, e, h.2.2⟩
 | rub a p m =>
   refine ⟨_, rfl, by show 4 ≤ 4; decide, fun x hx => ?_⟩
   simp at hx
   rcases hx with e | e | e | e
   · exact .inr ⟨_, e, qY⟩
   · exact .inl ⟨_, e⟩
   · exact .inl ⟨_, e⟩
   · exact .inl ⟨_, e⟩
 | tell g t w =>
   refine ⟨_, rfl, by show 4 ≤ 4; decide, fun x hx => ?_⟩
   simp at hx
   rcases hx with e | e | e | e
   · exact .inr ⟨_, e, pR⟩
   · exact .inl ⟨_, e⟩
   · exact .inl ⟨_, e⟩
   · exact .inl ⟨_, e⟩
 | share g t =>
   refine ⟨_, rfl, by show 3 ≤ 4; decide, fun x hx => ?_⟩
   simp at hx
   rcases hx with e | e | e
   · exact .inr ⟨_, e, tZ⟩
   · exact .inl ⟨_, e⟩
   · exact .inl ⟨_, e⟩
theorem zam {D : Dn} {S : aN} {DD : List Dv} {k : Nat} {P : List Dv} (ix : ∀ S : aN, bI S (.lst DD) (.int (k : Int)) = some (.tup P)) (ok : ∀ x ∈ P, zua x) (fin : ∀ y3 y4, D.nx [some (.lst DD), some (.lst DD), some (.int k), y3, y4] S) :
 ∀ (m j : Nat) (x3 x4 : Option Dv), m + j = P.length → gK 3 eJ D m (j : Int) [some (.lst DD), some (.lst DD), some (.int k), x3, x4] S
 | 0, j, x3, x4, _ => fin x3 x4
 | m + 1, j, x3, x4, hm => by
   have hj : j < P.length := by omega
   have g : P[j]? = some P[j] := List.getElem?_eq_getElem hj
   have step : gK 3 eJ D m ((j : Int) + 1) [some (.lst DD), some (.lst DD), some (.int k), some (.int j), some P[j]] S := zam ix ok fin m (j + 1) (some (.int j)) (some P[j]) (by omega)
   have okx := ok P[j] (List.getElem_mem hj)
   show eJ { D with nx := gK 3 eJ D m ((j : Int) + 1), ct := gK 3 eJ D m ((j : Int) + 1), bk := D.nx } [some (.lst DD), some (.lst DD), some (.int k), some (.int j), x4] S
   generalize gK 3 eJ D m ((j : Int) + 1) = N at step ⊢
   have ixp : ∀ S : aN, bI S (.tup P) (.int (j : Int)) = some P[j] := fun S => rX (by omega) (by rw [Int.toNat_natCast]; exact g)
   generalize P[j] = x at step okx ixp
   rcases okx with ⟨i, rfl⟩ | ⟨z, rfl, okz⟩
   · have ei : ∀ S : aN, isI S "str" (.int i) = some (.bl false) := fun _ => rfl
     simp [rM, ix, ixp, ei]
     exact step
   · have en : ∀ S : aN, pH S (.str z) (.str z) = some false := fun S => by rw [zgd okz okz]; simp
     simp [rM, ix, ixp, en]
     exact step
theorem zan {D : Dn} {S : aN} {n : Nat} {deeds : List Deed} (dok : ∀ d ∈ deeds, DOk n d) (fin : ∀ y2 y3 y4, D.nx [some (.lst (deeds.map bH)), some (.lst (deeds.map bH)), y2, y3, y4] S) :
 ∀ (m k : Nat) (x2 x3 x4 : Option Dv), m + k = deeds.length → gK 2 eK D m (k : Int) [some (.lst (deeds.map bH)), some (.lst (deeds.map bH)), x2, x3, x4] S
 | 0, k, x2, x3, x4, _ => fin x2 x3 x4
 | m + 1, k, x2, x3, x4, hm => by
   have hk : k < deeds.length := by omega
   have step : ∀ y3 y4, gK 2 eK D m ((k : Int) + 1) [some (.lst (deeds.map bH)), some (.lst (deeds.map bH)), some (.int k), y3, y4] S := fun y3 y4 => zan dok fin m (k + 1) (some (.int k)) y3 y4 (by omega)
   obtain ⟨P, e, hl, okp⟩ := zm5 (dok _ (List.getElem_mem hk))
   have ix : ∀ S : aN, bI S (.lst (deeds.map bH)) (.int (k : Int)) = some (.tup P) := fun S => eP (by omega) (by rw [Int.toNat_natCast, List.getElem?_map, List.getElem?_eq_getElem hk]; exact congrArg some e)
   show eK { D with nx := gK 2 eK D m ((k : Int) + 1), ct := gK 2 eK D m ((k : Int) + 1), bk := D.nx } [some (.lst (deeds.map bH)), some (.lst (deeds.map bH)), some (.int k), x3, x4] S
   generalize gK 2 eK D m ((k : Int) + 1) = N at step ⊢
   generalize deeds.map bH = DD at step ix ⊢
   have kt := zam (D := { nx := N, rt := D.rt, bk := D.nx, ct := N }) (S := S) ix okp step P.length 0 x3 x4 (by omega)
   simp [za8, ix]
   exact ⟨by omega, kt⟩
theorem zkr : ∀ ds S Q, lM ds S Q → wF { nx := fun _ S' => Q .non S', rt := Q } (cK 5 ds) S := by
 rintro _ S Q ⟨n, deeds, rfl, dok, hl, q⟩
 have kt := zan (D := { nx := bA (wC (.bl true)) { nx := fun _ S' => Q .non S', rt := Q }, rt := Q }) (S := S) dok (fun y2 y3 y4 => q) deeds.length 0 none none none (by omega)
 have el : (deeds.map bH).length = deeds.length := List.length_map _
 generalize deeds.map bH = DD at kt el ⊢
 simp [zhj, cK, el]
 exact ⟨by omega, kt⟩
theorem zao {D : Dn} {S : aN} {rows : List Rw} {cuts : List cV} {x1 x2 x4 : Option Dv} (ok : okS rows) (nd : rows.Nodup) (fin : ∀ y, D.nx [some (.lst (rows.map bC)), x1, x2, some (.lst (cuts.map cC)), x4, y] S) : ∀ (puts : List Slip) (x5 : Option Dv),
 (∀ s ∈ puts, ∃ t b x, s = .put t b x ∧ PyData.strOk x = true ∧ (⟨t.1, t.2, b.1, b.2, x, decide (t ∈ cuts)⟩ : Rw) ∈ rows) → dL 5 cO D (puts.map aJ) [some (.lst (rows.map bC)), x1, x2, some (.lst (cuts.map cC)), x4, x5] S
 | [], x5, _ => fin x5
 | s :: ss, x5, h => by
   have step := zao (x1 := x1) (x2 := x2) (x4 := x4) ok nd fin ss (some (aJ s)) (fun q hq => h q (List.mem_cons_of_mem _ hq))
   obtain ⟨t, b, x, rfl, okx, mem⟩ := h s List.mem_cons_self
   show cO { D with nx := dL 5 cO D (ss.map aJ), ct := dL 5 cO D (ss.map aJ), bk := D.nx } [some (.lst (rows.map bC)), x1, x2, some (.lst (cuts.map cC)), x4, some (aJ (.put t b x))] S
   generalize dL 5 cO D (ss.map aJ) = N at step ⊢
   have c1 := zs0 nd mem
   have p1 := zr9 ok
   have p2 := zwm (r := ⟨t.1, t.2, b.1, b.2, x, decide (t ∈ cuts)⟩) okx
   rw [iI] at c1 p2
   have ein : ∀ S : aN, oIn S (.tup [.int t.1, .int t.2]) (.lst (cuts.map cC)) = some (decide (t ∈ cuts)) := fun S => zs2
   simp only [aJ] at step ⊢
   simp [rA, ein, p1, p2, c1]
   exact step
theorem wO : ∀ ds S Q, dO ds S Q → kD { nx := fun _ S' => Q .non S', rt := Q } (cK 6 ds) S := by
 rintro _ S Q ⟨rows, ss, rfl, hl, ok, h1, oks, g, hlen, hall, q⟩
 have okt : PyData.strOk (txt rows) = true := zsv zjb fun x hx => by
  obtain ⟨r, hr, e⟩ := List.mem_map.mp hx
  rw [← e]; exact ok r (kI hr)
 simp only [uP, rH, rG, cK]
 simp
 refine zce ss [] ?_
 simp
 refine zcf ss [] ?_
 have hl2 : (rows.length : Int) = ((ss.filter fN).length : Int) := by rw [hlen]
 rw [List.nil_append]
 have lf : ((ss.filter fN).map aJ).length = (ss.filter fN).length := List.length_map _
 have rt := fun (S1 : aN) (hS1 : pG S S1) => zao (D := { nx := gS { nx := fun _ S' => Q .non S', rt := Q }, rt := Q }) (S := S1) (rows := rows) (cuts := bQ ss) (x1 := some (.str (txt rows))) (x2 := some (.lst (ss.map aJ))) (x4 := some (.lst ((ss.filter fN).map aJ))) ok g.ndr (fun y => by
  have eq1 : ∀ S : aN, iL S (.str (txt rows)) (.str (txt rows)) = some true := fun S => by rw [eV okt okt]; simp
  generalize (ss.filter fN).map aJ = PP
  generalize ss.map aJ = SS
  simp [rB]
  refine uA rows [] ?_
  have hs := zcb (rows := there rows) (fun r hr => h1 r (kI hr))
  have hle := pM rows
  simp
  refine ⟨(there rows).map Rw.sg, by rw [List.map_map]; rfl, ?_, ?_⟩
  · rw [hs, tS]; omega
  · rw [zbm]
    have e : tx "" ((there rows).map Rw.sg) = txt rows := rfl
    rw [e, eq1]
    simp
    exact q S1 hS1) (ss.filter fN) none fun s hs => by
    obtain ⟨m1, m2⟩ := List.mem_filter.mp hs
    cases s with
    | cut t => cases m2
    | put t b x => exact ⟨t, b, x, rfl, oks _ m1, hall t b x m1⟩
 have en : (rows.map bC).length = ((ss.filter fN).map aJ).length := by rw [List.length_map, lf, hlen]
 generalize hPP : (ss.filter fN).map aJ = PP at lf rt en ⊢
 generalize hSS : ss.map aJ = SS at rt ⊢
 simp [rF, ← en]
 refine ⟨rows, rfl, hl, g.wk, fun S1 hS1 => ?_⟩
 simp [rE]
 exact rt S1 hS1
theorem zxc (x : Int) : ∃ n : Nat, 0 < n ∧ n ≤ 9 ∧ ∀ S : aN, bI S (.lst [.int 1, .int 2, .int 3, .int 4, .int 2, .int 3, .int 4, .int 9]) (.int (x % 8)) = some (.int (n : Int)) := by
 have h : x % 8 = 0 ∨ x % 8 = 1 ∨ x % 8 = 2 ∨ x % 8 = 3 ∨ x % 8 = 4 ∨ x % 8 = 5 ∨ x % 8 = 6 ∨ x % 8 = 7 := by omega
 rcases h with h | h | h | h | h | h | h | h <;> rw [h]
 · exact ⟨1, by decide, by decide, fun S => eP (by decide) rfl⟩
 · exact ⟨2, by decide, by decide, fun S => eP (by decide) rfl⟩
 · exact ⟨3, by decide, by decide, fun S => eP (by decide) rfl⟩
 · exact ⟨4, by decide, by decide, fun S => eP (by decide) rfl⟩
 · exact ⟨2, by decide, by decide, fun S => eP (by decide) rfl⟩
 · exact ⟨3, by decide, by decide, fun S => eP (by decide) rfl⟩
 · exact ⟨4, by decide, by decide, fun S => eP (by decide) rfl⟩
 · exact ⟨9, by decide, by decide, fun S => eP (by decide) rfl⟩
theorem dQ.free {S : aN} {bs : List Addr} {hs : List HS} (h : dQ S bs hs) {p : Addr} (hp : S p = none) : p ∉ bs := fun m => by
 obtain ⟨k, hk⟩ := List.mem_iff_getElem?.mp m
 have kl : k < hs.length := by rw [← h.2.1]; exact (List.getElem?_eq_some_iff.mp hk).1
 have z := h.2.2 k p _ hk (List.getElem?_eq_getElem kl)
 rw [hp] at z
 cases z
theorem zfo {Q : List Dv → aN → Prop} : ∀ (m k : Nat) (bs : List Addr) (S : aN), dQ S bs (hs0 k) → (∀ bs S', dQ S' bs (hs0 (k + m)) → Q (bs.map .ref) S') →
 cmpL (yE [] rW) (wS [] (wZ aO)) ((List.range' k m).map fun (i : Nat) => Dv.int (0 + (i : Int))) S (bs.map .ref) Q
 | 0, k, bs, S, h, q => q bs S h
 | m + 1, k, bs, S, h, q => by
   have lp : bs.length = k := by rw [h.2.1]; exact List.length_replicate
   rw [List.range'_succ, List.map_cons]
   simp [cmpL]
   intro p hp
   have hp' := h.free hp
   have h' : dQ (cB S p (.lst [])) (bs ++ [p]) (hs0 (k + 1)) := by
    refine ⟨?_, by rw [List.length_append, lp]; exact List.length_replicate.symm, fun j q y hq hy => ?_⟩
    · rw [List.nodup_append]
      exact ⟨h.1, List.nodup_cons.mpr ⟨List.not_mem_nil, List.nodup_nil⟩, fun a ha b hb e => hp' (by rw [← List.mem_singleton.mp hb, ← e]; exact ha)⟩
    · have ey : y = ⟨[], []⟩ := (List.mem_replicate.mp (List.mem_of_getElem? hy)).2
      by_cases hj : j < bs.length
      · rw [List.getElem?_append_left hj] at hq
        rw [gU (fun z => hp' (by rw [← z]; exact List.mem_of_getElem? hq))]
        exact h.2.2 j q y hq (by
         rw [ey]
         unfold hs0
         rw [List.getElem?_replicate, if_pos (by omega)])
      · rw [List.getElem?_append_right (by omega)] at hq
        have ej : j = bs.length := by
         have := (List.getElem?_eq_some_iff.mp hq).1
         rw [List.length_singleton] at this; omega
        rw [ej, Nat.sub_self] at hq
        have eq : q = p := (Option.some.inj hq).symm
        rw [eq, cF, ey]; rfl
   have z := zfo (Q := Q) m (k + 1) (bs ++ [p]) _ h' (fun bs' S' hh => q bs' S' (by rw [show k + (m + 1) = k + 1 + m by omega]; exact hh))
   rw [List.map_append] at z
   simpa using z
theorem xW {D : Dn} {S : aN} {x0 x1 x2 x3 x4 x5 x6 x7 x9 x10 : Option Dv} (fin : ∀ y, D.nx [x0, x1, x2, x3, x4, x5, x6, x7, y, x9, x10] S) : ∀ (hF : List HS) (x8 : Option Dv), dL 8 nY D (hF.map fun h => .lst (h.rows.map bC)) [x0, x1, x2, x3, x4, x5, x6, x7, x8, x9, x10] S
 | [], x8 => fin x8
 | h :: hF, x8 => by
   have step := xW fin hF (some (.lst (h.rows.map bC)))
   show nY { D with nx := dL 8 nY D (hF.map fun h => .lst (h.rows.map bC)), ct := dL 8 nY D (hF.map fun h => .lst (h.rows.map bC)), bk := D.nx } [x0, x1, x2, x3, x4, x5, x6, x7, some (.lst (h.rows.map bC)), x9, x10] S
   generalize dL 8 nY D (hF.map fun h => .lst (h.rows.map bC)) = N at step ⊢
   simp [zmr]
   exact step
theorem zks {D : Dn} {n : Nat} {bs : List Addr} {hF : List HS} {x0 x1 x3 x5 x7 x8 : Option Dv} {DD AA SH : List Dv} (eS : SH = hF.map fun h => .lst (h.rows.map bC)) (ndF : ∀ h ∈ hF, (h.rows.map Rw.tag).Nodup) {hs : List HS} {ds : List Deed} {as : List Ans} (rn : Rn n hs ds hF as) :
 ∀ (k : Nat) (S : aN) (x10 : Option Dv), DD.drop k = ds.map bH → AA.drop k = as.map pA → dQ S bs hs → (∀ S' y, dQ S' bs hF → D.nx [x0, x1, some (.lst DD), x3, some (.lst AA), x5, some (.lst SH), x7, x8, some (.lst (bs.map .ref)), y] S') →
   gK 10 lZ D ds.length (k : Int) [x0, x1, some (.lst DD), x3, some (.lst AA), x5, some (.lst SH), x7, x8, some (.lst (bs.map .ref)), x10] S := by
 induction rn with
 | nil => intro k S x10 _ _ hB fin; exact fin S x10 hB
 | @cons hs h1 h2 d ds a as Pm Cm w hP dk st rn ih =>
   intro k S x10 hd ha hB fin
   have sub : pS hs h2 := (Stp.subs st).trans (Rn.subs rn)
   have g1 : DD[k]? = some (bH d) := by
    have e : (DD.drop k)[0]? = some (bH d) := by rw [hd]; rfl
    rwa [List.getElem?_drop, Nat.add_zero] at e
   have g2 : AA[k]? = some (pA a) := by
    have e : (AA.drop k)[0]? = some (pA a) := by rw [ha]; rfl
    rwa [List.getElem?_drop, Nat.add_zero] at e
   have d1 : DD.drop (k + 1) = ds.map bH := by rw [← List.drop_drop, hd]; rfl
   have d2 : AA.drop (k + 1) = as.map pA := by rw [← List.drop_drop, ha]; rfl
   have step : ∀ S', dQ S' bs h1 → gK 10 lZ D ds.length ((k : Int) + 1) [x0, x1, some (.lst DD), x3, some (.lst AA), x5, some (.lst SH), x7, x8, some (.lst (bs.map .ref)), some (.int k)] S' := fun S' hB' => ih eS ndF (k + 1) S' (some (.int k)) d1 d2 hB' fin
   rw [List.length_cons]
   show lZ { D with nx := gK 10 lZ D ds.length ((k : Int) + 1), ct := gK 10 lZ D ds.length ((k : Int) + 1), bk := D.nx } [x0, x1, some (.lst DD), x3, some (.lst AA), x5, some (.lst SH), x7, x8, some (.lst (bs.map .ref)), some (.int k)] S
   generalize gK 10 lZ D ds.length ((k : Int) + 1) = N at step ⊢
   have ix1 : ∀ S : aN, bI S (.lst DD) (.int (k : Int)) = some (bH d) := fun S => eP (by omega) (by rw [Int.toNat_natCast]; exact g1)
   have ix2 : ∀ S : aN, bI S (.lst AA) (.int (k : Int)) = some (pA a) := fun S => eP (by omega) (by rw [Int.toNat_natCast]; exact g2)
   simp [zms, ix1, ix2]
   refine ⟨n, bs, hs, h1, h2, Pm, Cm, d, a, by rw [eS], hB, w, hP, dk, st, sub, ndF, fun S' hB' => ?_⟩
   simp
   exact step S' hB'
theorem zub {S : aN} {p : Addr} {ss : List Slip} (hp : S p = some (.lst (ss.map aJ))) (h : ∀ s ∈ ss, okSl s) : pH S (.lst (ss.map aJ)) (.ref p) = some false := by
 have e : vK S (.ref p) = .lst (ss.map aJ) := by simp only [vK, hp]
 have p1 := zF h
 have z := zsb (S := S) (d := .lst (ss.map aJ)) rfl p1
 unfold pH at z ⊢
 rw [e]
 exact z
structure EndOk (h : HS) : Prop where
 len : h.rows.length ≤ 1000
 ok : okS h.rows
 one : one1 h.rows
 oks : ∀ s ∈ h.ss, okSl s
 gd : Gd h.rows
 num : h.rows.length = (h.ss.filter fN).length
 row : ∀ t b x, Slip.put t b x ∈ h.ss → (⟨t.1, t.2, b.1, b.2, x, decide (t ∈ bQ h.ss)⟩ : Rw) ∈ h.rows
theorem zm6 {U : Slip → Prop} (F : Fit U) : ∀ {ss : List Slip}, ss.Nodup → (∀ s ∈ ss, U s) → (aT ss).Nodup
 | [], _, _ => List.nodup_nil
 | .cut t :: ss, nd, hU => zm6 F (ss := ss) (List.nodup_cons.mp nd).2 fun s hs => hU s (List.mem_cons_of_mem _ hs)
 | .put t b x :: ss, nd, hU => by
   obtain ⟨n1, n2⟩ := List.nodup_cons.mp nd
   show (t :: aT ss).Nodup
   refine List.nodup_cons.mpr ⟨fun m => ?_, zm6 F n2 fun s hs => hU s (List.mem_cons_of_mem _ hs)⟩
   obtain ⟨b', x', m⟩ := bT.mp m
   obtain ⟨e1, e2⟩ := F.one _ _ _ _ _ (hU _ List.mem_cons_self) (hU _ (List.mem_cons_of_mem _ m))
   rw [e1, e2] at n1
   exact n1 m
theorem WI.endOk {n : Nat} {hs : List HS} {Pm : List Slip} {Cm : List cV} (w : WI n hs Pm Cm) (hP : Pm.length ≤ 1000) {h : HS} (hh : h ∈ hs) : EndOk h := by
 have H := w.hrd h hh
 have rl := w.rowsLen hh
 refine ⟨by omega, H.ok, w.one1 hh, fun s hs => w.fit.okSl ⟨h, hh, hs⟩, H.gd, ?_, fun t b x m => ?_⟩
 · rw [zcg]
   have nd := zm6 w.fit (w.nd h hh) fun s hs => ⟨h, hh, hs⟩
   have z1 := tW (l := h.rows.map Rw.tag) (m := aT h.ss) H.gd.nd fun t ht => by
    obtain ⟨r, hr, e⟩ := List.mem_map.mp ht
    exact H.tags.mp ⟨r, hr, e⟩
   have z2 := tW (l := aT h.ss) (m := h.rows.map Rw.tag) nd fun t ht => by
    obtain ⟨r, hr, e⟩ := H.tags.mpr ht
    rw [← e]; exact List.mem_map_of_mem hr
   rw [List.length_map] at z1 z2
   omega
 · have z := H.rowOf w.fit m
   have e : decide (Slip.cut t ∈ h.ss) = decide (t ∈ bQ h.ss) := by
    rw [Bool.eq_iff_iff]
    simp only [decide_eq_true_eq]
    exact lC.symm
   rw [e] at z
   exact z
noncomputable def zm7 (S : aN) (d : Dv) (Q : QE) (_ : Kp Q := ⟨⟩) (_ : True := trivial) : Prop := match d with
 | .ref a => match S a with
   | some (.lst ds) => Q (.lst ds) (zaz S a)
   | _ => False
 | _ => False
@[simp ↓] theorem zady {w : WE} {ρ : Ev} {S : aN} {Q : QE} : zy1 w ρ S Q = w ρ S (fun d S1 => zm7 S1 d Q) := id rfl
theorem zuc {S : aN} {a : Addr} {ds : List Dv} {Q : QE} (h : S a = some (.lst ds)) : zm7 S (.ref a) Q = Q (.lst ds) (zaz S a) := by
 simp only [zm7, h]
theorem zda {D : Dn} {bs : List Addr} {hF : List HS} {x0 x1 x2 x3 x4 x8 : Option Dv} {FO SH LI : List Dv} (eF : FO = hF.map fun h => .lst (h.ss.map aJ)) (eS : SH = hF.map fun h => .lst (h.rows.map bC)) (eL : LI = hF.map fun h => .str (txt h.rows)) (ok : ∀ h ∈ hF, EndOk h) (ndb : bs.Nodup) (lb : bs.length = hF.length)
 (fin : ∀ S y, D.nx [x0, x1, x2, x3, x4, some (.lst FO), some (.lst SH), some (.lst LI), x8, some (.lst (bs.map .ref)), y] S) :
 ∀ (m k : Nat) (S : aN) (x10 : Option Dv), m + k = hF.length → (∀ (j : Nat) b h, k ≤ j → bs[j]? = some b → hF[j]? = some h → S b = some (.lst (h.ss.map aJ))) →
   gK 10 mB D m (k : Int) [x0, x1, x2, x3, x4, some (.lst FO), some (.lst SH), some (.lst LI), x8, some (.lst (bs.map .ref)), x10] S
 | 0, k, S, x10, _, _ => fin S x10
 | m + 1, k, S, x10, hm, hB => by
   have hk : k < hF.length := by omega
   have hkb : k < bs.length := by omega
   have eh : hF[k]? = some hF[k] := List.getElem?_eq_getElem hk
   have eb : bs[k]? = some bs[k] := List.getElem?_eq_getElem hkb
   have E := ok _ (List.getElem_mem hk)
   generalize hF[k] = h at eh E
   generalize bs[k] = b at eb
   have hb := hB k b h (Nat.le_refl k) eb eh
   have step : ∀ S', pG (zaz S b) S' → gK 10 mB D m ((k : Int) + 1) [x0, x1, x2, x3, x4, some (.lst FO), some (.lst SH), some (.lst LI), x8, some (.lst (bs.map .ref)), some (.int k)] S' := fun S' hS' => zda eF eS eL ok ndb lb fin m (k + 1) S' (some (.int k)) (by omega) fun j b' h' hj h1 h2 => by
    have ne : b' ≠ b := fun z => by
     have : k = j := (List.getElem?_inj hkb ndb).mp (by rw [eb, h1, z])
     omega
    refine hS' b' _ ?_
    unfold zaz
    rw [if_neg ne]
    exact hB j b' h' (by omega) h1 h2
   show mB { D with nx := gK 10 mB D m ((k : Int) + 1), ct := gK 10 mB D m ((k : Int) + 1), bk := D.nx } [x0, x1, x2, x3, x4, some (.lst FO), some (.lst SH), some (.lst LI), x8, some (.lst (bs.map .ref)), some (.int k)] S
   generalize gK 10 mB D m ((k : Int) + 1) = N at step ⊢
   have ixF : ∀ S : aN, bI S (.lst FO) (.int (k : Int)) = some (.lst (h.ss.map aJ)) := fun S => eP (by omega) (by rw [Int.toNat_natCast, eF, List.getElem?_map, eh]; rfl)
   have ixS : ∀ S : aN, bI S (.lst SH) (.int (k : Int)) = some (.lst (h.rows.map bC)) := fun S => eP (by omega) (by rw [Int.toNat_natCast, eS, List.getElem?_map, eh]; rfl)
   have ixL : ∀ S : aN, bI S (.lst LI) (.int (k : Int)) = some (.str (txt h.rows)) := fun S => eP (by omega) (by rw [Int.toNat_natCast, eL, List.getElem?_map, eh]; rfl)
   have ixB := pX eb
   have en := zub hb E.oks
   have call : ∀ S' (Q : QE), (∀ S'', pG S' S'' → Q (.bl true) S'') → dO [.lst (h.rows.map bC), .str (txt h.rows), .lst (h.ss.map aJ)] S' Q := fun S' Q q => ⟨h.rows, h.ss, rfl, E.len, E.ok, E.one, E.oks, E.gd, E.num, E.row, q⟩
   generalize bs.map Dv.ref = BB at step ixB ⊢
   simp [zmt, ixF, ixB]
   refine ⟨h.ss, rfl, ?_⟩
   simp [ixF, ixB, en, ixS, ixL, zuc hb]
   refine call _ _ fun S'' hS'' => ?_
   simp
   exact step S'' hS''
theorem zz1 : ∀ ds S Q, zb8 ds S Q → zt6 { nx := fun _ S' => Q .non S', rt := Q } (cK 11 ds) S := by
 rintro _ S Q ⟨ns, rfl, hl, q⟩
 obtain ⟨n, hn, hn9, ixm⟩ := zxc (cell ns 0 * 48271 % 1049)
 obtain ⟨ms, ec, lm⟩ := zsf ns (some 1) (some (1 + 30))
 simp [zxb, cK, ixm]
 simp [zm2]
 refine ⟨ns, 30, 50, rfl, hl, ?_⟩
 simp only [znq, zv6, zb1]
 refine ⟨ms, n, by rw [ec], hn, by omega, by omega, fun drawn ld dok => ?_⟩
 obtain ⟨hF, as, Pm, Cm, rn, w2, lP⟩ := Rn.of (WI.start n) dok (by show 0 + 12 * drawn.length ≤ 1000; omega)
 have la := rn.run.len
 have endok : ∀ h ∈ hF, EndOk h := fun h hh => WI.endOk w2 lP hh
 have ndF : ∀ h ∈ hF, (h.rows.map Rw.tag).Nodup := fun h hh => (w2.hrd h hh).gd.nd
 have lh := w2.len
 have ldr : drawn.length ≤ 100 := by omega
 clear lm ec ld
 generalize eD : drawn.map bH = DD
 have lDD : DD.length = drawn.length := by rw [← eD, List.length_map]
 simp [zm1]
 simp [zm0]
 refine ⟨n, drawn, hF, as, by rw [eD], by omega, by omega, rn.run, fun S1 => ?_⟩
 generalize eA : as.map pA = AA
 have lAA : AA.length = drawn.length := by rw [← eA, List.length_map, la]
 simp [zmz]
 refine ⟨n, drawn, hF, as, by rw [eD], by omega, rn.run, fun S2 => ?_⟩
 generalize eF : (hF.map fun h => Dv.lst (h.ss.map aJ)) = FO
 have lFO : FO.length = n := by rw [← eF, List.length_map, lh]
 simp [zmy]
 refine ⟨n, drawn, by rw [eD], dok, by omega, ?_⟩
 simp [zmx, zmw, lDD, lAA, lFO]
 simp [zmv]
 refine ⟨n, drawn, hF, as, by rw [eD], by omega, rn.run, fun S3 => ?_⟩
 generalize eS : (hF.map fun h => Dv.lst (h.rows.map bC)) = SH
 have lSH : SH.length = n := by rw [← eS, List.length_map, lh]
 simp [zmu]
 refine ⟨n, drawn, hF, as, by rw [eD], by omega, rn.run, fun h hh => ⟨(endok h hh).len, (endok h hh).one⟩, fun S4 => ?_⟩
 generalize eL : (hF.map fun h => Dv.str (txt h.rows)) = LI
 have lLI : LI.length = n := by rw [← eL, List.length_map, lh]
 simp [zka, zj9, lSH, lLI]
 simp [zj8]
 rw [← eS]
 refine xW (fun y => ?_) hF none
 rw [eS]
 simp [zj7]
 refine ⟨by omega, by omega, ?_⟩
 have er : zd2 0 n = (List.range' 0 n).map fun (i : Nat) => Dv.int (0 + (i : Int)) := by unfold zd2; rw [List.range_eq_range']
 rw [er]
 refine zfo n 0 [] S4 ⟨List.nodup_nil, rfl, fun _ _ _ h => by cases h⟩ (fun bs S5 hB => ?_)
 rw [Nat.zero_add] at hB
 simp [zj6, lDD]
 refine ⟨by omega, zks eS.symm ndF rn 0 S5 none (by rw [List.drop_zero, eD]) (by rw [List.drop_zero, eA]) hB fun S6 y6 hB6 => ?_⟩
 simp [zj5]
 refine ⟨by omega, zda eF.symm eS.symm eL.symm endok hB6.1 hB6.2.1 (fun S7 y7 => ?_) n 0 S6 y6 (by omega) fun j b h _ h1 h2 => hB6.2.2 j b h h1 h2⟩
 simp [zj4]
 exact q _
noncomputable def top (i : Nat) : Stmt := PySem.Challenge.pw_manyquills_k13_cause_ahead.main.body.getD i (.Pass ⟨0, 0, 0, 0⟩)
noncomputable abbrev jO : Stmt := top 41
noncomputable abbrev dX : Stmt := top 42
noncomputable abbrev jP : Stmt := wV (top 23) 0
noncomputable abbrev uC : Stmt := top 25
noncomputable abbrev eZ : Stmt := top 10
noncomputable abbrev jC : Stmt := top 11
noncomputable abbrev jD : Stmt := top 15
noncomputable abbrev eU : Stmt := top 12
noncomputable abbrev uD : Stmt := top 7
noncomputable abbrev hV : Stmt := top 13
noncomputable abbrev jE : Stmt := top 14
noncomputable abbrev rJ : Stmt := top 16
noncomputable abbrev gT : Stmt := wV (top 23) 1
noncomputable abbrev fA : Stmt := wV (top 23) 2
noncomputable abbrev kL : Stmt := top 19
noncomputable abbrev hW : Stmt := top 20
noncomputable abbrev uE : Stmt := top 8
noncomputable abbrev nD : Stmt := top 21
noncomputable abbrev hX : Stmt := wV (top 23) 3
noncomputable abbrev pY : Stmt := top 22
noncomputable abbrev kM : Stmt := wV (top 23) 4
noncomputable abbrev zU : Stmt := top 26
noncomputable abbrev zV : Stmt := top 27
noncomputable abbrev uF : Stmt := top 28
noncomputable abbrev gE : Stmt := top 29
noncomputable abbrev zW : Stmt := top 30
noncomputable abbrev zX : Stmt := top 31
noncomputable abbrev uG : Stmt := top 17
noncomputable abbrev uH : Stmt := top 32
noncomputable abbrev jQ : Stmt := top 35
noncomputable abbrev kN : Stmt := top 50
noncomputable abbrev hZ : Stmt := top 37
noncomputable abbrev fU : Stmt := top 38
noncomputable abbrev jR : Stmt := top 43
noncomputable abbrev iA : Stmt := top 48
noncomputable abbrev gF : Stmt := top 39
noncomputable abbrev fB : Stmt := top 40
noncomputable abbrev pZ : Stmt := top 34
noncomputable abbrev kO : Stmt := top 46
noncomputable abbrev fV : Stmt := top 47
noncomputable abbrev kP : Stmt := top 44
noncomputable abbrev fE : Stmt := top 45
noncomputable abbrev kQ : Stmt := top 49
noncomputable abbrev jS : Stmt := top 51
noncomputable abbrev kR : Stmt := top 52
noncomputable abbrev dY : Stmt := top 53
noncomputable abbrev qA : Stmt := top 36
noncomputable abbrev kS : Stmt := top 54
noncomputable abbrev xX : Stmt := top 55
structure Txt (K : W.Frag) (mg : Str → Option Value) : Prop where
 b_bool : mg "bool" = none
 b_dict : mg "dict" = none
 b_enumerate : mg "enumerate" = none
 b_int : mg "int" = none
 b_isinstance : mg "isinstance" = none
 b_len : mg "len" = none
 b_list : mg "list" = none
 b_max : mg "max" = none
 b_min : mg "min" = none
 b_range : mg "range" = none
 b_str : mg "str" = none
 b_tuple : mg "tuple" = none
 e_BEGINNING : ∃ a, mg "BEGINNING" = some (.ref a) ∧ ∀ H, gN K H dS (.ref a)
structure Exc (K : W.Frag) (mg : Str → Option Value) : Prop where
 o_NotYet : ∃ C, OwnX K mg "NotYet" C
 o_Clash : ∃ C, OwnX K mg "Clash" C
 o_Backwards : ∃ C, OwnX K mg "Backwards" C
 c_QuillError : Catch K mg "QuillError" pB
section
variable {P : Program} {w : World} {K : W.Frag} {mg : Str → Option Value} {base : Heap} {C0 : Addr}
theorem xY : FnScope ["_law_some"] [] (aK jO) := mR
theorem zhs (T : Txt K mg)  : mW P w K mg base 0 ["_law_some"] "_law_marks" jO sC := by
 intro _ _ _ _ _ _ _ hr
 have nd := xY.nd
 exact (aG (bB (i := 0) nd cL)
 (aH (aM (aZ dU (aA 0) cL))))
theorem nZ : FnScope ["_law_cells", "_law_many", "_law_deeds", "_law_k", "_law_cell", "_law_mine", "_law_taker", "_law_place", "_law_gone", "_law_size", "_law_signs"] ["_law_cells", "_law_many"] (aK dX) := mR
theorem wP (T : Txt K mg) (G_law_marks : Has P w K mg base 1 "_law_marks" [] fH) : mW P w K mg base 1 ["_law_cells", "_law_many", "_law_deeds", "_law_k", "_law_cell", "_law_mine", "_law_taker", "_law_place", "_law_gone", "_law_size", "_law_signs"] "_law_drawn_deeds" dX kC := by
 intro _ _ _ _ _ _ _ hr
 have nd := nZ.nd
 exact (aG (bB (i := 2) nd (tN aI))
 (aG (zbi 2 (pI (i := 3) PassesOwn.never nd T.b_range (aB (bJ eG T.b_len boot_len (aB (aA 0) aI)) aI)
 (aG (bB (i := 4) nd (aL aW (aA 0) (aA 3)))
 (aG (bB (i := 5) nd (aZ dU (aZ eX (aZ eX (aZ mM (aZ dU (aA 4) (aA 3)) aF) aF) (aA 1)) aF))
 (aG (bB (i := 6) nd (aZ dU (aZ eX (aZ eX (aZ mM (aZ dU (aZ dU (aZ dU (aA 4) (aA 3)) aF) (aZ zxt (aA 3) aF)) aF) aF) (aA 1)) aF))
 (aG (bB (i := 7) nd (aZ eX (aZ eX (aZ mM (aZ dU (aA 4) (aA 3)) aF) aF) aF))
 (aG (bB (i := 8) nd (aZ eX (aZ eX (aZ mM (aZ dU (aA 4) aF) aF) aF) aF))
 (aG (bG (aV (gH hr.units) (aZ eX (aZ eX (aZ mM (aA 4) aF) aF) aF) aF)
 (aG (bB (i := 7) nd (aZ eX (aZ eX (aZ mM (aA 4) aF) aF) aF))
 (aH (bB (i := 8) nd (aZ eX (aZ eX (aZ mM (aA 4) aF) aF) aF))))
 aP)
 (aH (bG (aV zrv (aZ eX (aZ eX (aZ mM (aA 4) aF) aF) aF) aF)
 (aG (bB (i := 9) nd (aZ eX (aZ eX (aZ mM (aZ dU (aZ dU (aA 4) (aZ zxt (aA 3) aF)) aF) aF) aF) aF))
 (aG (bB (i := 10) nd (zpq cL (gW (aZ eX (aA 3) aF)) (gW (aZ dU (aZ eX (aA 3) aF) (aA 9)))))
 (aG (bG (aV (gH hr.units) (aZ eX (aA 3) aF) aF)
 (aH (bB (i := 10) nd (zgf cL (aB (zp4 (y := "_law_cell") 4 (dr_1 T.b_range (aB (aZ mM aF (aA 9)) aI)) (fun _ _ _ _ _ => (aL aW (zsr G_law_marks (hr.mono (by decide))) (aZ eX (aZ dU (aA 1) (aZ mM aF (aA 0))) aF)))) aI))))
 aP)
 (aH (gJ (fR (aA 2) (aB (gG (aB cL (aB (aA 5) (aB (aA 7) (aB (aA 10) aI))))) aI)))))))
 (aH (bG (aV (gH hr.units) (aZ eX (aZ eX (aZ mM (aA 4) aF) aF) aF) aF)
 (aH (gJ (fR (aA 2) (aB (gG (aB cL (aB (aA 5) (aB (aA 7) (aB (aA 8) aI))))) aI))))
 (aH (bG (aV zrv (aZ eX (aZ eX (aZ mM (aA 4) aF) aF) aF) aF)
 (aH (gJ (fR (aA 2) (aB (gG (aB cL (aB (aA 5) (aB (aA 6) (aB (aZ eX (aZ eX (aZ mM (aZ dU (aA 4) (aZ mM aF (aA 3))) aF) aF) (aZ dU (aA 3) aF)) aI))))) aI))))
 (aH (gJ (fR (aA 2) (aB (gG (aB cL (aB (aA 5) (aB (aA 6) aI)))) aI))))))))))))))))))
 (aH (aM (aA 2)))))
theorem xZ : FnScope ["self", "number"] ["self", "number"] (aK jP) := mR
theorem zht (T : Txt K mg) (HC : HandCls K C0)  : mW P w K mg base 0 ["self", "number"] "Hand.__init__" jP sE := by
 intro _ _ _ _ _ _ _ hr
 have nd := xZ.nd
 exact (aG (zcm HC (aA 0) (aA 1))
 (aG (zcm HC (aA 0) (vI aI))
 (aH (zcm HC (aA 0) (vI aI)))))
theorem zkt : FnScope ["many"] ["many"] (aK uC) := mR
theorem zud (T : Txt K mg) (HC : HandCls K C0) (G_Hand_init : HasI P w K mg base 1 C0 "Hand" ["self", "number"] gY) : mW P w K mg base 2 ["many"] "begun" uC zg9 := by
 intro _ _ _ _ _ _ _ hr
 have nd := zkt.nd
 exact (aH (aM (zto (dr_2 T.b_range (aB aF (aB (aZ dU (aA 0) aF) aI))) (fun _ _ _ _ _ => (zwr HC G_Hand_init (hr.mono (by decide)) (aB (aA 0) aI))))))
theorem qB : FnScope ["rows", "tag", "place", "row"] ["rows", "tag"] (aK eZ) := mR
theorem zY (T : Txt K mg)  : mW P w K mg base 0 ["rows", "tag", "place", "row"] "place_or_none" eZ mF := by
 intro _ _ _ _ _ _ _ hr
 have nd := qB.nd
 exact (aG (zwa (i := 2) (j := 3) PassesOwn.never nd T.b_enumerate (aB (aA 0) aI)
 (aH (bG (aV (gH hr.units) (aL aW (aA 3) aF) (aA 1))
 (aH (aM (aA 2)))
 aP)))
 (aH (aM jW)))
theorem oO : FnScope ["rows", "tag", "place"] ["rows", "tag"] (aK jC) := mR
theorem zku (T : Txt K mg) (G_place_or_none : Has P w K mg base 1 "place_or_none" ["rows", "tag"] bK) : mW P w K mg base 1 ["rows", "tag", "place"] "place_of" jC vO := by
 intro _ _ _ _ _ _ _ hr
 have nd := oO.nd
 exact (aG (bB (i := 2) nd (aR G_place_or_none (hr.mono (by decide)) (aB (aA 0) (aB (aA 1) aI))))
 (aG (bG (aV zpd (aA 2) jW)
 (aH zig)
 aP)
 (aH (aM (aA 2)))))
theorem zkv (T : Txt K mg) (XC : Exc K mg) (G_place_or_none : Has P w K mg base 1 "place_or_none" ["rows", "tag"] bK) : LkV P w K mg base 1 ["rows", "tag", "place"] "place_of" jC sI := by
 intro _ _ _ _ _ _ _ hr
 have nd := oO.nd
 obtain ⟨C_NotYet, o_NotYet⟩ := XC.o_NotYet
 exact (nL (bB (i := 2) nd (aR G_place_or_none (hr.mono (by decide)) (aB (aA 0) (aB (aA 1) aI))))
 (eR (zjl (aV zpd (aA 2) jW)
 (eR (zcv o_NotYet rfl (aB cL aI)))
 zcw)))
theorem oP : FnScope ["rows", "tag", "place", "row"] ["rows", "tag"] (aK jD) := mR
theorem zkw (T : Txt K mg) (G_place_of : Has P w K mg base 2 "place_of" ["rows", "tag"] gP) : mW P w K mg base 2 ["rows", "tag", "place", "row"] "with_cut" jD vP := by
 intro _ _ _ _ _ _ _ hr
 have nd := oP.nd
 exact (aG (bB (i := 2) nd (aR G_place_of (hr.mono (by decide)) (aB (aA 0) (aB (aA 1) aI))))
 (aG (bB (i := 3) nd (aL aW (aA 0) (aA 2)))
 (aH (aM (aZ dU (aZ dU (kY (aA 0) xB (gW (aA 2))) (vI (aB (gG (aB (aL aW (aA 3) aF) (aB (aL aW (aA 3) aF) (aB (aL aW (aA 3) aF) (aB cH aI))))) aI))) (kY (aA 0) (gW (aZ dU (aA 2) aF)) xB))))))
theorem zkx (T : Txt K mg) (GX_place_of : HasX P w K mg base 2 "place_of" ["rows", "tag"] eB) : LkV P w K mg base 2 ["rows", "tag", "place", "row"] "with_cut" jD sJ := by
 intro _ _ _ _ _ _ _ hr
 have nd := oP.nd
 exact (eR (ztf (i := 2) nd (pO GX_place_of (hr.mono (by decide)) (aB (aA 0) (aB (aA 1) aI)))))
theorem iV : FnScope ["rows", "behind"] ["rows", "behind"] (aK eU) := mR
theorem zbd (T : Txt K mg) (G_place_of : Has P w K mg base 2 "place_of" ["rows", "tag"] gP) : mW P w K mg base 2 ["rows", "behind"] "place_behind" eU nI := by
 intro _ _ _ _ _ _ _ hr
 have nd := iV.nd
 obtain ⟨a_BEGINNING, g_BEGINNING, d_BEGINNING⟩ := T.e_BEGINNING
 exact (aG (bG (aV (gH hr.units) (aA 1) (zf6 g_BEGINNING d_BEGINNING))
 (aH (aM aF))
 aP)
 (aH (aM (aZ dU (aR G_place_of (hr.mono (by decide)) (aB (aA 0) (aB (aA 1) aI))) aF))))
theorem zbe (T : Txt K mg) (GX_place_of : HasX P w K mg base 2 "place_of" ["rows", "tag"] eB) : LkV P w K mg base 2 ["rows", "behind"] "place_behind" eU mH := by
 intro _ _ _ _ _ _ _ hr
 have nd := iV.nd
 obtain ⟨a_BEGINNING, g_BEGINNING, d_BEGINNING⟩ := T.e_BEGINNING
 exact (nL (bG (aV (gH hr.units) (aA 1) (zf6 g_BEGINNING d_BEGINNING))
 (aH (aM aF))
 aP)
 (eR (zgz (zwv (pO GX_place_of (hr.mono (by decide)) (aB (aA 0) (aB (aA 1) aI))) aF))))
theorem zky : FnScope ["one", "other"] ["one", "other"] (aK uD) := mR
theorem zue (T : Txt K mg)  : mW P w K mg base 0 ["one", "other"] "later" uD zga := by
 intro _ _ _ _ _ _ _ hr
 have nd := zky.nd
 exact (aG (bG (aV (gH hr.units) (aL aW (aA 0) aF) (aL aW (aA 1) aF))
 (aH (aM (fZ zim (aL aW (aA 0) aF) (aL aW (aA 1) aF))))
 aP)
 (aH (aM (fZ zim (aL aW (aA 0) aF) (aL aW (aA 1) aF)))))
theorem uZ : FnScope ["rows", "place", "tag"] ["rows", "place", "tag"] (aK hV) := mR
theorem zed (T : Txt K mg) (G_later : Has P w K mg base 1 "later" ["one", "other"] fS) : mW P w K mg base 1 ["rows", "place", "tag"] "past_later" hV qN := by
 intro _ _ _ _ _ _ _ hr
 have nd := uZ.nd
 exact (aG (zih PassesOwn.never (jX (rS (aV zrv (aA 1) (bJ eG T.b_len boot_len (aB (aA 0) aI))) (oC (bV (aR G_later (hr.mono (by decide)) (aB (aL aW (aL aW (aA 0) (aA 1)) aF) (aB (aA 2) aI)))))))
 (aH (bB (i := 1) nd (aZ dU (aA 1) aF))))
 (aH (aM (aA 1))))
theorem oQ : FnScope ["rows", "tag", "behind", "sign", "known", "start", "place"] ["rows", "tag", "behind", "sign"] (aK jE) := mR
theorem zkz (T : Txt K mg) (G_place_or_none : Has P w K mg base 1 "place_or_none" ["rows", "tag"] bK) (G_place_behind : Has P w K mg base 3 "place_behind" ["rows", "behind"] dH) (G_later : Has P w K mg base 1 "later" ["one", "other"] fS) (G_past_later : Has P w K mg base 2 "past_later" ["rows", "place", "tag"] iN) : mW P w K mg base 3 ["rows", "tag", "behind", "sign", "known", "start", "place"] "with_put" jE vQ := by
 intro _ _ _ _ _ _ _ hr
 have nd := oQ.nd
 exact (aG (bB (i := 4) nd (aR G_place_or_none (hr.mono (by decide)) (aB (aA 0) (aB (aA 1) aI))))
 (aG (bG (aV zbh (aA 4) jW)
 (aG (bG (jX (iM (aV (oB hr.units) (aL aW (aL aW (aA 0) (aA 4)) aF) (aA 2)) (fK (aV (oB hr.units) (aL aW (aL aW (aA 0) (aA 4)) aF) (aA 3)))))
 (aH zig)
 aP)
 (aH (aM (kG vL T.b_list cR (aB (aA 0) aI)))))
 aP)
 (aG (bB (i := 5) nd (aR G_place_behind (hr.mono (by decide)) (aB (aA 0) (aB (aA 2) aI))))
 (aG (bG (cD (bV (aR G_later (hr.mono (by decide)) (aB (aA 1) (aB (aA 2) aI)))))
 (aH zig)
 aP)
 (aG (bB (i := 6) nd (aR G_past_later (hr.mono (by decide)) (aB (aA 0) (aB (aA 5) (aB (aA 1) aI)))))
 (aH (aM (aZ dU (aZ dU (kY (aA 0) xB (gW (aA 6))) (vI (aB (gG (aB (aA 1) (aB (aA 2) (aB (aA 3) (aB cH aI))))) aI))) (kY (aA 0) (gW (aA 6)) xB)))))))))
theorem zk0 (T : Txt K mg) (XC : Exc K mg) (G_place_or_none : Has P w K mg base 1 "place_or_none" ["rows", "tag"] bK) (G_place_behind : Has P w K mg base 3 "place_behind" ["rows", "behind"] dH) (G_later : Has P w K mg base 1 "later" ["one", "other"] fS) (GX_place_behind : HasX P w K mg base 3 "place_behind" ["rows", "behind"] eM) : LkV P w K mg base 3 ["rows", "tag", "behind", "sign", "known", "start", "place"] "with_put" jE sK := by
 intro _ _ _ _ _ _ _ hr
 have nd := oQ.nd
 obtain ⟨C_Clash, o_Clash⟩ := XC.o_Clash
 obtain ⟨C_Backwards, o_Backwards⟩ := XC.o_Backwards
 exact (nL (bB (i := 4) nd (aR G_place_or_none (hr.mono (by decide)) (aB (aA 0) (aB (aA 1) aI))))
 (zmg (eR (zjl (aV zbh (aA 4) jW)
 (eR (zjl (jX (iM (aV (oB hr.units) (aL aW (aL aW (aA 0) (aA 4)) aF) (aA 2)) (fK (aV (oB hr.units) (aL aW (aL aW (aA 0) (aA 4)) aF) (aA 3)))))
 (eR (zcv o_Clash rfl (aB cL aI)))
 zcw))
 zcw))
 (nL (bG (aV zbh (aA 4) jW)
 (aG (bG (jX (iM (aV (oB hr.units) (aL aW (aL aW (aA 0) (aA 4)) aF) (aA 2)) (fK (aV (oB hr.units) (aL aW (aL aW (aA 0) (aA 4)) aF) (aA 3)))))
 (aH zig)
 aP)
 (aH (aM (kG vL T.b_list cR (aB (aA 0) aI)))))
 aP)
 (zmg (eR (ztf (i := 5) nd (pO GX_place_behind (hr.mono (by decide)) (aB (aA 0) (aB (aA 2) aI)))))
 (nL (bB (i := 5) nd (aR G_place_behind (hr.mono (by decide)) (aB (aA 0) (aB (aA 2) aI))))
 (eR (zjl (cD (bV (aR G_later (hr.mono (by decide)) (aB (aA 1) (aB (aA 2) aI)))))
 (eR (zcv o_Backwards rfl (aB cL aI)))
 zcw)))))))
theorem yA : FnScope ["rows", "slip"] ["rows", "slip"] (aK rJ) := mR
theorem zuf (T : Txt K mg) (G_with_put : Has P w K mg base 4 "with_put" ["rows", "tag", "behind", "sign"] fW) (G_with_cut : Has P w K mg base 3 "with_cut" ["rows", "tag"] lB) : mW P w K mg base 4 ["rows", "slip"] "heard" rJ zbl := by
 intro _ _ _ _ _ _ _ hr
 have nd := yA.nd
 exact (aG (bG (aV (gH hr.units) (aL aW (aA 1) aF) cL)
 (aH (aM (aR G_with_put (hr.mono (by decide)) (aB (aA 0) (aB (aL aW (aA 1) aF) (aB (aL aW (aA 1) aF) (aB (aL aW (aA 1) aF) aI)))))))
 aP)
 (aH (aM (aR G_with_cut (hr.mono (by decide)) (aB (aA 0) (aB (aL aW (aA 1) aF) aI))))))
theorem zug (T : Txt K mg) (G_with_put : Has P w K mg base 4 "with_put" ["rows", "tag", "behind", "sign"] fW) (GX_with_put : HasX P w K mg base 4 "with_put" ["rows", "tag", "behind", "sign"] gZ) (GX_with_cut : HasX P w K mg base 3 "with_cut" ["rows", "tag"] hG) : LkV P w K mg base 4 ["rows", "slip"] "heard" rJ zcx := by
 intro _ _ _ _ _ _ _ hr
 have nd := yA.nd
 exact (zmg (eR (zjl (aV (gH hr.units) (aL aW (aA 1) aF) cL)
 (eR (zgz (pO GX_with_put (hr.mono (by decide)) (aB (aA 0) (aB (aL aW (aA 1) aF) (aB (aL aW (aA 1) aF) (aB (aL aW (aA 1) aF) aI)))))))
 zcw))
 (nL (bG (aV (gH hr.units) (aL aW (aA 1) aF) cL)
 (aH (aM (aR G_with_put (hr.mono (by decide)) (aB (aA 0) (aB (aL aW (aA 1) aF) (aB (aL aW (aA 1) aF) (aB (aL aW (aA 1) aF) aI)))))))
 aP)
 (eR (zgz (pO GX_with_cut (hr.mono (by decide)) (aB (aA 0) (aB (aL aW (aA 1) aF) aI)))))))
theorem mX : FnScope ["self", "slip"] ["self", "slip"] (aK gT) := mR
theorem zhu (T : Txt K mg) (HC : HandCls K C0) (G_heard : Has P w K mg base 5 "heard" ["rows", "slip"] rY) : mW P w K mg base 5 ["self", "slip"] "Hand.hear" gT sF := by
 intro _ _ _ _ _ _ _ hr
 have nd := mX.nd
 exact (aG (bG (aV (zrz (zb0 hr)) (aA 1) (kA HC (aA 0)))
 (aH (aM cH))
 aP)
 (aG (zcm HC (aA 0) (aR G_heard (hr.mono (by decide)) (aB (kA HC (aA 0)) (aB (aA 1) aI))))
 (aG (zcm HC (aA 0) (aZ dU (kA HC (aA 0)) (vI (aB (aA 1) aI))))
 (aH (aM cH)))))
theorem zhv (T : Txt K mg) (HC : HandCls K C0) (GX_heard : HasX P w K mg base 5 "heard" ["rows", "slip"] nC) : LkV P w K mg base 5 ["self", "slip"] "Hand.hear" gT qS := by
 intro _ _ _ _ _ _ _ hr
 have nd := mX.nd
 exact (nL (bG (aV (zrz (zb0 hr)) (aA 1) (kA HC (aA 0)))
 (aH (aM cH))
 aP)
 (eR (zzt (aA 0) (pO GX_heard (hr.mono (by decide)) (aB (kA HC (aA 0)) (aB (aA 1) aI))))))
theorem qC : FnScope ["self", "slips", "new", "slip"] ["self", "slips"] (aK fA) := mR
theorem zZ (T : Txt K mg) (HC : HandCls K C0) (G_Hand_hear : HasM P w K mg base 6 C0 "hear" ["self", "slip"] gB) : mW P w K mg base 6 ["self", "slips", "new", "slip"] "Hand.hear_all" fA mG := by
 intro _ _ _ _ _ _ _ hr
 have nd := qC.nd
 exact (aG (bB (i := 2) nd aF)
 (aG (zbo (i := 3) PassesOwn.never nd (aA 1)
 (aH (bG (bV (qQ HC G_Hand_hear (hr.mono (by decide)) (aA 0) (aB (aA 3) aI)))
 (aH (bB (i := 2) nd (aZ dU (aA 2) aF)))
 aP)))
 (aH (aM (aA 2)))))
theorem zap : FnScope ["rows"] ["rows"] (aK kL) := mR
theorem zk1 (T : Txt K mg)  : mW P w K mg base 0 ["rows"] "standing" kL vR := by
 intro _ _ _ _ _ _ _ hr
 have nd := zap.nd
 exact (aH (aM (yU (aA 0) (fun _ _ _ _ => (cD (bV (aL aW (aA 0) aF)))) (fun _ _ _ _ => (aL aW (aA 0) aF)))))
theorem vA : FnScope ["rows", "place"] ["rows", "place"] (aK hW) := mR
theorem zee (T : Txt K mg) (G_standing : Has P w K mg base 1 "standing" ["rows"] fX) : mW P w K mg base 1 ["rows", "place"] "just_ahead" hW qP := by
 intro _ _ _ _ _ _ _ hr
 have nd := vA.nd
 obtain ⟨a_BEGINNING, g_BEGINNING, d_BEGINNING⟩ := T.e_BEGINNING
 exact (aH (aM (aL aW (aZ dU (vI (aB (zf6 g_BEGINNING d_BEGINNING) aI)) (kY (aR G_standing (hr.mono (by decide)) (aB (aA 0) aI)) xB (gW (aA 1)))) zr8)))
theorem zk2 : FnScope ["rows", "number", "greatest"] ["rows", "number"] (aK uE) := mR
theorem zuh (T : Txt K mg)  : mW P w K mg base 0 ["rows", "number", "greatest"] "fresh" uE zgi := by
 intro _ _ _ _ _ _ _ hr
 have nd := zk2.nd
 exact (aG (bB (i := 2) nd (zv1 T.b_max (aB (tP (aA 0) (fun _ _ _ _ => (aL aW (aL aW (aA 0) aF) aF))) aI) aF))
 (aH (aM (gG (aB (aZ dU (aA 2) aF) (aB (aA 1) aI))))))
theorem zdb : FnScope ["rows", "number", "place", "signs", "made", "behind", "tag", "sign"] ["rows", "number", "place", "signs"] (aK nD) := mR
theorem zm8 (T : Txt K mg) (G_just_ahead : Has P w K mg base 2 "just_ahead" ["rows", "place"] iO) (G_fresh : Has P w K mg base 1 "fresh" ["rows", "number"] sB) : mW P w K mg base 2 ["rows", "number", "place", "signs", "made", "behind", "tag", "sign"] "written" nD zB := by
 intro _ _ _ _ _ _ _ hr
 have nd := zdb.nd
 exact (aG (bB (i := 4) nd (tN aI))
 (aG (bB (i := 5) nd (aR G_just_ahead (hr.mono (by decide)) (aB (aA 0) (aB (aA 2) aI))))
 (aG (bB (i := 6) nd (aR G_fresh (hr.mono (by decide)) (aB (aA 0) (aB (aA 1) aI))))
 (aG (zbi 4 (znz (i := 7) PassesOwn.never nd (aA 3)
 (aG (gJ (fR (aA 4) (aB (gG (aB cL (aB (aA 6) (aB (aA 5) (aB (aA 7) aI))))) aI)))
 (aG (bB (i := 5) nd (aA 6))
 (aH (bB (i := 6) nd (gG (aB (aZ dU (aL aW (aA 6) aF) aF) (aB (aA 1) aI)))))))))
 (aH (aM (aA 4)))))))
theorem vB : FnScope ["self", "place", "signs", "made"] ["self", "place", "signs"] (aK hX) := mR
theorem zef (T : Txt K mg) (HC : HandCls K C0) (G_written : Has P w K mg base 3 "written" ["rows", "number", "place", "signs"] nK) (G_Hand_hear_all : HasM P w K mg base 7 C0 "hear_all" ["self", "slips"] cP) : mW P w K mg base 7 ["self", "place", "signs", "made"] "Hand.write" hX qR := by
 intro _ _ _ _ _ _ _ hr
 have nd := vB.nd
 exact (aG (bB (i := 3) nd (aR G_written (hr.mono (by decide)) (aB (kA HC (aA 0)) (aB (kA HC (aA 0)) (aB (aA 1) (aB (aA 2) aI))))))
 (aG (gJ (qQ HC G_Hand_hear_all (hr.mono (by decide)) (aA 0) (aB (aA 3) aI)))
 (aH (aM (aA 3)))))
theorem zfp : FnScope ["rows", "place", "many"] ["rows", "place", "many"] (aK pY) := mR
theorem zqe (T : Txt K mg) (G_standing : Has P w K mg base 1 "standing" ["rows"] fX) : mW P w K mg base 1 ["rows", "place", "many"] "rubbed" pY zc2 := by
 intro _ _ _ _ _ _ _ hr
 have nd := zfp.nd
 exact (aH (aM (tP (kY (aR G_standing (hr.mono (by decide)) (aB (aA 0) aI)) (gW (aA 1)) (gW (aZ dU (aA 1) (aA 2)))) (fun _ _ _ _ => (gG (aB cL (aB (aA 0) aI)))))))
theorem zaq : FnScope ["self", "place", "many", "made"] ["self", "place", "many"] (aK kM) := mR
theorem zk3 (T : Txt K mg) (HC : HandCls K C0) (G_rubbed : Has P w K mg base 2 "rubbed" ["rows", "place", "many"] pP) (G_Hand_hear_all : HasM P w K mg base 7 C0 "hear_all" ["self", "slips"] cP) : mW P w K mg base 7 ["self", "place", "many", "made"] "Hand.rub" kM vX := by
 intro _ _ _ _ _ _ _ hr
 have nd := zaq.nd
 exact (aG (bB (i := 3) nd (aR G_rubbed (hr.mono (by decide)) (aB (kA HC (aA 0)) (aB (aA 1) (aB (aA 2) aI)))))
 (aG (gJ (qQ HC G_Hand_hear_all (hr.mono (by decide)) (aA 0) (aB (aA 3) aI)))
 (aH (aM (aA 3)))))
theorem zoo : FnScope ["giver", "taker", "which", "slip"] ["giver", "taker", "which"] (aK zU) := mR
theorem zxd (T : Txt K mg) (HC : HandCls K C0) (XC : Exc K mg) (G_Hand_hear : HasM P w K mg base 6 C0 "hear" ["self", "slip"] gB) (GX_Hand_hear : HasXM P w K mg base 6 C0 "hear" ["self", "slip"] iQ) : mW P w K mg base 6 ["giver", "taker", "which", "slip"] "told" zU zml := by
 intro _ _ _ _ _ _ _ hr
 have nd := zoo.nd
 exact (aG (bG (aV v_ge (aA 2) (bJ eG T.b_len boot_len (aB (kA HC (aA 0)) aI)))
 (aH (aM jW))
 aP)
 (aG (bB (i := 3) nd (aL aW (kA HC (aA 0)) (aA 2)))
 (aH (zzs (aH (aM (qQ HC G_Hand_hear (hr.mono (by decide)) (aA 1) (aB (aA 3) aI)))) (fun _ _ => (eR (zgz (ztk HC GX_Hand_hear (hr.mono (by decide)) (aA 1) (aB (aA 3) aI))))) (HsOk.cons XC.c_QuillError rfl (by decide) (fun _ => (aH (aM jW))) HsOk.nil)))))
theorem zop : FnScope ["hands", "deed", "hand", "taker"] ["hands", "deed"] (aK zV) := mR
theorem zxe (T : Txt K mg) (HC : HandCls K C0) (G_Hand_write : HasM P w K mg base 8 C0 "write" ["self", "place", "signs"] iP) (G_Hand_rub : HasM P w K mg base 8 C0 "rub" ["self", "place", "many"] lF) (G_told : Has P w K mg base 7 "told" ["giver", "taker", "which"] xO) (G_Hand_hear_all : HasM P w K mg base 7 C0 "hear_all" ["self", "slips"] cP) : mW P w K mg base 8 ["hands", "deed", "hand", "taker"] "done" zV zmm := by
 intro _ _ _ _ _ _ _ hr
 have nd := zop.nd
 exact (aG (bB (i := 2) nd (aL aW (aA 0) (aZ zby (aL aW (aA 1) aF) aF)))
 (aG (bG (aV (gH hr.units) (aL aW (aA 1) aF) cL)
 (aH (aM (qQ HC G_Hand_write (hr.mono (by decide)) (aA 2) (aB (aL aW (aA 1) aF) (aB (aL aW (aA 1) aF) aI)))))
 aP)
 (aG (bG (aV (gH hr.units) (aL aW (aA 1) aF) cL)
 (aH (aM (qQ HC G_Hand_rub (hr.mono (by decide)) (aA 2) (aB (aL aW (aA 1) aF) (aB (aL aW (aA 1) aF) aI)))))
 aP)
 (aG (bB (i := 3) nd (aL aW (aA 0) (aZ zby (aL aW (aA 1) aF) aF)))
 (aG (bG (aV (gH hr.units) (aL aW (aA 1) aF) cL)
 (aH (aM (aR G_told (hr.mono (by decide)) (aB (aA 2) (aB (aA 3) (aB (aL aW (aA 1) aF) aI))))))
 aP)
 (aH (aM (qQ HC G_Hand_hear_all (hr.mono (by decide)) (aA 3) (aB (kA HC (aA 2)) aI)))))))))
theorem zk4 : FnScope ["many", "deeds", "hands", "answers", "deed"] ["many", "deeds"] (aK uF) := mR
theorem zui (T : Txt K mg) (G_begun : Has P w K mg base 3 "begun" ["many"] nM) (G_done : Has P w K mg base 9 "done" ["hands", "deed"] qX) : mW P w K mg base 9 ["many", "deeds", "hands", "answers", "deed"] "story" uF zhc := by
 intro _ _ _ _ _ _ _ hr
 have nd := zk4.nd
 exact (aG (bB (i := 2) nd (aR G_begun (hr.mono (by decide)) (aB (aA 0) aI)))
 (aG (bB (i := 3) nd (tN aI))
 (aG (zbi 3 (qJ (i := 4) PassesOwn.never nd (aA 1)
 (aH (gJ (fR (aA 3) (aB (aR G_done (hr.mono (by decide)) (aB (aA 2) (aB (aA 4) aI))) aI))))))
 (aH (aM (aA 3))))))
theorem tL : FnScope ["many", "deeds", "hands", "deed"] ["many", "deeds"] (aK gE) := mR
theorem zdc (T : Txt K mg) (G_begun : Has P w K mg base 3 "begun" ["many"] nM) (G_done : Has P w K mg base 9 "done" ["hands", "deed"] qX) : mW P w K mg base 9 ["many", "deeds", "hands", "deed"] "hands_after" gE pC := by
 intro _ _ _ _ _ _ _ hr
 have nd := tL.nd
 exact (aG (bB (i := 2) nd (aR G_begun (hr.mono (by decide)) (aB (aA 0) aI)))
 (aG (qJ (i := 3) PassesOwn.never nd (aA 1)
 (aH (gJ (aR G_done (hr.mono (by decide)) (aB (aA 2) (aB (aA 3) aI))))))
 (aH (aM (aA 2)))))
theorem zoq : FnScope ["many", "deeds"] ["many", "deeds"] (aK zW) := mR
theorem zxf (T : Txt K mg) (HC : HandCls K C0) (G_hands_after : Has P w K mg base 10 "hands_after" ["many", "deeds"] dD) : mW P w K mg base 10 ["many", "deeds"] "held" zW zmn := by
 intro _ _ _ _ _ _ _ hr
 have nd := zoq.nd
 exact (aH (aM (tP (aR G_hands_after (hr.mono (by decide)) (aB (aA 0) (aB (aA 1) aI))) (fun _ _ _ _ => (kA HC (aA 0))))))
theorem zor : FnScope ["many", "deeds"] ["many", "deeds"] (aK zX) := mR
theorem zxg (T : Txt K mg) (HC : HandCls K C0) (G_hands_after : Has P w K mg base 10 "hands_after" ["many", "deeds"] dD) : mW P w K mg base 10 ["many", "deeds"] "ends" zX zmo := by
 intro _ _ _ _ _ _ _ hr
 have nd := zor.nd
 exact (aH (aM (tP (aR G_hands_after (hr.mono (by decide)) (aB (aA 0) (aB (aA 1) aI))) (fun _ _ _ _ => (kA HC (aA 0))))))
theorem zk5 : FnScope ["rows"] ["rows"] (aK uG) := mR
theorem zuj (T : Txt K mg)  : mW P w K mg base 0 ["rows"] "words" uG zhd := by
 intro _ _ _ _ _ _ _ hr
 have nd := zk5.nd
 exact (aH (aM (zgf cL (aB (yU (aA 0) (fun _ _ _ _ => (cD (bV (aL aW (aA 0) aF)))) (fun _ _ _ _ => (aL aW (aA 0) aF))) aI))))
theorem zk6 : FnScope ["many", "deeds"] ["many", "deeds"] (aK uH) := mR
theorem zuk (T : Txt K mg) (HC : HandCls K C0) (G_hands_after : Has P w K mg base 10 "hands_after" ["many", "deeds"] dD) (G_words : Has P w K mg base 1 "words" ["rows"] pQ) : mW P w K mg base 10 ["many", "deeds"] "texts" uH zhe := by
 intro _ _ _ _ _ _ _ hr
 have nd := zk6.nd
 exact (aH (aM (tP (aR G_hands_after (hr.mono (by decide)) (aB (aA 0) (aB (aA 1) aI))) (fun _ _ _ _ => (aR G_words (hr.mono (by decide)) (aB (kA HC (aA 0)) aI))))))
theorem yB : FnScope ["_law_found"] ["_law_found"] (aK jQ) := mR
theorem zhw (T : Txt K mg)  : mW P w K mg base 0 ["_law_found"] "_law_whole" jQ rZ := by
 intro _ _ _ _ _ _ _ hr
 have nd := yB.nd
 exact (aH (aM (oU (dA T.b_isinstance T.b_int yV (aA 0)) (oT (zrj (dA T.b_isinstance T.b_bool nH (aA 0)))))))
theorem zar : FnScope ["_law_handed", "_law_deeds", "_law_k", "_law_j", "_law_part"] ["_law_handed", "_law_deeds"] (aK kN) := mR
theorem zk7 (T : Txt K mg) (G_law_whole : Has P w K mg base 1 "_law_whole" ["_law_found"] cU) : mW P w K mg base 1 ["_law_handed", "_law_deeds", "_law_k", "_law_j", "_law_part"] "_law_kept" kN wF := by
 intro _ _ _ _ _ _ _ hr
 have nd := zar.nd
 exact (aG (bG (aV (oB hr.units) (bJ eG T.b_len boot_len (aB (aA 0) aI)) (bJ eG T.b_len boot_len (aB (aA 1) aI)))
 (aH (aM cH))
 aP)
 (aG (pI (i := 2) PassesOwn.never nd T.b_range (aB (bJ eG T.b_len boot_len (aB (aA 1) aI)) aI)
 (aG (bG (jX (iM (cD (bV (dA T.b_isinstance T.b_tuple gO (aL aW (aA 0) (aA 2))))) (fK (aV (oB hr.units) (bJ eG T.b_len boot_len (aB (aL aW (aA 0) (aA 2)) aI)) (bJ eG T.b_len boot_len (aB (aL aW (aA 1) (aA 2)) aI))))))
 (aH (aM cH))
 aP)
 (aH (pI (i := 3) PassesOwn.never nd T.b_range (aB (bJ eG T.b_len boot_len (aB (aL aW (aA 1) (aA 2)) aI)) aI)
 (aG (bB (i := 4) nd (aL aW (aL aW (aA 0) (aA 2)) (aA 3)))
 (aG (bG (jX (rS (cD (bV (dA T.b_isinstance T.b_str kH (aA 4)))) (oC (cD (bV (aR G_law_whole (hr.mono (by decide)) (aB (aA 4) aI)))))))
 (aH (aM cH))
 aP)
 (aH (bG (aV (oB hr.units) (aA 4) (aL aW (aL aW (aA 1) (aA 2)) (aA 3)))
 (aH (aM cH))
 aP))))))))
 (aH (aM cH))))
theorem vC : FnScope ["_law_found"] ["_law_found"] (aK hZ) := mR
theorem zeg (T : Txt K mg) (G_law_whole : Has P w K mg base 1 "_law_whole" ["_law_found"] cU) : mW P w K mg base 1 ["_law_found"] "_law_is_tag" hZ qO := by
 intro _ _ _ _ _ _ _ hr
 have nd := vC.nd
 exact (aG (bG (jX (iM (cD (bV (dA T.b_isinstance T.b_tuple gO (aA 0)))) (fK (aV (oB hr.units) (bJ eG T.b_len boot_len (aB (aA 0) aI)) aF))))
 (aH (aM cH))
 aP)
 (aH (aM (oU (aR G_law_whole (hr.mono (by decide)) (aB (aL aW (aA 0) aF) aI)) (oT (aR G_law_whole (hr.mono (by decide)) (aB (aL aW (aA 0) aF) aI)))))))
theorem rO : FnScope ["_law_found", "_law_row"] ["_law_found"] (aK fU) := mR
theorem zbf (T : Txt K mg) (G_law_is_tag : Has P w K mg base 2 "_law_is_tag" ["_law_found"] dB) : mW P w K mg base 2 ["_law_found", "_law_row"] "_law_is_sheet" fU nJ := by
 intro _ _ _ _ _ _ _ hr
 have nd := rO.nd
 exact (aG (bG (cD (bV (dA T.b_isinstance T.b_list cR (aA 0))))
 (aH (aM cH))
 aP)
 (aG (qJ (i := 1) PassesOwn.never nd (aA 0)
 (aG (bG (jX (iM (cD (bV (dA T.b_isinstance T.b_tuple gO (aA 1)))) (fK (aV (oB hr.units) (bJ eG T.b_len boot_len (aB (aA 1) aI)) aF))))
 (aH (aM cH))
 aP)
 (aG (bG (jX (iM (cD (bV (aR G_law_is_tag (hr.mono (by decide)) (aB (aL aW (aA 1) aF) aI)))) (fK (cD (bV (aR G_law_is_tag (hr.mono (by decide)) (aB (aL aW (aA 1) aF) aI)))))))
 (aH (aM cH))
 aP)
 (aH (bG (jX (iM (cD (bV (dA T.b_isinstance T.b_str kH (aL aW (aA 1) aF)))) (fK (cD (bV (dA T.b_isinstance T.b_bool nH (aL aW (aA 1) aF)))))))
 (aH (aM cH))
 aP)))))
 (aH (aM cH))))
theorem yC : FnScope ["_law_book", "_law_slip", "_law_cause", "_law_other"] ["_law_book", "_law_slip"] (aK jR) := mR
theorem zhx (T : Txt K mg)  : mW P w K mg base 0 ["_law_book", "_law_slip", "_law_cause", "_law_other"] "_law_knows" jR sZ := by
 intro _ _ _ _ _ _ _ hr
 have nd := yC.nd
 exact (aG (bB (i := 2) nd (aL aW (aA 1) aF))
 (aG (bG (aV (gH hr.units) (aL aW (aA 1) aF) cL)
 (aH (bB (i := 2) nd (aL aW (aA 1) aF)))
 aP)
 (aG (bG (aV (gH hr.units) (aA 2) (gG (aB aF (aB aF aI))))
 (aH (aM (fZ (gH hr.units) (aL aW (aA 1) aF) cL)))
 aP)
 (aG (zbo (i := 3) PassesOwn.never nd (aA 0)
 (aH (bG (jX (rS (aV (gH hr.units) (aL aW (aA 3) aF) cL) (oC (aV (gH hr.units) (aL aW (aA 3) aF) (aA 2)))))
 (aH (aM cH))
 aP)))
 (aH (aM cH))))))
theorem vD : FnScope ["_law_book", "_law_giver", "_law_told", "_law_count", "_law_slip"] ["_law_book", "_law_giver", "_law_told"] (aK iA) := mR
theorem zeh (T : Txt K mg) (G_law_knows : Has P w K mg base 1 "_law_knows" ["_law_book", "_law_slip"] eE) (G_law_whole : Has P w K mg base 1 "_law_whole" ["_law_found"] cU) : mW P w K mg base 1 ["_law_book", "_law_giver", "_law_told", "_law_count", "_law_slip"] "_law_shared" iA qZ := by
 intro _ _ _ _ _ _ _ hr
 have nd := vD.nd
 exact (aG (bB (i := 3) nd aF)
 (aG (qJ (i := 4) PassesOwn.never nd (kG vL T.b_list cR (aB (aA 1) aI))
 (aH (bG (aV (zvx (zb0 hr)) (aA 4) (aA 0))
 (aG (bG (cD (bV (aR G_law_knows (hr.mono (by decide)) (aB (aA 0) (aB (aA 4) aI)))))
 (aH (aM cH))
 aP)
 (aG (gJ (fR (aA 0) (aB (aA 4) aI)))
 (aH (bB (i := 3) nd (aZ dU (aA 3) aF)))))
 aP)))
 (aH (aM (oU (aR G_law_whole (hr.mono (by decide)) (aB (aA 2) aI)) (oT (fZ (gH hr.units) (aA 2) (aA 3))))))))
theorem tM : FnScope ["_law_slip"] ["_law_slip"] (aK gF) := mR
theorem zdd (T : Txt K mg) (G_law_is_tag : Has P w K mg base 2 "_law_is_tag" ["_law_found"] dB) : mW P w K mg base 2 ["_law_slip"] "_law_is_slip" gF pD := by
 intro _ _ _ _ _ _ _ hr
 have nd := tM.nd
 exact (aG (bG (jX (iM (cD (bV (dA T.b_isinstance T.b_tuple gO (aA 0)))) (fK (aV zrv (bJ eG T.b_len boot_len (aB (aA 0) aI)) aF))))
 (aH (aM cH))
 aP)
 (aG (bG (jX (iM (cD (bV (dA T.b_isinstance T.b_str kH (aL aW (aA 0) aF)))) (fK (cD (bV (aR G_law_is_tag (hr.mono (by decide)) (aB (aL aW (aA 0) aF) aI)))))))
 (aH (aM cH))
 aP)
 (aG (bG (jX (rS (aV (gH hr.units) (aL aW (aA 0) aF) cL) (oC (aV (gH hr.units) (bJ eG T.b_len boot_len (aB (aA 0) aI)) aF))))
 (aH (aM (oU (aR G_law_is_tag (hr.mono (by decide)) (aB (aL aW (aA 0) aF) aI)) (oT (dA T.b_isinstance T.b_str kH (aL aW (aA 0) aF))))))
 aP)
 (aH (aM (oU (fZ (gH hr.units) (aL aW (aA 0) aF) cL) (oT (fZ (gH hr.units) (bJ eG T.b_len boot_len (aB (aA 0) aI)) aF))))))))
theorem qD : FnScope ["_law_found", "_law_slip"] ["_law_found"] (aK fB) := mR
theorem zaa (T : Txt K mg) (G_law_is_slip : Has P w K mg base 3 "_law_is_slip" ["_law_slip"] gQ) : mW P w K mg base 3 ["_law_found", "_law_slip"] "_law_are_slips" fB mI := by
 intro _ _ _ _ _ _ _ hr
 have nd := qD.nd
 exact (aG (bG (cD (bV (dA T.b_isinstance T.b_list cR (aA 0))))
 (aH (aM cH))
 aP)
 (aG (qJ (i := 1) PassesOwn.never nd (aA 0)
 (aH (bG (cD (bV (aR G_law_is_slip (hr.mono (by decide)) (aB (aA 1) aI))))
 (aH (aM cH))
 aP)))
 (aH (aM cH))))
theorem qE : FnScope ["_law_found", "_law_meant", "_law_k"] ["_law_found", "_law_meant"] (aK pZ) := mR
theorem uI {n j : Nat} (T : Txt K mg) (G_law_so : Has P w K mg base j "_law_so" ["_law_found", "_law_meant"] (eY n)) : mW P w K mg base j ["_law_found", "_law_meant", "_law_k"] "_law_so" pZ (sY n) := by
 intro _ _ _ _ _ _ _ hr
 have nd := qE.nd
 exact (aG (bG (aV zpd (aA 1) jW)
 (aH (aM (fZ zpd (aA 0) jW)))
 aP)
 (aG (bG (bV (dA T.b_isinstance T.b_bool nH (aA 1)))
 (aH (aM (oU (dA T.b_isinstance T.b_bool nH (aA 0)) (oT (fZ (gH hr.units) (aA 0) (aA 1))))))
 aP)
 (aG (bG (bV (dA T.b_isinstance T.b_int yV (aA 1)))
 (aH (aM (oU (dA T.b_isinstance T.b_int yV (aA 0)) (oU (zrj (dA T.b_isinstance T.b_bool nH (aA 0))) (oT (fZ (gH hr.units) (aA 0) (aA 1)))))))
 aP)
 (aG (bG (bV (dA T.b_isinstance T.b_str kH (aA 1)))
 (aH (aM (oU (dA T.b_isinstance T.b_str kH (aA 0)) (oT (fZ (gH hr.units) (aA 0) (aA 1))))))
 aP)
 (aG (bG (bV (dA T.b_isinstance T.b_dict zly (aA 1)))
 (aH zig)
 aP)
 (aG (bG (aV (oB hr.units) (dA T.b_isinstance T.b_tuple gO (aA 1)) (dA T.b_isinstance T.b_tuple gO (aA 0)))
 (aH (aM cH))
 aP)
 (aG (bG (jX (iM (aV (oB hr.units) (dA T.b_isinstance T.b_list cR (aA 1)) (dA T.b_isinstance T.b_list cR (aA 0))) (fK (cD (bV (zzq T.b_isinstance T.b_list T.b_tuple (aA 1)))))))
 (aH (aM cH))
 aP)
 (aG (bG (aV (oB hr.units) (bJ eG T.b_len boot_len (aB (aA 0) aI)) (bJ eG T.b_len boot_len (aB (aA 1) aI)))
 (aH (aM cH))
 aP)
 (aG (pI (i := 2) PassesOwn.never nd T.b_range (aB (bJ eG T.b_len boot_len (aB (aA 1) aI)) aI)
 (aH (bG (cD (bV (aR G_law_so hr (aB (aL aW (aA 0) (aA 2)) (aB (aL aW (aA 1) (aA 2)) aI)))))
 (aH (aM cH))
 aP)))
 (aH (aM cH)))))))))))
theorem zas : FnScope ["_law_book", "_law_told", "_law_due", "_law_slip"] ["_law_book", "_law_told", "_law_due"] (aK kO) := mR
theorem zk8 (T : Txt K mg) (G_law_are_slips : Has P w K mg base 4 "_law_are_slips" ["_law_found"] dM) (G_law_so : Has P w K mg base 4 "_law_so" ["_law_found", "_law_meant"] (eY 4)) (G_law_knows : Has P w K mg base 1 "_law_knows" ["_law_book", "_law_slip"] eE) : mW P w K mg base 4 ["_law_book", "_law_told", "_law_due", "_law_slip"] "_law_made" kO wG := by
 intro _ _ _ _ _ _ _ hr
 have nd := zas.nd
 exact (aG (bG (jX (iM (cD (bV (aR G_law_are_slips (hr.mono (by decide)) (aB (aA 1) aI)))) (fK (cD (bV (aR G_law_so (hr.mono (by decide)) (aB (aA 1) (aB (aA 2) aI))))))))
 (aH (aM cH))
 aP)
 (aG (qJ (i := 3) PassesOwn.never nd (aA 1)
 (aG (bG (jX (iM (aV (zrz (zb0 hr)) (aA 3) (aA 0)) (fK (cD (bV (aR G_law_knows (hr.mono (by decide)) (aB (aA 0) (aB (aA 3) aI))))))))
 (aH (aM cH))
 aP)
 (aH (gJ (fR (aA 0) (aB (aA 3) aI))))))
 (aH (aM cH))))
theorem rP : FnScope ["_law_book", "_law_giver", "_law_which", "_law_told", "_law_slip"] ["_law_book", "_law_giver", "_law_which", "_law_told"] (aK fV) := mR
theorem zbg (T : Txt K mg) (G_law_knows : Has P w K mg base 1 "_law_knows" ["_law_book", "_law_slip"] eE) : mW P w K mg base 1 ["_law_book", "_law_giver", "_law_which", "_law_told", "_law_slip"] "_law_one_told" fV nO := by
 intro _ _ _ _ _ _ _ hr
 have nd := rP.nd
 exact (aG (bG (aV v_ge (aA 2) (bJ eG T.b_len boot_len (aB (aA 1) aI)))
 (aH (aM (fZ zpd (aA 3) jW)))
 aP)
 (aG (bB (i := 4) nd (aL aW (aA 1) (aA 2)))
 (aG (bG (aV (zrz (zb0 hr)) (aA 4) (aA 0))
 (aH (aM (fZ zx1 (aA 3) cH)))
 aP)
 (aG (bG (cD (bV (aR G_law_knows (hr.mono (by decide)) (aB (aA 0) (aB (aA 4) aI)))))
 (aH (aM (fZ zpd (aA 3) jW)))
 aP)
 (aG (gJ (fR (aA 0) (aB (aA 4) aI)))
 (aH (aM (fZ zx1 (aA 3) cH))))))))
theorem zat : FnScope ["_law_rows", "_law_book", "_law_puts", "_law_cuts", "_law_slip"] ["_law_rows", "_law_book"] (aK kP) := mR
theorem zk9 (T : Txt K mg)  : mW P w K mg base 0 ["_law_rows", "_law_book", "_law_puts", "_law_cuts", "_law_slip"] "_law_seen" kP wH := by
 intro _ _ _ _ _ _ _ hr
 have nd := zat.nd
 exact (aG (bB (i := 2) nd zn8)
 (aG (bB (i := 3) nd zn8)
 (aG (zbo (i := 4) PassesOwn.never nd (aA 1)
 (aH (bG (aV (gH hr.units) (aL aW (aA 4) aF) cL)
 (aH (zn6 (u1 (zb0 hr)) (aA 2) (aL aW (aA 4) aF) cH))
 (aH (zn6 (u1 (zb0 hr)) (aA 3) (aL aW (aA 4) aF) cH)))))
 (aH (aM (zp5 (y := "_law_puts") (y2 := "_law_cuts") 2 3 (aA 0) (fun _ _ _ _ _ => (jX (rS (aV (zace (u1 (zb0 hr))) (aL aW (aA 0) aF) (aA 1)) (oC (aV (zs6 (u1 (zb0 hr))) (aL aW (aA 0) aF) (aA 2)))))) (fun _ _ _ _ _ => (aL aW (aA 0) aF))))))))
theorem qF : FnScope ["_law_rows", "_law_book", "_law_deed", "_law_there", "_law_most", "_law_slip", "_law_behind", "_law_due", "_law_sign"] ["_law_rows", "_law_book", "_law_deed"] (aK fE) := mR
theorem zab (T : Txt K mg) (G_law_seen : Has P w K mg base 1 "_law_seen" ["_law_rows", "_law_book"] lK) : mW P w K mg base 1 ["_law_rows", "_law_book", "_law_deed", "_law_there", "_law_most", "_law_slip", "_law_behind", "_law_due", "_law_sign"] "_law_due_slips" fE mJ := by
 intro _ _ _ _ _ _ _ hr
 have nd := qF.nd
 exact (aG (bB (i := 3) nd (aR G_law_seen (hr.mono (by decide)) (aB (aA 0) (aB (aA 1) aI))))
 (aG (bG (aV (gH hr.units) (aL aW (aA 2) aF) cL)
 (aH (aM (tP (kY (aA 3) (gW (aL aW (aA 2) aF)) (gW (aZ dU (aL aW (aA 2) aF) (aL aW (aA 2) aF)))) (fun _ _ _ _ => (gG (aB cL (aB (aA 0) aI)))))))
 aP)
 (aG (bB (i := 4) nd aF)
 (aG (zbo (i := 5) PassesOwn.never nd (aA 1)
 (aH (bG (aV (gH hr.units) (aL aW (aA 5) aF) cL)
 (aH (bB (i := 4) nd (bJ (zacd rfl) T.b_max zpo (aB (aA 4) (aB (aL aW (aL aW (aA 5) aF) aF) aI)))))
 aP)))
 (aG (bB (i := 6) nd (gG (aB aF (aB aF aI))))
 (aG (bG (jX (rS (aV zim (aL aW (aA 2) aF) aF) (oC (aV zim (bJ eG T.b_len boot_len (aB (aA 3) aI)) aF))))
 (aH (bB (i := 6) nd (aL aW (aA 3) (aZ zby (bJ (zacc rfl) T.b_min zpn (aB (aL aW (aA 2) aF) (aB (bJ eG T.b_len boot_len (aB (aA 3) aI)) aI))) aF))))
 aP)
 (aG (bB (i := 7) nd (tN aI))
 (aG (zbi 7 (znz (i := 8) PassesOwn.never nd (aL aW (aA 2) aF)
 (aG (bB (i := 4) nd (aZ dU (aA 4) aF))
 (aG (gJ (fR (aA 7) (aB (gG (aB cL (aB (gG (aB (aA 4) (aB (aL aW (aA 2) aF) aI))) (aB (aA 6) (aB (aA 8) aI))))) aI)))
 (aH (bB (i := 6) nd (gG (aB (aA 4) (aB (aL aW (aA 2) aF) aI)))))))))
 (aH (aM (aA 7)))))))))))
theorem zau : FnScope ["_law_sheets", "_law_books", "_law_deed", "_law_told", "_law_giver"] ["_law_sheets", "_law_books", "_law_deed", "_law_told"] (aK kQ) := mR
theorem zla (T : Txt K mg) (G_law_made : Has P w K mg base 5 "_law_made" ["_law_book", "_law_told", "_law_due"] jN) (G_law_due_slips : Has P w K mg base 2 "_law_due_slips" ["_law_rows", "_law_book", "_law_deed"] fT) (G_law_one_told : Has P w K mg base 2 "_law_one_told" ["_law_book", "_law_giver", "_law_which", "_law_told"] gD) (G_law_shared : Has P w K mg base 2 "_law_shared" ["_law_book", "_law_giver", "_law_told"] iR) : mW P w K mg base 5 ["_law_sheets", "_law_books", "_law_deed", "_law_told", "_law_giver"] "_law_step" kQ wI := by
 intro _ _ _ _ _ _ _ hr
 have nd := zau.nd
 exact (aG (bB (i := 4) nd (aL aW (aA 1) (aZ zby (aL aW (aA 2) aF) aF)))
 (aG (bG (jX (iM (aV (gH hr.units) (aL aW (aA 2) aF) cL) (fK (aV (gH hr.units) (aL aW (aA 2) aF) cL))))
 (aH (aM (aR G_law_made (hr.mono (by decide)) (aB (aA 4) (aB (aA 3) (aB (aR G_law_due_slips (hr.mono (by decide)) (aB (aL aW (aA 0) (aZ zby (aL aW (aA 2) aF) aF)) (aB (aA 4) (aB (aA 2) aI)))) aI))))))
 aP)
 (aG (bG (aV (gH hr.units) (aL aW (aA 2) aF) cL)
 (aH (aM (aR G_law_one_told (hr.mono (by decide)) (aB (aL aW (aA 1) (aZ zby (aL aW (aA 2) aF) aF)) (aB (aA 4) (aB (aL aW (aA 2) aF) (aB (aA 3) aI)))))))
 aP)
 (aH (aM (aR G_law_shared (hr.mono (by decide)) (aB (aL aW (aA 1) (aZ zby (aL aW (aA 2) aF) aF)) (aB (aA 4) (aB (aA 3) aI)))))))))
theorem yD : FnScope ["_law_one", "_law_other"] ["_law_one", "_law_other"] (aK jS) := mR
theorem zhy (T : Txt K mg)  : mW P w K mg base 0 ["_law_one", "_law_other"] "_law_after" jS tK := by
 intro _ _ _ _ _ _ _ hr
 have nd := yD.nd
 exact (aH (aM (zabf (fZ zim (aL aW (aA 0) aF) (aL aW (aA 1) aF)) (oT (oU (fZ (gH hr.units) (aL aW (aA 0) aF) (aL aW (aA 1) aF)) (oT (fZ zim (aL aW (aA 0) aF) (aL aW (aA 1) aF))))))))
theorem zav : FnScope ["_law_rows", "_law_road", "_law_row", "_law_last"] ["_law_rows"] (aK kR) := mR
theorem zlb (T : Txt K mg) (G_law_after : Has P w K mg base 1 "_law_after" ["_law_one", "_law_other"] hI) : mW P w K mg base 1 ["_law_rows", "_law_road", "_law_row", "_law_last"] "_law_walk" kR wK := by
 intro _ _ _ _ _ _ _ hr
 have nd := zav.nd
 exact (aG (bB (i := 1) nd (tN (aB (gG (aB aF (aB aF aI))) aI)))
 (aG (qJ (i := 2) PassesOwn.never nd (aA 0)
 (aG (bB (i := 3) nd jW)
 (aG (zih PassesOwn.never (jX (rS (aV zim (bJ eG T.b_len boot_len (aB (aA 1) aI)) aF) (oC (aV (oB hr.units) (aL aW (aA 1) zr8) (aL aW (aA 2) aF)))))
 (aH (bB (i := 3) nd (zy5 (aA 1)))))
 (aG (bG (aV (gH hr.units) (bJ eG T.b_len boot_len (aB (aA 1) aI)) aF)
 (aH (aM cH))
 aP)
 (aG (bG (jX (rS (aV zbh (aA 3) jW) (oC (cD (bV (aR G_law_after (hr.mono (by decide)) (aB (aA 3) (aB (aL aW (aA 2) aF) aI))))))))
 (aH (aM cH))
 aP)
 (aH (gJ (fR (aA 1) (aB (aL aW (aA 2) aF) aI)))))))))
 (aH (aM cH))))
theorem oA : FnScope ["_law_rows", "_law_line", "_law_book", "_law_cuts", "_law_puts", "_law_slip"] ["_law_rows", "_law_line", "_law_book"] (aK dY) := mR
theorem wQ (T : Txt K mg) (G_law_is_sheet : Has P w K mg base 3 "_law_is_sheet" ["_law_found"] dI) (G_law_walk : Has P w K mg base 2 "_law_walk" ["_law_rows"] lN) : mW P w K mg base 3 ["_law_rows", "_law_line", "_law_book", "_law_cuts", "_law_puts", "_law_slip"] "_law_right_sheet" dY kD := by
 intro _ _ _ _ _ _ _ hr
 have nd := oA.nd
 exact (aG (bG (jX (iM (cD (bV (aR G_law_is_sheet (hr.mono (by decide)) (aB (aA 0) aI)))) (fK (cD (bV (dA T.b_isinstance T.b_str kH (aA 1)))))))
 (aH (aM cH))
 aP)
 (aG (znv (i := 3) nd (aA 2) (fun _ _ _ _ => (aV (gH hr.units) (aL aW (aA 0) aF) cL)) (fun _ _ _ _ => (aL aW (aA 0) aF)))
 (aG (znv (i := 4) nd (aA 2) (fun _ _ _ _ => (aV (gH hr.units) (aL aW (aA 0) aF) cL)) (fun _ _ _ _ => (aA 0)))
 (aG (bG (jX (iM (aV (oB hr.units) (bJ eG T.b_len boot_len (aB (aA 0) aI)) (bJ eG T.b_len boot_len (aB (aA 4) aI))) (fK (cD (bV (aR G_law_walk (hr.mono (by decide)) (aB (aA 0) aI)))))))
 (aH (aM cH))
 aP)
 (aG (qJ (i := 5) PassesOwn.never nd (aA 4)
 (aH (bG (aV (oB hr.units) (zso (zb0 hr) (aA 0) (aB (gG (aB (aL aW (aA 5) aF) (aB (aL aW (aA 5) aF) (aB (aL aW (aA 5) aF) (aB (fZ (zrz (zb0 hr)) (aL aW (aA 5) aF) (aA 3)) aI))))) aI)) aF)
 (aH (aM cH))
 aP)))
 (aH (aM (fZ (gH hr.units) (aA 1) (zgf cL (aB (yU (aA 0) (fun _ _ _ _ => (cD (bV (aL aW (aA 0) aF)))) (fun _ _ _ _ => (aL aW (aA 0) aF))) aI))))))))))
theorem zfq : FnScope ["_law_script", "_law_k"] ["_law_script", "_law_k"] (aK qA) := mR
theorem zqf (T : Txt K mg)  : mW P w K mg base 0 ["_law_script", "_law_k"] "_law_at" qA zb4 := by
 intro _ _ _ _ _ _ _ hr
 have nd := zfq.nd
 exact (aG (bG (aV zrv (aA 1) (bJ eG T.b_len boot_len (aB (aA 0) aI)))
 (aH (aM (aL aW (aA 0) (aA 1))))
 aP)
 (aH (aM aF)))
theorem zaw : FnScope ["_law_script", "_law_most", "_law_bound"] ["_law_script", "_law_most", "_law_bound"] (aK kS) := mR
theorem zlc (T : Txt K mg)  : mW P w K mg base 0 ["_law_script", "_law_most", "_law_bound"] "_law_room" kS wA := by
 intro _ _ _ _ _ _ _ hr
 have nd := zaw.nd
 exact (aG (bG (aV zim (bJ eG T.b_len boot_len (aB (aA 0) aI)) aF)
 (aH (aM (aA 2)))
 aP)
 (aH (aM (aA 1))))
theorem zul : FnScope ["_law_script", "_law_many", "_law_deeds", "_law_handed", "_law_told", "_law_found", "_law_sheets", "_law_lines", "_law_rows", "_law_books", "_law_k"] ["_law_script"] (aK xX) := mR
theorem zz2 (T : Txt K mg) (G_law_at : Has P w K mg base 1 "_law_at" ["_law_script", "_law_k"] nB) (G_law_drawn_deeds : Has P w K mg base 2 "_law_drawn_deeds" ["_law_cells", "_law_many"] eT) (G_law_room : Has P w K mg base 1 "_law_room" ["_law_script", "_law_most", "_law_bound"] lG) (G_story : Has P w K mg base 10 "story" ["many", "deeds"] sM) (G_held : Has P w K mg base 11 "held" ["many", "deeds"] xP) (G_law_kept : Has P w K mg base 2 "_law_kept" ["_law_handed", "_law_deeds"] lM) (G_ends : Has P w K mg base 11 "ends" ["many", "deeds"] xQ) (G_texts : Has P w K mg base 11 "texts" ["many", "deeds"] sN) (G_law_is_sheet : Has P w K mg base 3 "_law_is_sheet" ["_law_found"] dI) (G_law_step : Has P w K mg base 6 "_law_step" ["_law_sheets", "_law_books", "_law_deed", "_law_told"] lL) (G_law_are_slips : Has P w K mg base 4 "_law_are_slips" ["_law_found"] dM) (G_law_right_sheet : Has P w K mg base 4 "_law_right_sheet" ["_law_rows", "_law_line", "_law_book"] dO) : mW P w K mg base 11 ["_law_script", "_law_many", "_law_deeds", "_law_handed", "_law_told", "_law_found", "_law_sheets", "_law_lines", "_law_rows", "_law_books", "_law_k"] "law" xX zt6 := by
 intro _ _ _ _ _ _ _ hr
 have nd := zul.nd
 exact (aG (bB (i := 1) nd (aL aW (vI (aB aF (aB aF (aB aF (aB aF (aB aF (aB aF (aB aF (aB aF aI))))))))) (aZ eX (aZ eX (aZ mM (aR G_law_at (hr.mono (by decide)) (aB (aA 0) (aB aF aI))) aF) aF) aF)))
 (aG (bB (i := 2) nd (aR G_law_drawn_deeds (hr.mono (by decide)) (aB (kY (aA 0) (gW aF) (gW (aZ dU aF (aR G_law_room (hr.mono (by decide)) (aB (aA 0) (aB aF (aB aF aI))))))) (aB (aA 1) aI))))
 (aG (bB (i := 3) nd (kG vL T.b_list cR (aB (aA 2) aI)))
 (aG (bB (i := 4) nd (aR G_story (hr.mono (by decide)) (aB (aA 1) (aB (aA 3) aI))))
 (aG (bB (i := 5) nd (aR G_held (hr.mono (by decide)) (aB (aA 1) (aB (kG vL T.b_list cR (aB (aA 2) aI)) aI))))
 (aG (bG (jX (iM (cD (bV (aR G_law_kept (hr.mono (by decide)) (aB (aA 3) (aB (aA 2) aI))))) (fK (cD (bV (dA T.b_isinstance T.b_list cR (aA 4)))))))
 (aH (aM cH))
 aP)
 (aG (bG (aV (oB hr.units) (bJ eG T.b_len boot_len (aB (aA 4) aI)) (bJ eG T.b_len boot_len (aB (aA 2) aI)))
 (aH (aM cH))
 aP)
 (aG (bG (jX (iM (cD (bV (dA T.b_isinstance T.b_list cR (aA 5)))) (fK (aV (oB hr.units) (bJ eG T.b_len boot_len (aB (aA 5) aI)) (aA 1)))))
 (aH (aM cH))
 aP)
 (aG (bB (i := 6) nd (aR G_ends (hr.mono (by decide)) (aB (aA 1) (aB (kG vL T.b_list cR (aB (aA 2) aI)) aI))))
 (aG (bB (i := 7) nd (aR G_texts (hr.mono (by decide)) (aB (aA 1) (aB (kG vL T.b_list cR (aB (aA 2) aI)) aI))))
 (aG (bG (jX (iM (cD (bV (dA T.b_isinstance T.b_list cR (aA 6)))) (fK (cD (bV (dA T.b_isinstance T.b_list cR (aA 7)))))))
 (aH (aM cH))
 aP)
 (aG (bG (jX (iM (aV (oB hr.units) (bJ eG T.b_len boot_len (aB (aA 6) aI)) (aA 1)) (fK (aV (oB hr.units) (bJ eG T.b_len boot_len (aB (aA 7) aI)) (aA 1)))))
 (aH (aM cH))
 aP)
 (aG (qJ (i := 8) PassesOwn.never nd (aA 6)
 (aH (bG (cD (bV (aR G_law_is_sheet (hr.mono (by decide)) (aB (aA 8) aI))))
 (aH (aM cH))
 aP)))
 (aG (zwx (k := 9) nd (dr_1 T.b_range (aB (aA 1) aI)) (fun _ _ _ _ _ => (tN aI)))
 (aG (pI (i := 10) PassesOwn.never nd T.b_range (aB (bJ eG T.b_len boot_len (aB (aA 2) aI)) aI)
 (aH (bG (cD (bV (aR G_law_step (hr.mono (by decide)) (aB (aA 6) (aB (aA 9) (aB (aL aW (aA 2) (aA 10)) (aB (aL aW (aA 4) (aA 10)) aI)))))))
 (aH (aM cH))
 aP)))
 (aG (pI (i := 10) PassesOwn.never nd T.b_range (aB (aA 1) aI)
 (aG (bG (jX (iM (cD (bV (aR G_law_are_slips (hr.mono (by decide)) (aB (aL aW (aA 5) (aA 10)) aI)))) (fK (aV (oB hr.units) (aL aW (aA 5) (aA 10)) (aL aW (aA 9) (aA 10))))))
 (aH (aM cH))
 aP)
 (aH (bG (cD (bV (aR G_law_right_sheet (hr.mono (by decide)) (aB (aL aW (aA 6) (aA 10)) (aB (aL aW (aA 7) (aA 10)) (aB (zy2 (aL aW (aA 9) (aA 10))) aI))))))
 (aH (aM cH))
 aP))))
 (aH (aM cH))))))))))))))))))
end
theorem zz3 {l : PySem.W.OpenLaw} {w : World} {K : W.Frag} {h : Heap} {mg : Str → Option Value} {fa f0 f1 f2 f3 f4 f5 f6 f7 f8 f9 f10 f11 f12 f13 f14 f15 f16 f17 f18 f19 f20 f21 f22 f23 f24 f25 f26 f27 f28 f29 f30 f31 f32 f33 f34 f35 f36 f37 f38 f39 f40 f41 f42 f43 f44 f45 f46 f47 f48 : Addr} (X : K.In h) (G : h.Ns mainGlobals mg) (hfa : mg "law" = some (.ref fa))
 {od0 an0 od1 an1 od2 an2 od3 an3 od4 an4 od5 an5 od6 an6 od7 an7 od8 an8 od9 an9 od10 an10 od11 an11 od12 an12 od13 an13 od14 an14 od15 an15 od16 an16 od17 an17 od18 an18 od19 an19 od20 an20 od21 an21 od22 an22 od23 an23 od24 an24 od25 an25 od26 an26 od27 an27 od28 an28 od29 an29 od30 an30 od31 an31 od32 an32 od33 an33 od34 an34 od35 an35 od36 an36 od37 an37 od38 an38 od39 an39 od40 an40 od41 an41 od42 an42 od43 an43 od44 an44 od45 an45 od46 an46 od47 an47 od48 an48 : Option Addr} {sl0 sl1 sl2 sl3 sl4 sl5 sl6 sl7 sl8 sl9 sl10 sl11 sl12 sl13 sl14 sl15 sl16 sl17 sl18 sl19 sl20 sl21 sl22 sl23 sl24 sl25 sl26 sl27 sl28 sl29 sl30 sl31 sl32 sl33 sl34 sl35 sl36 sl37 sl38 sl39 sl40 sl41 sl42 sl43 sl44 sl45 sl46 sl47 sl48 : Array (Option Value)} {oc0 kV0 dc0 pm0 cd0 ct0 oc1 kV1 dc1 pm1 cd1 ct1 oc2 kV2 dc2 pm2 cd2 ct2 oc3 kV3 dc3 pm3 cd3 ct3 oc4 kV4 dc4 pm4 cd4 ct4 oc5 kV5 dc5 pm5 cd5 ct5 oc6 kV6 dc6 pm6 cd6 ct6 oc7 kV7 dc7 pm7 cd7 ct7 oc8 kV8 dc8 pm8 cd8 ct8 oc9 kV9 dc9 pm9 cd9 ct9 oc10 kV10 dc10 pm10 cd10 ct10 oc11 kV11 dc11 pm11 cd11 ct11 oc12 kV12 dc12 pm12 cd12 ct12 oc13 kV13 dc13 pm13 cd13 ct13 oc14 kV14 dc14 pm14 cd14 ct14 oc15 kV15 dc15 pm15 cd15 ct15 oc16 kV16 dc16 pm16 cd16 ct16 oc17 kV17 dc17 pm17 cd17 ct17 oc18 kV18 dc18 pm18 cd18 ct18 oc19 kV19 dc19 pm19 cd19 ct19 oc20 kV20 dc20 pm20 cd20 ct20 oc21 kV21 dc21 pm21 cd21 ct21 oc22 kV22 dc22 pm22 cd22 ct22 oc23 kV23 dc23 pm23 cd23 ct23 oc24 kV24 dc24 pm24 cd24 ct24 oc25 kV25 dc25 pm25 cd25 ct25 oc26 kV26 dc26 pm26 cd26 ct26 oc27 kV27 dc27 pm27 cd27 ct27 oc28 kV28 dc28 pm28 cd28 ct28 oc29 kV29 dc29 pm29 cd29 ct29 oc30 kV30 dc30 pm30 cd30 ct30 oc31 kV31 dc31 pm31 cd31 ct31 oc32 kV32 dc32 pm32 cd32 ct32 oc33 kV33 dc33 pm33 cd33 ct33 oc34 kV34 dc34 pm34 cd34 ct34 oc35 kV35 dc35 pm35 cd35 ct35 oc36 kV36 dc36 pm36 cd36 ct36 oc37 kV37 dc37 pm37 cd37 ct37 oc38 kV38 dc38 pm38 cd38 ct38 oc39 kV39 dc39 pm39 cd39 ct39 oc40 kV40 dc40 pm40 cd40 ct40 oc41 kV41 dc41 pm41 cd41 ct41 oc42 kV42 dc42 pm42 cd42 ct42 oc43 kV43 dc43 pm43 cd43 ct43 oc44 kV44 dc44 pm44 cd44 ct44 oc45 kV45 dc45 pm45 cd45 ct45 oc46 kV46 dc46 pm46 cd46 ct46 oc47 kV47 dc47 pm47 cd47 ct47 oc48 kV48 dc48 pm48 cd48 ct48 : Value}
 {C0 : Addr} (aC : W.nsIn K mainGlobals "Hand" = some (some (.ref C0)))
 (a0 : W.nsIn K mainGlobals "_law_marks" = some (some (.ref f0))) (l0 : K.lookup f0 = some ⟨oc0, od0, .func (W.fnOf "_law_marks" "_law_marks" (aX jO) (aQ jO) (aK jO) .none kV0 dc0 pm0 an0 cd0 ct0), sl0⟩) (c0 : W.codeIn K cd0 "_law_marks" = true) (k0 : W.keepIn K (.ref f0) = true)
 (a1 : W.nsIn K mainGlobals "_law_drawn_deeds" = some (some (.ref f1))) (l1 : K.lookup f1 = some ⟨oc1, od1, .func (W.fnOf "_law_drawn_deeds" "_law_drawn_deeds" (aX dX) (aQ dX) (aK dX) .none kV1 dc1 pm1 an1 cd1 ct1), sl1⟩) (c1 : W.codeIn K cd1 "_law_drawn_deeds" = true) (k1 : W.keepIn K (.ref f1) = true)
 (a2 : W.findIn K (.ref C0) "__init__" = some (some (.ref f2))) (i2 : W.isFn K (.ref f2) = true) (l2 : K.lookup f2 = some ⟨oc2, od2, .func (W.fnOf "__init__" "Hand.__init__" (aX jP) (aQ jP) (aK jP) .none kV2 dc2 pm2 an2 cd2 ct2), sl2⟩) (c2 : W.codeIn K cd2 "Hand.__init__" = true) (k2 : W.keepIn K (.ref f2) = true)
 (a3 : W.nsIn K mainGlobals "begun" = some (some (.ref f3))) (l3 : K.lookup f3 = some ⟨oc3, od3, .func (W.fnOf "begun" "begun" (aX uC) (aQ uC) (aK uC) .none kV3 dc3 pm3 an3 cd3 ct3), sl3⟩) (c3 : W.codeIn K cd3 "begun" = true) (k3 : W.keepIn K (.ref f3) = true)
 (a4 : W.nsIn K mainGlobals "place_or_none" = some (some (.ref f4))) (l4 : K.lookup f4 = some ⟨oc4, od4, .func (W.fnOf "place_or_none" "place_or_none" (aX eZ) (aQ eZ) (aK eZ) .none kV4 dc4 pm4 an4 cd4 ct4), sl4⟩) (c4 : W.codeIn K cd4 "place_or_none" = true) (k4 : W.keepIn K (.ref f4) = true)
 (a5 : W.nsIn K mainGlobals "place_of" = some (some (.ref f5))) (l5 : K.lookup f5 = some ⟨oc5, od5, .func (W.fnOf "place_of" "place_of" (aX jC) (aQ jC) (aK jC) .none kV5 dc5 pm5 an5 cd5 ct5), sl5⟩) (c5 : W.codeIn K cd5 "place_of" = true) (k5 : W.keepIn K (.ref f5) = true)
 (a6 : W.nsIn K mainGlobals "with_cut" = some (some (.ref f6))) (l6 : K.lookup f6 = some ⟨oc6, od6, .func (W.fnOf "with_cut" "with_cut" (aX jD) (aQ jD) (aK jD) .none kV6 dc6 pm6 an6 cd6 ct6), sl6⟩) (c6 : W.codeIn K cd6 "with_cut" = true) (k6 : W.keepIn K (.ref f6) = true)
 (a7 : W.nsIn K mainGlobals "place_behind" = some (some (.ref f7))) (l7 : K.lookup f7 = some ⟨oc7, od7, .func (W.fnOf "place_behind" "place_behind" (aX eU) (aQ eU) (aK eU) .none kV7 dc7 pm7 an7 cd7 ct7), sl7⟩) (c7 : W.codeIn K cd7 "place_behind" = true) (k7 : W.keepIn K (.ref f7) = true)
 (a8 : W.nsIn K mainGlobals "later" = some (some (.ref f8))) (l8 : K.lookup f8 = some ⟨oc8, od8, .func (W.fnOf "later" "later" (aX uD) (aQ uD) (aK uD) .none kV8 dc8 pm8 an8 cd8 ct8), sl8⟩) (c8 : W.codeIn K cd8 "later" = true) (k8 : W.keepIn K (.ref f8) = true)
 (a9 : W.nsIn K mainGlobals "past_later" = some (some (.ref f9))) (l9 : K.lookup f9 = some ⟨oc9, od9, .func (W.fnOf "past_later" "past_later" (aX hV) (aQ hV) (aK hV) .none kV9 dc9 pm9 an9 cd9 ct9), sl9⟩) (c9 : W.codeIn K cd9 "past_later" = true) (k9 : W.keepIn K (.ref f9) = true)
 (a10 : W.nsIn K mainGlobals "with_put" = some (some (.ref f10))) (l10 : K.lookup f10 = some ⟨oc10, od10, .func (W.fnOf "with_put" "with_put" (aX jE) (aQ jE) (aK jE) .none kV10 dc10 pm10 an10 cd10 ct10), sl10⟩) (c10 : W.codeIn K cd10 "with_put" = true) (k10 : W.keepIn K (.ref f10) = true)
 (a11 : W.nsIn K mainGlobals "heard" = some (some (.ref f11))) (l11 : K.lookup f11 = some ⟨oc11, od11, .func (W.fnOf "heard" "heard" (aX rJ) (aQ rJ) (aK rJ) .none kV11 dc11 pm11 an11 cd11 ct11), sl11⟩) (c11 : W.codeIn K cd11 "heard" = true) (k11 : W.keepIn K (.ref f11) = true)
 (a12 : W.findIn K (.ref C0) "hear" = some (some (.ref f12))) (i12 : W.isFn K (.ref f12) = true) (l12 : K.lookup f12 = some ⟨oc12, od12, .func (W.fnOf "hear" "Hand.hear" (aX gT) (aQ gT) (aK gT) .none kV12 dc12 pm12 an12 cd12 ct12), sl12⟩) (c12 : W.codeIn K cd12 "Hand.hear" = true) (k12 : W.keepIn K (.ref f12) = true)
 (a13 : W.findIn K (.ref C0) "hear_all" = some (some (.ref f13))) (i13 : W.isFn K (.ref f13) = true) (l13 : K.lookup f13 = some ⟨oc13, od13, .func (W.fnOf "hear_all" "Hand.hear_all" (aX fA) (aQ fA) (aK fA) .none kV13 dc13 pm13 an13 cd13 ct13), sl13⟩) (c13 : W.codeIn K cd13 "Hand.hear_all" = true) (k13 : W.keepIn K (.ref f13) = true)
 (a14 : W.nsIn K mainGlobals "standing" = some (some (.ref f14))) (l14 : K.lookup f14 = some ⟨oc14, od14, .func (W.fnOf "standing" "standing" (aX kL) (aQ kL) (aK kL) .none kV14 dc14 pm14 an14 cd14 ct14), sl14⟩) (c14 : W.codeIn K cd14 "standing" = true) (k14 : W.keepIn K (.ref f14) = true)
 (a15 : W.nsIn K mainGlobals "just_ahead" = some (some (.ref f15))) (l15 : K.lookup f15 = some ⟨oc15, od15, .func (W.fnOf "just_ahead" "just_ahead" (aX hW) (aQ hW) (aK hW) .none kV15 dc15 pm15 an15 cd15 ct15), sl15⟩) (c15 : W.codeIn K cd15 "just_ahead" = true) (k15 : W.keepIn K (.ref f15) = true)
 (a16 : W.nsIn K mainGlobals "fresh" = some (some (.ref f16))) (l16 : K.lookup f16 = some ⟨oc16, od16, .func (W.fnOf "fresh" "fresh" (aX uE) (aQ uE) (aK uE) .none kV16 dc16 pm16 an16 cd16 ct16), sl16⟩) (c16 : W.codeIn K cd16 "fresh" = true) (k16 : W.keepIn K (.ref f16) = true)
 (a17 : W.nsIn K mainGlobals "written" = some (some (.ref f17))) (l17 : K.lookup f17 = some ⟨oc17, od17, .func (W.fnOf "written" "written" (aX nD) (aQ nD) (aK nD) .none kV17 dc17 pm17 an17 cd17 ct17), sl17⟩) (c17 : W.codeIn K cd17 "written" = true) (k17 : W.keepIn K (.ref f17) = true)
 (a18 : W.findIn K (.ref C0) "write" = some (some (.ref f18))) (i18 : W.isFn K (.ref f18) = true) (l18 : K.lookup f18 = some ⟨oc18, od18, .func (W.fnOf "write" "Hand.write" (aX hX) (aQ hX) (aK hX) .none kV18 dc18 pm18 an18 cd18 ct18), sl18⟩) (c18 : W.codeIn K cd18 "Hand.write" = true) (k18 : W.keepIn K (.ref f18) = true)
 (a19 : W.nsIn K mainGlobals "rubbed" = some (some (.ref f19))) (l19 : K.lookup f19 = some ⟨oc19, od19, .func (W.fnOf "rubbed" "rubbed" (aX pY) (aQ pY) (aK pY) .none kV19 dc19 pm19 an19 cd19 ct19), sl19⟩) (c19 : W.codeIn K cd19 "rubbed" = true) (k19 : W.keepIn K (.ref f19) = true)
 (a20 : W.findIn K (.ref C0) "rub" = some (some (.ref f20))) (i20 : W.isFn K (.ref f20) = true) (l20 : K.lookup f20 = some ⟨oc20, od20, .func (W.fnOf "rub" "Hand.rub" (aX kM) (aQ kM) (aK kM) .none kV20 dc20 pm20 an20 cd20 ct20), sl20⟩) (c20 : W.codeIn K cd20 "Hand.rub" = true) (k20 : W.keepIn K (.ref f20) = true)
 (a21 : W.nsIn K mainGlobals "told" = some (some (.ref f21))) (l21 : K.lookup f21 = some ⟨oc21, od21, .func (W.fnOf "told" "told" (aX zU) (aQ zU) (aK zU) .none kV21 dc21 pm21 an21 cd21 ct21), sl21⟩) (c21 : W.codeIn K cd21 "told" = true) (k21 : W.keepIn K (.ref f21) = true)
 (a22 : W.nsIn K mainGlobals "done" = some (some (.ref f22))) (l22 : K.lookup f22 = some ⟨oc22, od22, .func (W.fnOf "done" "done" (aX zV) (aQ zV) (aK zV) .none kV22 dc22 pm22 an22 cd22 ct22), sl22⟩) (c22 : W.codeIn K cd22 "done" = true) (k22 : W.keepIn K (.ref f22) = true)
 (a23 : W.nsIn K mainGlobals "story" = some (some (.ref f23))) (l23 : K.lookup f23 = some ⟨oc23, od23, .func (W.fnOf "story" "story" (aX uF) (aQ uF) (aK uF) .none kV23 dc23 pm23 an23 cd23 ct23), sl23⟩) (c23 : W.codeIn K cd23 "story" = true) (k23 : W.keepIn K (.ref f23) = true)
 (a24 : W.nsIn K mainGlobals "hands_after" = some (some (.ref f24))) (l24 : K.lookup f24 = some ⟨oc24, od24, .func (W.fnOf "hands_after" "hands_after" (aX gE) (aQ gE) (aK gE) .none kV24 dc24 pm24 an24 cd24 ct24), sl24⟩) (c24 : W.codeIn K cd24 "hands_after" = true) (k24 : W.keepIn K (.ref f24) = true)
 (a25 : W.nsIn K mainGlobals "held" = some (some (.ref f25))) (l25 : K.lookup f25 = some ⟨oc25, od25, .func (W.fnOf "held" "held" (aX zW) (aQ zW) (aK zW) .none kV25 dc25 pm25 an25 cd25 ct25), sl25⟩) (c25 : W.codeIn K cd25 "held" = true) (k25 : W.keepIn K (.ref f25) = true)
 (a26 : W.nsIn K mainGlobals "ends" = some (some (.ref f26))) (l26 : K.lookup f26 = some ⟨oc26, od26, .func (W.fnOf "ends" "ends" (aX zX) (aQ zX) (aK zX) .none kV26 dc26 pm26 an26 cd26 ct26), sl26⟩) (c26 : W.codeIn K cd26 "ends" = true) (k26 : W.keepIn K (.ref f26) = true)
 (a27 : W.nsIn K mainGlobals "words" = some (some (.ref f27))) (l27 : K.lookup f27 = some ⟨oc27, od27, .func (W.fnOf "words" "words" (aX uG) (aQ uG) (aK uG) .none kV27 dc27 pm27 an27 cd27 ct27), sl27⟩) (c27 : W.codeIn K cd27 "words" = true) (k27 : W.keepIn K (.ref f27) = true)
 (a28 : W.nsIn K mainGlobals "texts" = some (some (.ref f28))) (l28 : K.lookup f28 = some ⟨oc28, od28, .func (W.fnOf "texts" "texts" (aX uH) (aQ uH) (aK uH) .none kV28 dc28 pm28 an28 cd28 ct28), sl28⟩) (c28 : W.codeIn K cd28 "texts" = true) (k28 : W.keepIn K (.ref f28) = true)
 (a29 : W.nsIn K mainGlobals "_law_whole" = some (some (.ref f29))) (l29 : K.lookup f29 = some ⟨oc29, od29, .func (W.fnOf "_law_whole" "_law_whole" (aX jQ) (aQ jQ) (aK jQ) .none kV29 dc29 pm29 an29 cd29 ct29), sl29⟩) (c29 : W.codeIn K cd29 "_law_whole" = true) (k29 : W.keepIn K (.ref f29) = true)
 (a30 : W.nsIn K mainGlobals "_law_kept" = some (some (.ref f30))) (l30 : K.lookup f30 = some ⟨oc30, od30, .func (W.fnOf "_law_kept" "_law_kept" (aX kN) (aQ kN) (aK kN) .none kV30 dc30 pm30 an30 cd30 ct30), sl30⟩) (c30 : W.codeIn K cd30 "_law_kept" = true) (k30 : W.keepIn K (.ref f30) = true)
 (a31 : W.nsIn K mainGlobals "_law_is_tag" = some (some (.ref f31))) (l31 : K.lookup f31 = some ⟨oc31, od31, .func (W.fnOf "_law_is_tag" "_law_is_tag" (aX hZ) (aQ hZ) (aK hZ) .none kV31 dc31 pm31 an31 cd31 ct31), sl31⟩) (c31 : W.codeIn K cd31 "_law_is_tag" = true) (k31 : W.keepIn K (.ref f31) = true)
 (a32 : W.nsIn K mainGlobals "_law_is_sheet" = some (some (.ref f32))) (l32 : K.lookup f32 = some ⟨oc32, od32, .func (W.fnOf "_law_is_sheet" "_law_is_sheet" (aX fU) (aQ fU) (aK fU) .none kV32 dc32 pm32 an32 cd32 ct32), sl32⟩) (c32 : W.codeIn K cd32 "_law_is_sheet" = true) (k32 : W.keepIn K (.ref f32) = true)
 (a33 : W.nsIn K mainGlobals "_law_knows" = some (some (.ref f33))) (l33 : K.lookup f33 = some ⟨oc33, od33, .func (W.fnOf "_law_knows" "_law_knows" (aX jR) (aQ jR) (aK jR) .none kV33 dc33 pm33 an33 cd33 ct33), sl33⟩) (c33 : W.codeIn K cd33 "_law_knows" = true) (k33 : W.keepIn K (.ref f33) = true)
 (a34 : W.nsIn K mainGlobals "_law_shared" = some (some (.ref f34))) (l34 : K.lookup f34 = some ⟨oc34, od34, .func (W.fnOf "_law_shared" "_law_shared" (aX iA) (aQ iA) (aK iA) .none kV34 dc34 pm34 an34 cd34 ct34), sl34⟩) (c34 : W.codeIn K cd34 "_law_shared" = true) (k34 : W.keepIn K (.ref f34) = true)
 (a35 : W.nsIn K mainGlobals "_law_is_slip" = some (some (.ref f35))) (l35 : K.lookup f35 = some ⟨oc35, od35, .func (W.fnOf "_law_is_slip" "_law_is_slip" (aX gF) (aQ gF) (aK gF) .none kV35 dc35 pm35 an35 cd35 ct35), sl35⟩) (c35 : W.codeIn K cd35 "_law_is_slip" = true) (k35 : W.keepIn K (.ref f35) = true)
 (a36 : W.nsIn K mainGlobals "_law_are_slips" = some (some (.ref f36))) (l36 : K.lookup f36 = some ⟨oc36, od36, .func (W.fnOf "_law_are_slips" "_law_are_slips" (aX fB) (aQ fB) (aK fB) .none kV36 dc36 pm36 an36 cd36 ct36), sl36⟩) (c36 : W.codeIn K cd36 "_law_are_slips" = true) (k36 : W.keepIn K (.ref f36) = true)
 (a37 : W.nsIn K mainGlobals "_law_so" = some (some (.ref f37))) (l37 : K.lookup f37 = some ⟨oc37, od37, .func (W.fnOf "_law_so" "_law_so" (aX pZ) (aQ pZ) (aK pZ) .none kV37 dc37 pm37 an37 cd37 ct37), sl37⟩) (c37 : W.codeIn K cd37 "_law_so" = true) (k37 : W.keepIn K (.ref f37) = true)
 (a38 : W.nsIn K mainGlobals "_law_made" = some (some (.ref f38))) (l38 : K.lookup f38 = some ⟨oc38, od38, .func (W.fnOf "_law_made" "_law_made" (aX kO) (aQ kO) (aK kO) .none kV38 dc38 pm38 an38 cd38 ct38), sl38⟩) (c38 : W.codeIn K cd38 "_law_made" = true) (k38 : W.keepIn K (.ref f38) = true)
 (a39 : W.nsIn K mainGlobals "_law_one_told" = some (some (.ref f39))) (l39 : K.lookup f39 = some ⟨oc39, od39, .func (W.fnOf "_law_one_told" "_law_one_told" (aX fV) (aQ fV) (aK fV) .none kV39 dc39 pm39 an39 cd39 ct39), sl39⟩) (c39 : W.codeIn K cd39 "_law_one_told" = true) (k39 : W.keepIn K (.ref f39) = true)
 (a40 : W.nsIn K mainGlobals "_law_seen" = some (some (.ref f40))) (l40 : K.lookup f40 = some ⟨oc40, od40, .func (W.fnOf "_law_seen" "_law_seen" (aX kP) (aQ kP) (aK kP) .none kV40 dc40 pm40 an40 cd40 ct40), sl40⟩) (c40 : W.codeIn K cd40 "_law_seen" = true) (k40 : W.keepIn K (.ref f40) = true)
 (a41 : W.nsIn K mainGlobals "_law_due_slips" = some (some (.ref f41))) (l41 : K.lookup f41 = some ⟨oc41, od41, .func (W.fnOf "_law_due_slips" "_law_due_slips" (aX fE) (aQ fE) (aK fE) .none kV41 dc41 pm41 an41 cd41 ct41), sl41⟩) (c41 : W.codeIn K cd41 "_law_due_slips" = true) (k41 : W.keepIn K (.ref f41) = true)
 (a42 : W.nsIn K mainGlobals "_law_step" = some (some (.ref f42))) (l42 : K.lookup f42 = some ⟨oc42, od42, .func (W.fnOf "_law_step" "_law_step" (aX kQ) (aQ kQ) (aK kQ) .none kV42 dc42 pm42 an42 cd42 ct42), sl42⟩) (c42 : W.codeIn K cd42 "_law_step" = true) (k42 : W.keepIn K (.ref f42) = true)
 (a43 : W.nsIn K mainGlobals "_law_after" = some (some (.ref f43))) (l43 : K.lookup f43 = some ⟨oc43, od43, .func (W.fnOf "_law_after" "_law_after" (aX jS) (aQ jS) (aK jS) .none kV43 dc43 pm43 an43 cd43 ct43), sl43⟩) (c43 : W.codeIn K cd43 "_law_after" = true) (k43 : W.keepIn K (.ref f43) = true)
 (a44 : W.nsIn K mainGlobals "_law_walk" = some (some (.ref f44))) (l44 : K.lookup f44 = some ⟨oc44, od44, .func (W.fnOf "_law_walk" "_law_walk" (aX kR) (aQ kR) (aK kR) .none kV44 dc44 pm44 an44 cd44 ct44), sl44⟩) (c44 : W.codeIn K cd44 "_law_walk" = true) (k44 : W.keepIn K (.ref f44) = true)
 (a45 : W.nsIn K mainGlobals "_law_right_sheet" = some (some (.ref f45))) (l45 : K.lookup f45 = some ⟨oc45, od45, .func (W.fnOf "_law_right_sheet" "_law_right_sheet" (aX dY) (aQ dY) (aK dY) .none kV45 dc45 pm45 an45 cd45 ct45), sl45⟩) (c45 : W.codeIn K cd45 "_law_right_sheet" = true) (k45 : W.keepIn K (.ref f45) = true)
 (a46 : W.nsIn K mainGlobals "_law_at" = some (some (.ref f46))) (l46 : K.lookup f46 = some ⟨oc46, od46, .func (W.fnOf "_law_at" "_law_at" (aX qA) (aQ qA) (aK qA) .none kV46 dc46 pm46 an46 cd46 ct46), sl46⟩) (c46 : W.codeIn K cd46 "_law_at" = true) (k46 : W.keepIn K (.ref f46) = true)
 (a47 : W.nsIn K mainGlobals "_law_room" = some (some (.ref f47))) (l47 : K.lookup f47 = some ⟨oc47, od47, .func (W.fnOf "_law_room" "_law_room" (aX kS) (aQ kS) (aK kS) .none kV47 dc47 pm47 an47 cd47 ct47), sl47⟩) (c47 : W.codeIn K cd47 "_law_room" = true) (k47 : W.keepIn K (.ref f47) = true)
 (a48 : W.nsIn K mainGlobals "law" = some (some (.ref f48))) (l48 : K.lookup f48 = some ⟨oc48, od48, .func (W.fnOf "law" "law" (aX xX) (aQ xX) (aK xX) .none kV48 dc48 pm48 an48 cd48 ct48), sl48⟩) (c48 : W.codeIn K cd48 "law" = true) (k48 : W.keepIn K (.ref f48) = true)
 (pg : PySem.W.plainGet K C0 Str.empty = true) (hd : PySem.W.hasDictIn K C0 = true) (po : PySem.W.plainOver K C0 = true) (sa : W.findIn K (.ref C0) "__setattr__" = some (some (.builtin "object.__setattr__"))) (mk : PySem.W.makesIn K C0 = true) (kc : W.keepIn K (.ref C0) = true)
 (n1 : W.findIn K (.ref C0) "number" = some none) (n2 : W.findIn K (.ref C0) "rows" = some none) (n3 : W.findIn K (.ref C0) "slips" = some none)
 (z_bool : W.nsIn K mainGlobals "bool" = some none)
 (z_dict : W.nsIn K mainGlobals "dict" = some none)
 (z_enumerate : W.nsIn K mainGlobals "enumerate" = some none)
 (z_int : W.nsIn K mainGlobals "int" = some none)
 (z_isinstance : W.nsIn K mainGlobals "isinstance" = some none)
 (z_len : W.nsIn K mainGlobals "len" = some none)
 (z_list : W.nsIn K mainGlobals "list" = some none)
 (z_max : W.nsIn K mainGlobals "max" = some none)
 (z_min : W.nsIn K mainGlobals "min" = some none)
 (z_range : W.nsIn K mainGlobals "range" = some none)
 (z_str : W.nsIn K mainGlobals "str" = some none)
 (z_tuple : W.nsIn K mainGlobals "tuple" = some none)
 {A_BEGINNING : Addr} {O_BEGINNING : Obj} (y_BEGINNING : W.nsIn K mainGlobals "BEGINNING" = some (some (.ref A_BEGINNING))) (x_BEGINNING : K.lookup A_BEGINNING = some O_BEGINNING) (v_BEGINNING : zb2 O_BEGINNING 0 0 = true)
 {E_QuillError : Addr} (eC_QuillError : W.nsIn K mainGlobals "QuillError" = some (some (.ref E_QuillError)))
 {E_NotYet : Addr} (eC_NotYet : W.nsIn K mainGlobals "NotYet" = some (some (.ref E_NotYet)))
 {E_Clash : Addr} (eC_Clash : W.nsIn K mainGlobals "Clash" = some (some (.ref E_Clash)))
 {E_Backwards : Addr} (eC_Backwards : W.nsIn K mainGlobals "Backwards" = some (some (.ref E_Backwards)))
 (eq_NotYet : PySem.W.excIn K E_NotYet zg0 "ValueError.__new__" = true)
 (eq_Clash : PySem.W.excIn K E_Clash zg0 "ValueError.__new__" = true)
 (eq_Backwards : PySem.W.excIn K E_Backwards zg0 "ValueError.__new__" = true)
 (em_QuillError_QuillError : PySem.W.exmOne K (.ref E_QuillError) (.ref E_QuillError) = some true)
 (em_NotYet_QuillError : PySem.W.exmOne K (.ref E_NotYet) (.ref E_QuillError) = some true)
 (em_Clash_QuillError : PySem.W.exmOne K (.ref E_Clash) (.ref E_QuillError) = some true)
 (em_Backwards_QuillError : PySem.W.exmOne K (.ref E_Backwards) (.ref E_QuillError) = some true)
 : ∃ fd : FuncData, (∀ (s : Shared) (v : Value), BindsTo s fd ⟨[v], []⟩ [("_law_script", v)]) ∧ ∀ base : Heap, K.In base → base.Ns mainGlobals mg → FnOk l.prog w K mg base CX0 12 fa fd ["_law_script"] (lSp K zb8) := by
 have e := hfa.symm.trans (W.mg_of X G a48)
 cases e
 have T : Txt K mg := ⟨W.mg_none_of X G z_bool, W.mg_none_of X G z_dict, W.mg_none_of X G z_enumerate, W.mg_none_of X G z_int, W.mg_none_of X G z_isinstance, W.mg_none_of X G z_len, W.mg_none_of X G z_list, W.mg_none_of X G z_max, W.mg_none_of X G z_min, W.mg_none_of X G z_range, W.mg_none_of X G z_str, W.mg_none_of X G z_tuple, ⟨A_BEGINNING, W.mg_of X G y_BEGINNING, zl1 x_BEGINNING v_BEGINNING⟩⟩
 have HC : HandCls K C0 := ⟨aC, ⟨pg, hd, po, sa⟩, n1, n2, n3⟩
 have XC : Exc K mg := ⟨⟨E_NotYet, W.mg_of X G eC_NotYet, eq_NotYet⟩,
  ⟨E_Clash, W.mg_of X G eC_Clash, eq_Clash⟩,
  ⟨E_Backwards, W.mg_of X G eC_Backwards, eq_Backwards⟩,
  catch_of (W.mg_of X G eC_QuillError) ⟨⟨E_QuillError, W.mg_of X G eC_QuillError, em_QuillError_QuillError⟩, ⟨E_NotYet, W.mg_of X G eC_NotYet, em_NotYet_QuillError⟩, ⟨E_Clash, W.mg_of X G eC_Clash, em_Clash_QuillError⟩, ⟨E_Backwards, W.mg_of X G eC_Backwards, em_Backwards_QuillError⟩, trivial⟩⟩
 have F0 := bO (st := jO) l0 c0 k0
 have b0 := F0.bi0 []
 have F1 := bO (st := dX) l1 c1 k1
 have b1 := F1.bi2 ["_law_cells", "_law_many"]
 have F2 := bO (st := jP) l2 c2 k2
 have b2 := F2.bi2 ["self", "number"]
 have F3 := bO (st := uC) l3 c3 k3
 have b3 := F3.bi1 ["many"]
 have F4 := bO (st := eZ) l4 c4 k4
 have b4 := F4.bi2 ["rows", "tag"]
 have F5 := bO (st := jC) l5 c5 k5
 have b5 := F5.bi2 ["rows", "tag"]
 have F6 := bO (st := jD) l6 c6 k6
 have b6 := F6.bi2 ["rows", "tag"]
 have F7 := bO (st := eU) l7 c7 k7
 have b7 := F7.bi2 ["rows", "behind"]
 have F8 := bO (st := uD) l8 c8 k8
 have b8 := F8.bi2 ["one", "other"]
 have F9 := bO (st := hV) l9 c9 k9
 have b9 := F9.bi3 ["rows", "place", "tag"]
 have F10 := bO (st := jE) l10 c10 k10
 have b10 := F10.bi4 ["rows", "tag", "behind", "sign"]
 have F11 := bO (st := rJ) l11 c11 k11
 have b11 := F11.bi2 ["rows", "slip"]
 have F12 := bO (st := gT) l12 c12 k12
 have b12 := F12.bi2 ["self", "slip"]
 have F13 := bO (st := fA) l13 c13 k13
 have b13 := F13.bi2 ["self", "slips"]
 have F14 := bO (st := kL) l14 c14 k14
 have b14 := F14.bi1 ["rows"]
 have F15 := bO (st := hW) l15 c15 k15
 have b15 := F15.bi2 ["rows", "place"]
 have F16 := bO (st := uE) l16 c16 k16
 have b16 := F16.bi2 ["rows", "number"]
 have F17 := bO (st := nD) l17 c17 k17
 have b17 := F17.bi4 ["rows", "number", "place", "signs"]
 have F18 := bO (st := hX) l18 c18 k18
 have b18 := F18.bi3 ["self", "place", "signs"]
 have F19 := bO (st := pY) l19 c19 k19
 have b19 := F19.bi3 ["rows", "place", "many"]
 have F20 := bO (st := kM) l20 c20 k20
 have b20 := F20.bi3 ["self", "place", "many"]
 have F21 := bO (st := zU) l21 c21 k21
 have b21 := F21.bi3 ["giver", "taker", "which"]
 have F22 := bO (st := zV) l22 c22 k22
 have b22 := F22.bi2 ["hands", "deed"]
 have F23 := bO (st := uF) l23 c23 k23
 have b23 := F23.bi2 ["many", "deeds"]
 have F24 := bO (st := gE) l24 c24 k24
 have b24 := F24.bi2 ["many", "deeds"]
 have F25 := bO (st := zW) l25 c25 k25
 have b25 := F25.bi2 ["many", "deeds"]
 have F26 := bO (st := zX) l26 c26 k26
 have b26 := F26.bi2 ["many", "deeds"]
 have F27 := bO (st := uG) l27 c27 k27
 have b27 := F27.bi1 ["rows"]
 have F28 := bO (st := uH) l28 c28 k28
 have b28 := F28.bi2 ["many", "deeds"]
 have F29 := bO (st := jQ) l29 c29 k29
 have b29 := F29.bi1 ["_law_found"]
 have F30 := bO (st := kN) l30 c30 k30
 have b30 := F30.bi2 ["_law_handed", "_law_deeds"]
 have F31 := bO (st := hZ) l31 c31 k31
 have b31 := F31.bi1 ["_law_found"]
 have F32 := bO (st := fU) l32 c32 k32
 have b32 := F32.bi1 ["_law_found"]
 have F33 := bO (st := jR) l33 c33 k33
 have b33 := F33.bi2 ["_law_book", "_law_slip"]
 have F34 := bO (st := iA) l34 c34 k34
 have b34 := F34.bi3 ["_law_book", "_law_giver", "_law_told"]
 have F35 := bO (st := gF) l35 c35 k35
 have b35 := F35.bi1 ["_law_slip"]
 have F36 := bO (st := fB) l36 c36 k36
 have b36 := F36.bi1 ["_law_found"]
 have F37 := bO (st := pZ) l37 c37 k37
 have b37 := F37.bi2 ["_law_found", "_law_meant"]
 have F38 := bO (st := kO) l38 c38 k38
 have b38 := F38.bi3 ["_law_book", "_law_told", "_law_due"]
 have F39 := bO (st := fV) l39 c39 k39
 have b39 := F39.bi4 ["_law_book", "_law_giver", "_law_which", "_law_told"]
 have F40 := bO (st := kP) l40 c40 k40
 have b40 := F40.bi2 ["_law_rows", "_law_book"]
 have F41 := bO (st := fE) l41 c41 k41
 have b41 := F41.bi3 ["_law_rows", "_law_book", "_law_deed"]
 have F42 := bO (st := kQ) l42 c42 k42
 have b42 := F42.bi4 ["_law_sheets", "_law_books", "_law_deed", "_law_told"]
 have F43 := bO (st := jS) l43 c43 k43
 have b43 := F43.bi2 ["_law_one", "_law_other"]
 have F44 := bO (st := kR) l44 c44 k44
 have b44 := F44.bi1 ["_law_rows"]
 have F45 := bO (st := dY) l45 c45 k45
 have b45 := F45.bi3 ["_law_rows", "_law_line", "_law_book"]
 have F46 := bO (st := qA) l46 c46 k46
 have b46 := F46.bi2 ["_law_script", "_law_k"]
 have F47 := bO (st := kS) l47 c47 k47
 have b47 := F47.bi3 ["_law_script", "_law_most", "_law_bound"]
 have F48 := bO (st := xX) l48 c48 k48
 refine ⟨W.fnOf "law" "law" (aX xX) (aQ xX) (aK xX) .none kV48 dc48 pm48 an48 cd48 ct48, fun s v => .of_eq rfl, fun base _ _ => ?_⟩
 have G_law_marks : Has l.prog w K mg base 1 "_law_marks" [] fH := bW F0 (W.mg_of X G a0) b0 xY zgg (zhs T  _) zgj
 have G_law_drawn_deeds : Has l.prog w K mg base 2 "_law_drawn_deeds" ["_law_cells", "_law_many"] eT := bW F1 (W.mg_of X G a1) b1 nZ vW (wP T G_law_marks _) wB
 have G_Hand_init : HasI l.prog w K mg base 1 C0 "Hand" ["self", "number"] gY := ⟨_, _, zcn F2 xZ zgv (zht T HC  _) zgx, ⟨mk, a2, i2, kc⟩, W.mg_of X G aC, b2⟩
 have G_begun : Has l.prog w K mg base 3 "begun" ["many"] nM := bW F3 (W.mg_of X G a3) b3 zkt ztr (zud T HC G_Hand_init _) ztx
 have G_place_or_none : Has l.prog w K mg base 1 "place_or_none" ["rows", "tag"] bK := bW F4 (W.mg_of X G a4) b4 qB yX (zY T  _) yY
 have G_place_of : Has l.prog w K mg base 2 "place_of" ["rows", "tag"] gP := bW F5 (W.mg_of X G a5) b5 oO ziv (zku T G_place_or_none _) ziy
 have GX_place_of : HasX l.prog w K mg base 2 "place_of" ["rows", "tag"] eB := xL F5 (W.mg_of X G a5) b5 oO zg1 (zkv T XC G_place_or_none _) zg4
 have G_with_cut : Has l.prog w K mg base 3 "with_cut" ["rows", "tag"] lB := bW F6 (W.mg_of X G a6) b6 oP zix (zkw T G_place_of _) zi2
 have GX_with_cut : HasX l.prog w K mg base 3 "with_cut" ["rows", "tag"] hG := xL F6 (W.mg_of X G a6) b6 oP zg3 (zkx T GX_place_of _) zg5
 have G_place_behind : Has l.prog w K mg base 3 "place_behind" ["rows", "behind"] dH := bW F7 (W.mg_of X G a7) b7 iV za1 (zbd T G_place_of _) za4
 have GX_place_behind : HasX l.prog w K mg base 3 "place_behind" ["rows", "behind"] eM := xL F7 (W.mg_of X G a7) b7 iV zJ (zbe T GX_place_of _) zK
 have G_later : Has l.prog w K mg base 1 "later" ["one", "other"] fS := bW F8 (W.mg_of X G a8) b8 zky zsd (zue T  _) zsi
 have G_past_later : Has l.prog w K mg base 2 "past_later" ["rows", "place", "tag"] iN := bW F9 (W.mg_of X G a9) b9 uZ zdl (zed T G_later _) zdo
 have G_with_put : Has l.prog w K mg base 4 "with_put" ["rows", "tag", "behind", "sign"] fW := bW F10 (W.mg_of X G a10) b10 oQ ziw (zkz T G_place_or_none G_place_behind G_later G_past_later _) zi1
 have GX_with_put : HasX l.prog w K mg base 4 "with_put" ["rows", "tag", "behind", "sign"] gZ := xL F10 (W.mg_of X G a10) b10 oQ zg2 (zk0 T XC G_place_or_none G_place_behind G_later GX_place_behind _) zg6
 have G_heard : Has l.prog w K mg base 5 "heard" ["rows", "slip"] rY := bW F11 (W.mg_of X G a11) b11 yA zsh (zuf T G_with_put G_with_cut _) zsj
 have GX_heard : HasX l.prog w K mg base 5 "heard" ["rows", "slip"] nC := xL F11 (W.mg_of X G a11) b11 yA zp2 (zug T G_with_put GX_with_put GX_with_cut _) zp3
 have G_Hand_hear : HasM l.prog w K mg base 6 C0 "hear" ["self", "slip"] gB := ⟨_, _, zcn F12 mX zgw (zhu T HC G_heard _) zgy, ⟨a12, i12, k12⟩, b12⟩
 have GX_Hand_hear : HasXM l.prog w K mg base 6 C0 "hear" ["self", "slip"] iQ := ⟨_, _, zti F12 mX zdx (zhv T HC GX_heard _) zd1, ⟨a12, i12, k12⟩, b12⟩
 have G_Hand_hear_all : HasM l.prog w K mg base 7 C0 "hear_all" ["self", "slips"] cP := ⟨_, _, zcn F13 qC zH (zZ T HC G_Hand_hear _) zI, ⟨a13, i13, k13⟩, b13⟩
 have G_standing : Has l.prog w K mg base 1 "standing" ["rows"] fX := bW F14 (W.mg_of X G a14) b14 zap zi9 (zk1 T  _) zjc
 have G_just_ahead : Has l.prog w K mg base 2 "just_ahead" ["rows", "place"] iO := bW F15 (W.mg_of X G a15) b15 vA zdr (zee T G_standing _) zdt
 have G_fresh : Has l.prog w K mg base 1 "fresh" ["rows", "number"] sB := bW F16 (W.mg_of X G a16) b16 zk2 zst (zuh T  _) zsx
 have G_written : Has l.prog w K mg base 3 "written" ["rows", "number", "place", "signs"] nK := bW F17 (W.mg_of X G a17) b17 zdb zmc (zm8 T G_just_ahead G_fresh _) zmd
 have G_Hand_write : HasM l.prog w K mg base 8 C0 "write" ["self", "place", "signs"] iP := ⟨_, _, zcn F18 vB zdu (zef T HC G_written G_Hand_hear_all _) zdw, ⟨a18, i18, k18⟩, b18⟩
 have G_rubbed : Has l.prog w K mg base 2 "rubbed" ["rows", "place", "many"] pP := bW F19 (W.mg_of X G a19) b19 zfp zp7 (zqe T G_standing _) zqc
 have G_Hand_rub : HasM l.prog w K mg base 8 C0 "rub" ["self", "place", "many"] lF := ⟨_, _, zcn F20 zaq zjq (zk3 T HC G_rubbed G_Hand_hear_all _) zjt, ⟨a20, i20, k20⟩, b20⟩
 have G_told : Has l.prog w K mg base 7 "told" ["giver", "taker", "which"] xO := bW F21 (W.mg_of X G a21) b21 zoo zwz (zxd T HC XC G_Hand_hear GX_Hand_hear _) zw4
 have G_done : Has l.prog w K mg base 9 "done" ["hands", "deed"] qX := bW F22 (W.mg_of X G a22) b22 zop zw0 (zxe T HC G_Hand_write G_Hand_rub G_told G_Hand_hear_all _) zw5
 have G_story : Has l.prog w K mg base 10 "story" ["many", "deeds"] sM := bW F23 (W.mg_of X G a23) b23 zk4 zts (zui T G_begun G_done _) ztz
 have G_hands_after : Has l.prog w K mg base 10 "hands_after" ["many", "deeds"] dD := bW F24 (W.mg_of X G a24) b24 tL zc0 (zdc T G_begun G_done _) zc3
 have G_held : Has l.prog w K mg base 11 "held" ["many", "deeds"] xP := bW F25 (W.mg_of X G a25) b25 zoq zw1 (zxf T HC G_hands_after _) zw7
 have G_ends : Has l.prog w K mg base 11 "ends" ["many", "deeds"] xQ := bW F26 (W.mg_of X G a26) b26 zor zw2 (zxg T HC G_hands_after _) zw6
 have G_words : Has l.prog w K mg base 1 "words" ["rows"] pQ := bW F27 (W.mg_of X G a27) b27 zk5 ztt (zuj T  _) zt0
 have G_texts : Has l.prog w K mg base 11 "texts" ["many", "deeds"] sN := bW F28 (W.mg_of X G a28) b28 zk6 ztu (zuk T HC G_hands_after G_words _) zt1
 have G_law_whole : Has l.prog w K mg base 1 "_law_whole" ["_law_found"] cU := bW F29 (W.mg_of X G a29) b29 yB zf9 (zhw T  _) zgb
 have G_law_kept : Has l.prog w K mg base 2 "_law_kept" ["_law_handed", "_law_deeds"] lM := bW F30 (W.mg_of X G a30) b30 zar zj2 (zk7 T G_law_whole _) zkr
 have G_law_is_tag : Has l.prog w K mg base 2 "_law_is_tag" ["_law_found"] dB := bW F31 (W.mg_of X G a31) b31 vC zdm (zeg T G_law_whole _) zdn
 have G_law_is_sheet : Has l.prog w K mg base 3 "_law_is_sheet" ["_law_found"] dI := bW F32 (W.mg_of X G a32) b32 rO za2 (zbf T G_law_is_tag _) za3
 have G_law_knows : Has l.prog w K mg base 1 "_law_knows" ["_law_book", "_law_slip"] eE := bW F33 (W.mg_of X G a33) b33 yC zhh (zhx T  _) zho
 have G_law_shared : Has l.prog w K mg base 2 "_law_shared" ["_law_book", "_law_giver", "_law_told"] iR := bW F34 (W.mg_of X G a34) b34 vD zea (zeh T G_law_knows G_law_whole _) zec
 have G_law_is_slip : Has l.prog w K mg base 3 "_law_is_slip" ["_law_slip"] gQ := bW F35 (W.mg_of X G a35) b35 tM zc1 (zdd T G_law_is_tag _) zc4
 have G_law_are_slips : Has l.prog w K mg base 4 "_law_are_slips" ["_law_found"] dM := bW F36 (W.mg_of X G a36) b36 qD zP (zaa T G_law_is_slip _) zQ
 have G_law_so_0 : Has l.prog w K mg base 0 "_law_so" ["_law_found", "_law_meant"] (eY 0) := ⟨_, _, ⟨fun vs H Q E h => (by obtain ⟨_, _, _, _, _, h, _⟩ := h; exact h.elim), fun A outer s H args us vs Q E _ _ _ _ h => (by obtain ⟨_, _, _, _, _, h, _⟩ := h; exact h.elim)⟩, W.mg_of X G a37, F37.kp, b37⟩
 have G_law_so_1 : Has l.prog w K mg base 1 "_law_so" ["_law_found", "_law_meant"] (eY 1) := bW F37 (W.mg_of X G a37) b37 qE (tY 1) (uI T G_law_so_0 _) (uB 0)
 have G_law_so_2 : Has l.prog w K mg base 2 "_law_so" ["_law_found", "_law_meant"] (eY 2) := bW F37 (W.mg_of X G a37) b37 qE (tY 2) (uI T G_law_so_1 _) (uB 1)
 have G_law_so_3 : Has l.prog w K mg base 3 "_law_so" ["_law_found", "_law_meant"] (eY 3) := bW F37 (W.mg_of X G a37) b37 qE (tY 3) (uI T G_law_so_2 _) (uB 2)
 have G_law_so_4 : Has l.prog w K mg base 4 "_law_so" ["_law_found", "_law_meant"] (eY 4) := bW F37 (W.mg_of X G a37) b37 qE (tY 4) (uI T G_law_so_3 _) (uB 3)
 have G_law_so := G_law_so_4
 have G_law_made : Has l.prog w K mg base 5 "_law_made" ["_law_book", "_law_told", "_law_due"] jN := bW F38 (W.mg_of X G a38) b38 zas zj0 (zk8 T G_law_are_slips G_law_so G_law_knows _) zkn
 have G_law_one_told : Has l.prog w K mg base 2 "_law_one_told" ["_law_book", "_law_giver", "_law_which", "_law_told"] gD := bW F39 (W.mg_of X G a39) b39 rP za7 (zbg T G_law_knows _) zbc
 have G_law_seen : Has l.prog w K mg base 1 "_law_seen" ["_law_rows", "_law_book"] lK := bW F40 (W.mg_of X G a40) b40 zat zjz (zk9 T  _) zkp
 have G_law_due_slips : Has l.prog w K mg base 2 "_law_due_slips" ["_law_rows", "_law_book", "_law_deed"] fT := bW F41 (W.mg_of X G a41) b41 qF zR (zab T G_law_seen _) zT
 have G_law_step : Has l.prog w K mg base 6 "_law_step" ["_law_sheets", "_law_books", "_law_deed", "_law_told"] lL := bW F42 (W.mg_of X G a42) b42 zau zj1 (zla T G_law_made G_law_due_slips G_law_one_told G_law_shared _) zkq
 have G_law_after : Has l.prog w K mg base 1 "_law_after" ["_law_one", "_law_other"] hI := bW F43 (W.mg_of X G a43) b43 yD zhi (zhy T  _) zhn
 have G_law_walk : Has l.prog w K mg base 2 "_law_walk" ["_law_rows"] lN := bW F44 (W.mg_of X G a44) b44 zav zj3 (zlb T G_law_after _) zkm
 have G_law_right_sheet : Has l.prog w K mg base 4 "_law_right_sheet" ["_law_rows", "_law_line", "_law_book"] dO := bW F45 (W.mg_of X G a45) b45 oA wE (wQ T G_law_is_sheet G_law_walk _) wO
 have G_law_at : Has l.prog w K mg base 1 "_law_at" ["_law_script", "_law_k"] nB := bW F46 (W.mg_of X G a46) b46 zfq zpj (zqf T  _) zpl
 have G_law_room : Has l.prog w K mg base 1 "_law_room" ["_law_script", "_law_most", "_law_bound"] lG := bW F47 (W.mg_of X G a47) b47 zaw zjr (zlc T  _) zjw
 exact zxs F48 zul zl9 (zz2 T G_law_at G_law_drawn_deeds G_law_room G_story G_held G_law_kept G_ends G_texts G_law_is_sheet G_law_step G_law_are_slips G_law_right_sheet _) zz1
end Lk
noncomputable def PySem.W.Fast.tw16035842357236385858 : Unit := ()
noncomputable def PySem.W.Fast.tw10083789565038187048 : Unit := ()
noncomputable def PySem.W.Fast.tw9047385639454575884 : Unit := ()
noncomputable def PySem.W.Fast.tw6828535473895546478 : Unit := ()
noncomputable def PySem.W.Fast.tw11446189972340262119 : Unit := ()
noncomputable def PySem.W.Fast.tw9229914229177074641 : Unit := ()
noncomputable def PySem.W.Fast.tw16731798898361816327 : Unit := ()
noncomputable def PySem.W.Fast.tw3887266554178416700 : Unit := ()
noncomputable def PySem.W.Fast.tw215452272903190655 : Unit := ()
open PySem PySem.W PyProof.Rows
set_option maxRecDepth 100000 in
set_option maxHeartbeats 0 in
theorem PySem.Challenge.cw_manyquills_k13_cause_ahead_holds : PySem.Challenge.rw_manyquills_k13_cause_ahead.Holds := by
 w_on; o_law; k_head; (case hw => w_witness2)
 k_fill
 refine L2.zvn (l := PySem.Challenge.rw_manyquills_k13_cause_ahead) (n := 63) (k := 12) (x := "_law_script") (CX := fun _ => L2.CX0) (sp := fun w => MQ.lSp _ MQ.zb8) rfl (by decide) rfl ⟨rfl, by decide, by decide⟩ (fun w h Y => PySem.W.kIn_of Y) ?F (fun w H a ns hl hO hS => MQ.zma hl hO hS) (fun _ _ _ _ _ z => z)
 case F =>
  intro w mg fa h KX G hmg
  refine' Lk.zz3 KX G hmg ?aC ?a0 ?l0 ?c0 ?k0 ?a1 ?l1 ?c1 ?k1 ?a2 ?i2 ?l2 ?c2 ?k2 ?a3 ?l3 ?c3 ?k3 ?a4 ?l4 ?c4 ?k4 ?a5 ?l5 ?c5 ?k5 ?a6 ?l6 ?c6 ?k6 ?a7 ?l7 ?c7 ?k7 ?a8 ?l8 ?c8 ?k8 ?a9 ?l9 ?c9 ?k9 ?a10 ?l10 ?c10 ?k10 ?a11 ?l11 ?c11 ?k11 ?a12 ?i12 ?l12 ?c12 ?k12 ?a13 ?i13 ?l13 ?c13 ?k13 ?a14 ?l14 ?c14 ?k14 ?a15 ?l15 ?c15 ?k15 ?a16 ?l16 ?c16 ?k16 ?a17 ?l17 ?c17 ?k17 ?a18 ?i18 ?l18 ?c18 ?k18 ?a19 ?l19 ?c19 ?k19 ?a20 ?i20 ?l20 ?c20 ?k20 ?a21 ?l21 ?c21 ?k21 ?a22 ?l22 ?c22 ?k22 ?a23 ?l23 ?c23 ?k23 ?a24 ?l24 ?c24 ?k24 ?a25 ?l25 ?c25 ?k25 ?a26 ?l26 ?c26 ?k26 ?a27 ?l27 ?c27 ?k27 ?a28 ?l28 ?c28 ?k28 ?a29 ?l29 ?c29 ?k29 ?a30 ?l30 ?c30 ?k30 ?a31 ?l31 ?c31 ?k31 ?a32 ?l32 ?c32 ?k32 ?a33 ?l33 ?c33 ?k33 ?a34 ?l34 ?c34 ?k34 ?a35 ?l35 ?c35 ?k35 ?a36 ?l36 ?c36 ?k36 ?a37 ?l37 ?c37 ?k37 ?a38 ?l38 ?c38 ?k38 ?a39 ?l39 ?c39 ?k39 ?a40 ?l40 ?c40 ?k40 ?a41 ?l41 ?c41 ?k41 ?a42 ?l42 ?c42 ?k42 ?a43 ?l43 ?c43 ?k43 ?a44 ?l44 ?c44 ?k44 ?a45 ?l45 ?c45 ?k45 ?a46 ?l46 ?c46 ?k46 ?a47 ?l47 ?c47 ?k47 ?a48 ?l48 ?c48 ?k48 ?pg ?hd ?po ?sa ?mk ?kc ?n1 ?n2 ?n3 ?z_bool ?z_dict ?z_enumerate ?z_int ?z_isinstance ?z_len ?z_list ?z_max ?z_min ?z_range ?z_str ?z_tuple ?y_BEGINNING ?x_BEGINNING ?v_BEGINNING ?eC_QuillError ?eC_NotYet ?eC_Clash ?eC_Backwards ?eq_NotYet ?eq_Clash ?eq_Backwards ?em_QuillError_QuillError ?em_NotYet_QuillError ?em_Clash_QuillError ?em_Backwards_QuillError
  (case aC | a0 | l0 | c0 | k0 | a1 | l1 | c1 | k1 | a2 | i2 | l2 | c2 | k2 | a3 | l3 | c3 | k3 | a4 | l4 | c4 | k4 | a5 | l5 | c5 | k5 | a6 | l6 | c6 | k6 | a7 | l7 | c7 | k7 | a8 | l8 | c8 | k8 | a9 | l9 => k_is)
  (case c9 | k9 | a10 | l10 | c10 | k10 | a11 | l11 | c11 | k11 | a12 | i12 | l12 | c12 | k12 | a13 | i13 | l13 | c13 | k13 | a14 | l14 | c14 | k14 | a15 | l15 | c15 | k15 | a16 | l16 | c16 | k16 | a17 | l17 | c17 | k17 | a18 | i18 | l18 | c18 => k_is)
  (case k18 | a19 | l19 | c19 | k19 | a20 | i20 | l20 | c20 | k20 | a21 | l21 | c21 | k21 | a22 | l22 | c22 | k22 | a23 | l23 | c23 | k23 | a24 | l24 | c24 | k24 | a25 | l25 | c25 | k25 | a26 | l26 | c26 | k26 | a27 | l27 | c27 | k27 | a28 | l28 => k_is)
  (case c28 | k28 | a29 | l29 | c29 | k29 | a30 | l30 | c30 | k30 | a31 | l31 | c31 | k31 | a32 | l32 | c32 | k32 | a33 | l33 | c33 | k33 | a34 | l34 | c34 | k34 | a35 | l35 | c35 | k35 | a36 | l36 | c36 | k36 | a37 | l37 | c37 | k37 | a38 | l38 => k_is)
  (case c38 | k38 | a39 | l39 | c39 | k39 | a40 | l40 | c40 | k40 | a41 | l41 | c41 | k41 | a42 | l42 | c42 | k42 | a43 | l43 | c43 | k43 | a44 | l44 | c44 | k44 | a45 | l45 | c45 | k45 | a46 | l46 | c46 | k46 | a47 | l47 | c47 | k47 | a48 | l48 => k_is)
  (case c48 | k48 | pg | hd | po | sa | mk | kc | n1 | n2 | n3 | z_bool | z_dict | z_enumerate | z_int | z_isinstance | z_len | z_list | z_max | z_min | z_range | z_str | z_tuple | y_BEGINNING | x_BEGINNING => k_is)
  (case v_BEGINNING => decide)
  (case eC_QuillError | eC_NotYet | eC_Clash | eC_Backwards => k_is)
  (case eq_NotYet => k_exc)
  (case eq_Clash => k_exc)
  (case eq_Backwards => k_exc); (case em_QuillError_QuillError => kernel_rfl); (case em_NotYet_QuillError => kernel_rfl); (case em_Clash_QuillError => kernel_rfl)
  (case em_Backwards_QuillError => kernel_rfl)
