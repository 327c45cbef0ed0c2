import PyProof.Rows.All
import Wide.All
import OpenK.AllK
import Wide.FinOn
import PyProof.EqAt
import PyProof.EqKinds
import PyProof.TupleCall
import KE.BitLaws
import PyProof.ListMulRoad
import PyProof.TupleOps
import PyProof.Rows.TupAdd
import PyProof.FactsAll.tuple_2
import PyProof.ZipIter
import PyProof.Rows.TupIter
import PyProof.ReprRoads
import PyProof.ReprLen
import PyProof.ReprText
import PySem.Challenge.RW_meanchoice_k02_choosings_of_anything
set_option Elab.async false
set_option linter.all false
set_option maxRecDepth 100000
namespace L2
open PySem PySem.Spec PyProof.Rows
abbrev Key := Sum Int Str
def keyIs : Key → Value → Bool
  | .inl k, v => Value.isInt k v
  | .inr x, v => Value.isStrOf x v
def keyH (w : World) : Key → Int
  | .inl k => hashInt k
  | .inr x => hashStr w x
theorem keyIs_shape : ∀ {k : Key} {v : Value}, keyIs k v = true → (∃ i t, k = Sum.inl i ∧ v = Value.int i t) ∨ (∃ x t, k = Sum.inr x ∧ v = Value.str x t)
  | .inl i, v, h => by
    obtain ⟨t, e⟩ := Value.isInt_shape (k := i) (v := v) h
    exact .inl ⟨i, t, rfl, e⟩
  | .inr x, v, h => by
    obtain ⟨t, e⟩ := Value.isStrOf_shape (x := x) (v := v) h
    exact .inr ⟨x, t, rfl, e⟩
theorem key_ll (a b : Int) : decide ((Sum.inl a : Key) = Sum.inl b) = (a == b) := by
  by_cases e : a = b
  · subst e; simp
  · have h : ¬ (Sum.inl a : Key) = Sum.inl b := fun q => e (Sum.inl.inj q)
    rw [decide_eq_false h]
    exact (beq_eq_false_iff_ne.mpr e).symm
theorem key_rr (a b : Str) : decide ((Sum.inr a : Key) = Sum.inr b) = decide (a = b) := by
  by_cases e : a = b
  · subst e; simp
  · have h : ¬ (Sum.inr a : Key) = Sum.inr b := fun q => e (Sum.inr.inj q)
    rw [decide_eq_false h, decide_eq_false e]
theorem key_lr (a : Int) (b : Str) : decide ((Sum.inl a : Key) = Sum.inr b) = false := decide_eq_false (fun q => nomatch q)
theorem key_rl (a : Str) (b : Int) : decide ((Sum.inr a : Key) = Sum.inl b) = false := decide_eq_false (fun q => nomatch q)
def mixKind (prog : Program) (w : World) : PySem.KeyKind prog w Key where
  is := keyIs
  hash := keyH w
  inj := fun v a b ha hb => by
    rcases keyIs_shape ha with ⟨i, t, rfl, rfl⟩ | ⟨x, t, rfl, rfl⟩
    · rcases keyIs_shape hb with ⟨j, u, rfl, e⟩ | ⟨y, u, rfl, e⟩
      · injection e with e1 _; rw [e1]
      · exact nomatch e
    · rcases keyIs_shape hb with ⟨j, u, rfl, e⟩ | ⟨y, u, rfl, e⟩
      · exact nomatch e
      · injection e with e1 _; rw [e1]
  byValue := fun k v h => by
    rcases keyIs_shape h with ⟨i, t, rfl, rfl⟩ | ⟨x, t, rfl, rfl⟩ <;> rfl
  pyHash := fun hv h => by
    rcases keyIs_shape hv with ⟨i, t, rfl, rfl⟩ | ⟨x, t, rfl, rfl⟩
    · exact wpAny_pyHash_int h
    · exact wpAny_pyHash_str h
  eqBool := fun hu hv h => by
    rcases keyIs_shape hu with ⟨i, t, rfl, rfl⟩ | ⟨x, t, rfl, rfl⟩
    · rcases keyIs_shape hv with ⟨j, u, rfl, rfl⟩ | ⟨y, u, rfl, rfl⟩
      · rw [key_ll] at h; exact wpAny_eqBool_int h
      · rw [key_lr] at h; exact SeqAt.EqAt.int_str i t y u _ _ _ _ h
    · rcases keyIs_shape hv with ⟨j, u, rfl, rfl⟩ | ⟨y, u, rfl, rfl⟩
      · rw [key_rl] at h; exact SeqAt.EqAt.str_int x t j u _ _ _ _ h
      · rw [key_rr] at h; exact wpAny_eqBool_str h
  «strs» := fun k x t v h => by
    rcases keyIs_shape h with ⟨i, u, rfl, e⟩ | ⟨y, u, rfl, e⟩
    · exact nomatch e
    · injection e with e1 _
      subst e1
      cases v <;> rfl
end L2
namespace L2
open PySem PySem.Spec PyProof.Rows
inductive V where
  | non | bl (b : Bool) | int (i : Int) | str (x : Str) | byt (b : Array UInt8) | flt (b : UInt64) | ref (a : Addr) | ty (n : String)
  deriving DecidableEq
def RelV : V → Value → Prop
  | .non, u => u = Value.none
  | .bl b, u => u = Value.bool b
  | .int i, u => ∃ t, u = Value.int i t
  | .str x, u => ∃ t, u = Value.str x t
  | .byt b, u => ∃ t, u = Value.bytes b t
  | .flt b, u => ∃ t, u = Value.float b t
  | .ref a, u => u = Value.ref a
  | .ty n, u => u = Value.type n
abbrev Vals : List V → List Value → Prop := Paired RelV
theorem Vals.length {xs : List V} {us : List Value} (r : Vals xs us) : xs.length = us.length := Paired.length r
theorem Vals.get : ∀ {xs : List V} {us : List Value} {i : Nat} {x : V}, Vals xs us → xs[i]? = some x → ∃ u, us[i]? = some u ∧ RelV x u
  | _, _, _, _, .nil, e => by simp at e
  | _, _, 0, _, .cons r _, e => by simp at e; subst e; exact ⟨_, rfl, r⟩
  | _, _, i + 1, x, .cons _ t, e => by
    obtain ⟨u, h1, h2⟩ := Vals.get (i := i) (x := x) t (by simpa using e)
    exact ⟨u, by simpa using h1, h2⟩
theorem Vals.set {x : V} {u : Value} (r : RelV x u) : ∀ {xs : List V} {us : List Value} (i : Nat), Vals xs us → Vals (xs.set i x) (us.set i u)
  | _, _, _, .nil => .nil
  | _, _, 0, .cons _ t => .cons r t
  | _, _, i + 1, .cons q t => .cons q (Vals.set r i t)
theorem Vals.append : ∀ {xs ys : List V} {us ws : List Value}, Vals xs us → Vals ys ws → Vals (xs ++ ys) (us ++ ws)
  | _, _, _, _, .nil, s => s
  | _, _, _, _, .cons r t, s => .cons r (Vals.append t s)
theorem Vals.take : ∀ {xs : List V} {us : List Value} (n : Nat), Vals xs us → Vals (xs.take n) (us.take n)
  | _, _, 0, _ => .nil
  | _, _, _ + 1, .nil => .nil
  | _, _, n + 1, .cons r t => .cons r (Vals.take n t)
theorem Vals.drop : ∀ {xs : List V} {us : List Value} (n : Nat), Vals xs us → Vals (xs.drop n) (us.drop n)
  | _, _, 0, r => r
  | _, _, _ + 1, .nil => .nil
  | _, _, n + 1, .cons _ t => Vals.drop n t
def RelO : Option V → Option Value → Prop
  | some v, some u => RelV v u
  | none, none => True
  | _, _ => False
def KV {κ : Type} : List (κ × V) → List (κ × Value) → Prop := Paired fun (p : κ × V) (q : κ × Value) => p.1 = q.1 ∧ RelV p.2 q.2
def kV : Key → V
  | .inl i => .int i
  | .inr x => .str x
inductive HO where
  | lst (xs : List V)
  | tup (xs : List V)
  | dK (kvs : List (Key × V)) | dT (kvs : List (List Key × V))
  | set (S : Int → Bool) (n : Nat)
  | ins (C dx : Addr) (fs : List (Str × V))
  | own (x : Addr)
  | xd (fs : List (Str × V))
  | met (f x : Addr)
  | rng (lo hi : Int)
  | frz (o : Obj) (u : HO)
  | tbl (ps : Array Value)
  | ext (φ : Heap → Prop)
abbrev Hp := Addr → Option HO
def upd (H : Hp) (a : Addr) (o : HO) : Hp := fun b => if b = a then some o else H b
theorem upd_same {H : Hp} {a : Addr} {o : HO} : upd H a o a = some o := by unfold upd; rw [if_pos rfl]
theorem upd_ne {H : Hp} {a b : Addr} {o : HO} (h : b ≠ a) : upd H a o b = H b := by unfold upd; rw [if_neg h]
theorem ne_of {H : Hp} {a b : Addr} {o u : HO} (h : H a = some o) (h' : H b = some u) (d : o ≠ u) : a ≠ b := by
  intro e; subst e; rw [h] at h'; exact d (Option.some.inj h')
theorem ne_of_none {H : Hp} {a b : Addr} {o : HO} (h : H a = some o) (h' : H b = none) : a ≠ b := by
  intro e; subst e; rw [h] at h'; cases h'
section
variable (P : Program) (w : World)
def ObjOk (H : Hp) (h : Heap) (a : Addr) : HO → Prop
  | .lst xs => xs.length ≤ sizeLine ∧ ∃ (its : List Value) (n : Nat), Vals xs its ∧ h.get? a = some { cls := .type "list", data := .seq its.toArray n }
  | .tup xs => xs.length ≤ sizeLine ∧ ∃ its : List Value, Vals xs its ∧ IsTup h a its.toArray
  | .dK kvs => kvs.length ≤ sizeLine ∧ (a == sysModules) = false ∧ ∃ vs, KV kvs vs ∧ h.DictOf (mixKind P w) a vs
  | .dT kvs => kvs.length ≤ sizeLine ∧ (a == sysModules) = false ∧ ∃ xs : List (List Key × Addr × Value),
      Paired (fun (p : List Key × V) (q : List Key × Addr × Value) => p.1 = q.1 ∧ H q.2.1 = some (.tup (p.1.map kV)) ∧ RelV p.2 q.2.2) kvs xs ∧
      ∃ o es ep, h.get? a = some o ∧ o.ExactDict ∧ o.data = .dict es ep ∧ es.toList = xs.map (entryOfKey (tupleKind (mixKind P w))) ∧ (xs.map (·.1)).Nodup
  | .set S n => h.SetOf (intKind P w) a S n
  | .ins C dx fs => H dx = some (.own a) ∧ fs.length ≤ 1000 ∧ dx ≠ a ∧ h.get? a = some (PySem.W.instObj C dx) ∧
      ∃ mA, h.Ns1 dx mA ∧ (∀ f, RelO (fs.lookup f) (mA f)) ∧ PySem.Within mA (fs.map (·.1))
  | .own _ => ∃ o, h.get? a = some o
  | .xd fs => ∃ mA, h.Ns1 a mA ∧ ∀ f, RelO (fs.lookup f) (mA f)
  | .rng lo hi => ∃ t u v, h.get? a = some { cls := .type "range", data := .fields #[.int lo t, .int hi u, .int 1 v] }
  | .frz o u => h.get? a = some o ∧ ObjOk H h a u
  | .tbl ps => h.get? a = some { cls := .none, data := .fields ps }
  | .met f x => h.get? a = some (PySem.W.methodObj (.ref f) (.ref x))
  | .ext φ => φ h ∧ (∃ o, h.get? a = some o) ∧ ∀ h1 h2 : Heap, φ h1 → (∀ o, h1.get? a = some o → h2.get? a = some o) → φ h2
def HOk (H : Hp) (h : Heap) : Prop := ∀ a o, H a = some o → ObjOk P w H h a o
end
section
variable {P : Program} {w : World} {H H' : Hp} {h h' : Heap} {a : Addr} {o : HO}
theorem ObjOk.lt (x : ObjOk P w H h a o) : a < h.objs.size := by
  cases o with
  | lst xs => obtain ⟨_, _, _, _, e⟩ := x; exact Heap.lt_size e
  | tup xs => obtain ⟨_, _, _, p⟩ := x; exact p.lt
  | dK kvs => obtain ⟨_, _, _, _, o, _, _, e, _⟩ := x; exact Heap.lt_size e
  | dT kvs => obtain ⟨_, _, _, _, o, _, _, e, _⟩ := x; exact Heap.lt_size e
  | set S n => obtain ⟨o, _, _, _, e, _⟩ := x; exact Heap.lt_size e
  | ins C dx fs => obtain ⟨_, _, _, e, _⟩ := x; exact Heap.lt_size e
  | own y => obtain ⟨_, e⟩ := x; exact Heap.lt_size e
  | xd fs => obtain ⟨_, ⟨_, _, _, e, _⟩, _⟩ := x; exact Heap.lt_size e
  | rng lo hi => obtain ⟨_, _, _, e⟩ := x; exact Heap.lt_size e
  | frz ob u => obtain ⟨e, _⟩ := x; exact Heap.lt_size e
  | tbl ps => exact Heap.lt_size (show h.get? a = some _ from x)
  | met f y => exact Heap.lt_size (show h.get? a = some _ from x)
  | ext φ => obtain ⟨_, ⟨_, e⟩, _⟩ := x; exact Heap.lt_size e
theorem Paired.mapP {α β : Type} {F G : α → β → Prop} : ∀ {l₁ : List α} {l₂ : List β}, Paired F l₁ l₂ → (∀ a b, F a b → G a b) → Paired G l₁ l₂
  | _, _, .nil, _ => .nil
  | _, _, .cons r t, f => .cons (f _ _ r) (Paired.mapP t f)
theorem ObjOk.stay (x : ObjOk P w H h a o) (k : ∀ b u, (b = a ∨ H b = some (.own a)) → h.get? b = some u → h'.get? b = some u)
    (ho : ∀ b, H b = some (.own a) → H' b = some (.own a)) (ht : ∀ b xs, H b = some (.tup xs) → H' b = some (.tup xs)) : ObjOk P w H' h' a o := by
  induction o with
  | lst xs => obtain ⟨z, its, n, r, e⟩ := x; exact ⟨z, its, n, r, k _ _ (.inl rfl) e⟩
  | tup xs => obtain ⟨z, its, r, ob, e, c⟩ := x; exact ⟨z, its, r, ob, k _ _ (.inl rfl) e, c⟩
  | dK kvs => obtain ⟨z, y, vs, r, ob, es, ep, e, c⟩ := x; exact ⟨z, y, vs, r, ob, es, ep, k _ _ (.inl rfl) e, c⟩
  | dT kvs =>
    obtain ⟨z, y, xs, r, ob, es, ep, e, c⟩ := x
    exact ⟨z, y, xs, Paired.mapP r fun p q z => ⟨z.1, ht _ _ z.2.1, z.2.2⟩, ob, es, ep, k _ _ (.inl rfl) e, c⟩
  | set S n => obtain ⟨ob, es, ep, t, e, c⟩ := x; exact ⟨ob, es, ep, t, k _ _ (.inl rfl) e, c⟩
  | ins C dx fs =>
    obtain ⟨d, z, ne, e, mA, ⟨od, es, ep, e2, c⟩, r⟩ := x
    exact ⟨ho _ d, z, ne, k _ _ (.inl rfl) e, mA, ⟨od, es, ep, k _ _ (.inr d) e2, c⟩, r⟩
  | own y => obtain ⟨ob, e⟩ := x; exact ⟨ob, k _ _ (.inl rfl) e⟩
  | xd fs => obtain ⟨mA, ⟨od, es, ep, e, c⟩, r⟩ := x; exact ⟨mA, ⟨od, es, ep, k _ _ (.inl rfl) e, c⟩, r⟩
  | rng lo hi => obtain ⟨t, u, v, e⟩ := x; exact ⟨t, u, v, k _ _ (.inl rfl) e⟩
  | frz ob u ih => obtain ⟨e, q⟩ := x; exact ⟨k _ _ (.inl rfl) e, ih q⟩
  | tbl ps =>
    have e : h.get? a = some { cls := .none, data := .fields ps } := x
    show h'.get? a = some { cls := .none, data := .fields ps }
    exact k a _ (.inl rfl) e
  | met f y =>
    have e : h.get? a = some (PySem.W.methodObj (.ref f) (.ref y)) := x
    show h'.get? a = some (PySem.W.methodObj (.ref f) (.ref y))
    exact k a _ (.inl rfl) e
  | ext φ => obtain ⟨p, ⟨o, e⟩, st⟩ := x; exact ⟨st _ _ p fun o q => k _ _ (.inl rfl) q, ⟨o, k _ _ (.inl rfl) e⟩, st⟩
theorem HOk.lt (x : HOk P w H h) (e : H a = some o) : a < h.objs.size := (x a o e).lt
theorem HOk.fresh (x : HOk P w H h) (e : h.objs.size ≤ a) : H a = none := by
  cases q : H a with
  | none => rfl
  | some u => exact absurd (Nat.lt_of_lt_of_le (x.lt q) e) (Nat.lt_irrefl _)
theorem HOk.kept (x : HOk P w H h) (k : ∀ b u, h.get? b = some u → h'.get? b = some u) : HOk P w H h' := fun a o e =>
  (x a o e).stay (fun b u _ q => k b u q) (fun _ q => q) fun _ _ q => q
theorem HOk.laid (x : HOk P w H h) (k : ∀ b u, h.get? b = some u → h'.get? b = some u) (hp : h.objs.size ≤ a) (new : ObjOk P w (upd H a o) h' a o) : HOk P w (upd H a o) h' := fun b u e => by
  have hn := x.fresh hp
  by_cases hb : b = a
  · subst hb; rw [upd_same] at e; cases e; exact new
  · rw [upd_ne hb] at e
    exact (x b u e).stay (fun c v _ q => k c v q) (fun c q => by rw [upd_ne (ne_of_none q hn)]; exact q) fun c xs q => by rw [upd_ne (ne_of_none q hn)]; exact q
end
def Rd (H : Hp) (a : Addr) (u : HO) : Prop := H a = some u ∨ ∃ o, H a = some (.frz o u)
theorem Rd.of {H : Hp} {a : Addr} {u : HO} (h : H a = some u) : Rd H a u := .inl h
theorem Rd.ok {P : Program} {w : World} {H : Hp} {h : Heap} {a : Addr} {u : HO} (r : Rd H a u) (x : HOk P w H h) : ObjOk P w H h a u := by
  rcases r with r | ⟨o, r⟩
  · exact x a u r
  · obtain ⟨_, q⟩ := x a _ r
    exact q
def Mut : Option HO → Prop
  | some (.lst _) => True
  | some (.dK _) => True
  | some (.dT _) => True
  | some (.set _ _) => True
  | some (.ins _ _ _) => True
  | some (.ext _) => True
  | _ => False
section
variable {P : Program} {w : World} {H : Hp} {h h' : Heap} {x e : Addr} {o' : HO}
theorem HOk.write (ok : HOk P w H h) (mu : Mut (H x)) (he : e = x ∨ H e = some (.own x)) (k : ∀ b u, b ≠ e → h.get? b = some u → h'.get? b = some u) (heo : ∃ u, h'.get? e = some u)
    (new : ObjOk P w (upd H x o') h' x o') : HOk P w (upd H x o') h' := fun b u q => by
  have nown : ∀ c y, H c = some (.own y) → c ≠ x := fun c y r z => by subst z; rw [r] at mu; exact mu
  have ntup : ∀ c xs, H c = some (.tup xs) → c ≠ x := fun c xs r z => by subst z; rw [r] at mu; exact mu
  by_cases hb : b = x
  · subst hb; rw [upd_same] at q; cases q; exact new
  · rw [upd_ne hb] at q
    by_cases hbe : b = e
    · have q' : H b = some (.own x) := by
        rcases he with z | z
        · exact absurd (hbe.trans z) hb
        · rw [hbe]; exact z
      rw [q] at q'; cases q'
      obtain ⟨v, hv⟩ := heo
      exact ⟨v, by rw [hbe]; exact hv⟩
    · refine (ok b u q).stay (fun c v hc r => k c v ?_ r) (fun c r => by rw [upd_ne (nown c b r)]; exact r) fun c xs r => by rw [upd_ne (ntup c xs r)]; exact r
      rcases hc with rfl | hc
      · exact hbe
      · rintro rfl
        rcases he with z | z
        · exact nown c b hc z
        · rw [hc] at z; cases z; exact hb rfl
end
structure Un (fs ex : List Addr) (H H' : Hp) (h h' : Heap) : Prop where
  keep : ∀ b o, h.get? b = some o → H b = none → b ∉ fs → b ∉ ex → h'.get? b = some o
  slot : ∀ b o, h.get? b = some o → H b = none → b ∈ fs → b ∉ ex → ∃ sl, h'.get? b = some { o with slots := sl }
  free : ∀ b o, h.get? b = some o → H b = none → b ∉ ex → H' b = none
  there : ∀ b o, h.get? b = some o → b ∉ ex → ∃ o', h'.get? b = some o'
  tups : ∀ b xs, H b = some (.tup xs) → H' b = some (.tup xs)
  frzs : ∀ b o u, H b = some (.frz o u) → H' b = some (.frz o u)
  tbls : ∀ b ps, H b = some (.tbl ps) → ∃ more, H' b = some (.tbl (ps ++ more))
section
variable {fs fs' ex ex' : List Addr} {H H1 H2 : Hp} {h h1 h2 h' : Heap} {a x e : Addr} {o : HO}
theorem Un.any (u : Un fs ex H H1 h h1) {b : Addr} {ob : Obj} (q : h.get? b = some ob) (n : H b = none) (hx : b ∉ ex) : ∃ sl, h1.get? b = some { ob with slots := sl } := by
  by_cases hb : b ∈ fs
  · exact u.slot b ob q n hb hx
  · exact ⟨ob.slots, u.keep b ob q n hb hx⟩
theorem Un.trans (a : Un fs ex H H1 h h1) (b : Un fs ex H1 H2 h1 h2) : Un fs ex H H2 h h2 where
  keep := fun c ob q n hc hx => b.keep c ob (a.keep c ob q n hc hx) (a.free c ob q n hx) hc hx
  slot := fun c ob q n hc hx => by
    obtain ⟨sl, e1⟩ := a.slot c ob q n hc hx
    obtain ⟨sl', e2⟩ := b.slot c _ e1 (a.free c ob q n hx) hc hx
    exact ⟨sl', e2⟩
  free := fun c ob q n hx => by
    obtain ⟨o', e1⟩ := a.there c ob q hx
    exact b.free c o' e1 (a.free c ob q n hx) hx
  there := fun c ob q hx => by
    obtain ⟨o', e1⟩ := a.there c ob q hx
    exact b.there c o' e1 hx
  tups := fun c xs q => b.tups c xs (a.tups c xs q)
  frzs := fun c ob xs q => b.frzs c ob xs (a.frzs c ob xs q)
  tbls := fun c ps q => by
    obtain ⟨m1, e1⟩ := a.tbls c ps q
    obtain ⟨m2, e2⟩ := b.tbls c _ e1
    exact ⟨m1 ++ m2, by rw [e2, Array.append_assoc]⟩
theorem Un.kept (k : ∀ b u, h.get? b = some u → h'.get? b = some u) : Un fs ex H H h h' :=
  ⟨fun b ob q _ _ _ => k b ob q, fun b ob q _ _ _ => ⟨ob.slots, k b ob q⟩, fun _ _ _ n _ => n, fun b ob q _ => ⟨ob, k b ob q⟩, fun _ _ q => q, fun _ _ _ q => q, fun _ ps q => ⟨#[], by rw [q]; simp⟩⟩
theorem Un.refl : Un fs ex H H h h := Un.kept fun _ _ q => q
theorem Un.laid (k : ∀ b u, h.get? b = some u → h'.get? b = some u) (hp : h.objs.size ≤ a) (hn : H a = none) : Un fs ex H (upd H a o) h h' where
  keep := fun b u q _ _ _ => k b u q
  slot := fun b u q _ _ _ => ⟨u.slots, k b u q⟩
  free := fun b u q n _ => by rw [upd_ne (Nat.ne_of_lt (Nat.lt_of_lt_of_le (Heap.lt_size q) hp))]; exact n
  there := fun b u q _ => ⟨u, k b u q⟩
  tups := fun b xs q => by rw [upd_ne (ne_of_none q hn)]; exact q
  frzs := fun b u xs q => by rw [upd_ne (ne_of_none q hn)]; exact q
  tbls := fun b ps q => ⟨#[], by rw [upd_ne (ne_of_none q hn), q]; simp⟩
theorem Un.write (mu : Mut (H x)) (he : e = x ∨ H e = some (.own x)) (k : ∀ b u, b ≠ e → h.get? b = some u → h'.get? b = some u) (heo : ∃ u, h'.get? e = some u) : Un fs ex H (upd H x o) h h' := by
  have hx : ∀ b, H b = none → b ≠ x := fun b n z => by subst z; rw [n] at mu; exact mu
  have hb : ∀ b, H b = none → b ≠ e := fun b n z => by
    subst z
    rcases he with r | r
    · exact hx b n r
    · rw [n] at r; cases r
  have hm : ∀ b u, H b = some u → ¬ Mut (some u) → b ≠ x := fun b u q nm z => by subst z; rw [q] at mu; exact nm mu
  refine ⟨fun b u q n _ _ => k b u (hb b n) q, fun b u q n _ _ => ⟨u.slots, k b u (hb b n) q⟩, fun b u q n _ => by rw [upd_ne (hx b n)]; exact n, fun b u q _ => ?_,
    fun b xs q => by rw [upd_ne (hm b _ q fun z => z)]; exact q, fun b u xs q => by rw [upd_ne (hm b _ q fun z => z)]; exact q, fun b ps q => ⟨#[], by rw [upd_ne (hm b _ q fun z => z), q]; simp⟩⟩
  by_cases hbe : b = e
  · subst hbe; exact heo
  · exact ⟨u, k b u hbe q⟩
theorem Un.mono (u : Un fs ex H H1 h h1) (hs : ∀ b ∈ fs, b ∈ fs') (hx : ∀ b ∈ ex, b ∈ ex') : Un fs' ex' H H1 h h1 :=
  ⟨fun b ob q n hb he => u.keep b ob q n (fun z => hb (hs b z)) fun z => he (hx b z), fun _ _ q n _ he => u.any q n fun z => he (hx _ z), fun b ob q n he => u.free b ob q n fun z => he (hx b z), fun b ob q he => u.there b ob q fun z => he (hx b z), u.tups, u.frzs, u.tbls⟩
end
def trk (h : Heap) (H : Hp) : List Addr := (List.range h.objs.size).filter fun a => (H a).isSome
def hidT (h : Heap) (H : Hp) : Heap := PySem.W.hideAll h (trk h H)
theorem hidT_size (h : Heap) (H : Hp) : (hidT h H).objs.size = h.objs.size := PySem.W.hideAll_size _ _
theorem hidT_get {h : Heap} {H : Hp} {b : Addr} {o : Obj} (e : h.get? b = some o) (n : H b = none) : (hidT h H).get? b = some o :=
  PySem.W.hideAll_get _ e fun hm => by
    have q : (H b).isSome = true := (List.mem_filter.mp hm).2
    rw [n] at q; simp at q
theorem of_hidT {h : Heap} {H : Hp} {b : Addr} {o : Obj} (e : (hidT h H).get? b = some o) : h.get? b = some o ∧ H b = none := by
  have e' : h.get? b = some o := PySem.W.of_hideAll (trk h H) e
  refine ⟨e', ?_⟩
  cases q : H b with
  | none => rfl
  | some x =>
    have hm : b ∈ trk h H := List.mem_filter.mpr ⟨List.mem_range.mpr (Heap.lt_size e'), by simp [q]⟩
    have z : (hidT h H).get? b = none := PySem.W.hideAll_none (trk h H) hm
    rw [z] at e; cases e
def allNews (g h : Heap) (L : Addr) : List (Addr × Obj) := (List.range h.objs.size).filterMap fun a => if a = L ∨ (g.get? a).isSome = true then none else (h.get? a).map fun o => (a, o)
def rest (g h : Heap) (L d : Addr) : List (Addr × Obj) := (allNews g h L).filter fun p => decide (p.1 ≠ d)
end L2
namespace L2
open PySem PySem.Spec PyProof.Rows
structure Mod (K : PySem.W.Frag) (mg : Str → Option Value) (base : Heap) : Prop where
  kin : K.In base
  glob : base.Ns mainGlobals mg
  blt : ∃ mb, base.Ns builtinsNs mb ∧ ∀ x : Str, x ≠ "__name__" → mb x = bootBuiltins x
  nolimit : base.NoLimit
structure Cx where
  prog : Program
  w : World
  K : PySem.W.Frag
  mg : Str → Option Value
  base : Heap
  A : Around
  N : List Str
  s_0 : Shared
  H_0 : Hp
  env : Env
  outer : List Env
  stack : List Env
  ex : List Addr
  fn : Str → Bool
  calm : Bool
  pn : List (Addr × Obj)
  xe : Value → Shared → Prop
def frs (l : List Env) : List Addr := l.filterMap (·.frame)
abbrev Cx.fs (X : Cx) : List Addr := frs X.outer
def Vis (sc : Scope) (x : Str) : Prop := sc.names.lookup x = some .local ∨ sc.names.lookup x = some .cell ∨ sc.names.lookup x = some .free
def Loc (sc : Scope) (x : Str) : Prop := sc.names.lookup x = some .local ∨ sc.names.lookup x = some .cell
def Look (env : Env) (h : Heap) (m : Str → Option Value) (x : Str) (u : Value) : Prop :=
  (env.kindOf x = some .local ∧ m x = some u) ∨ ((env.kindOf x = some .cell ∨ env.kindOf x = some .free) ∧ ∃ c, env.cells.lookup x = some c ∧ h.IsCell c (some u))
structure Cx.Ok (X : Cx) : Prop where
  mod : Mod X.K X.mg X.base
  kind : X.env.scope.kind = .function
  glob : X.env.globals = mainGlobals
  blt : X.env.builtins = builtinsNs
  above : X.s_0.heap.objs.size ≤ X.env.locals
  inj : ∀ x y c, X.env.cells.lookup x = some c → X.env.cells.lookup y = some c → x = y
  has : ∀ x, (X.env.kindOf x = some .cell ∨ X.env.kindOf x = some .free) → ∃ c, X.env.cells.lookup x = some c
  cab : ∀ x c, X.fn x = true → X.env.cells.lookup x = some c → X.s_0.heap.objs.size ≤ c
  hd : X.calm = true → X.A.handled = none
  frames : X.A.frames = some X.stack
  stk : X.stack = X.outer ∨ (X.stack = X.env :: X.outer ∧ X.env.frame = some X.env.locals)
  exf : ∀ b ∈ X.ex, b ≠ X.env.locals ∧ ∀ x c, X.env.cells.lookup x = some c → c ≠ b
  bs : ∀ b o, X.base.get? b = some o → X.s_0.heap.get? b = some o ∧ X.H_0 b = none
  bsz : X.base.objs.size ≤ X.s_0.heap.objs.size
  noex : ∀ b o, X.base.get? b = some o → b ∉ X.ex
  exfs : ∀ b ∈ X.ex, b ∉ X.fs
  funs : X.s_0.heap.FunFrames X.base X.outer
  frf : ∀ b ∈ X.fs, X.H_0 b = none
structure Inv (X : Cx) (pins : List (Addr × Obj)) (σ : List (Option V)) (H : Hp) (s : Shared) : Prop where
  ok : X.Ok
  os : s.os = X.s_0.os
  bare : AllBare s.gens
  base : Un X.fs X.ex X.H_0 H X.s_0.heap s.heap
  loc : ∃ m, s.heap.Ns X.env.locals m ∧ ∀ (i : Nat) (x : Str) (v : V), X.N[i]? = some x → σ[i]? = some (some v) → Vis X.env.scope x → ∃ u, RelV v u ∧ Look X.env s.heap m x u
  cell : ∀ x c, X.env.cells.lookup x = some c → ∃ v, s.heap.IsCell c v
  free : H X.env.locals = none
  freeC : ∀ x c, X.env.cells.lookup x = some c → H c = none
  pin : ∀ p ∈ X.pn ++ pins, s.heap.get? p.1 = some p.2 ∧ H p.1 = none ∧ p.1 ≠ X.env.locals ∧ p.1 ∉ X.fs ∧ ∀ v, p.2.data ≠ .cell v
  hok : HOk X.prog X.w H s.heap
  len : σ.length = X.N.length
section
variable {X : Cx} {pins : List (Addr × Obj)} {σ : List (Option V)} {H H' : Hp} {s : Shared} {h' : Heap}
theorem Cx.Ok.nofr (ok : X.Ok) {b : Addr} {o : Obj} (e : X.base.get? b = some o) : b ∉ X.fs := fun hb => by
  have := (ok.funs.mem hb).1
  rw [e] at this; cases this
theorem Inv.bs (I : Inv X pins σ H s) : ∀ b o, X.base.get? b = some o → s.heap.get? b = some o ∧ H b = none := fun b o e =>
  ⟨I.base.keep b o (I.ok.bs b o e).1 (I.ok.bs b o e).2 (I.ok.nofr e) (I.ok.noex b o e), I.base.free b o (I.ok.bs b o e).1 (I.ok.bs b o e).2 (I.ok.noex b o e)⟩
theorem Inv.bk (I : Inv X pins σ H s) : ∀ b o, X.base.get? b = some o → s.heap.get? b = some o := fun b o e => (I.bs b o e).1
theorem Inv.mod (I : Inv X pins σ H s) : Mod X.K X.mg X.base := I.ok.mod
theorem Inv.kIn (I : Inv X pins σ H s) : X.K.In s.heap := I.ok.mod.kin.keeps I.bk
theorem Inv.nolimit (I : Inv X pins σ H s) : s.heap.NoLimit := I.ok.mod.nolimit.keeps I.bk
theorem Inv.lt (I : Inv X pins σ H s) : X.env.locals < s.heap.objs.size := let ⟨_, hn, _⟩ := I.loc; hn.lt
theorem Inv.sz (I : Inv X pins σ H s) : X.s_0.heap.objs.size ≤ s.heap.objs.size := Nat.le_trans I.ok.above (Nat.le_of_lt I.lt)
theorem Inv.nofs (I : Inv X pins σ H s) {a : Addr} (h : s.heap.objs.size ≤ a) : a ∉ X.fs := fun hb => by
  obtain ⟨_, o, ho, _⟩ := I.ok.funs.mem hb
  exact absurd (Nat.lt_of_lt_of_le (Heap.lt_size ho) (Nat.le_trans I.sz h)) (Nat.lt_irrefl _)
theorem Inv.cne (I : Inv X pins σ H s) : ∀ x c, X.env.cells.lookup x = some c → c ≠ X.env.locals := fun x c e z => by
  obtain ⟨v, o, ho, hd⟩ := I.cell x c e
  obtain ⟨m, ⟨o', es, ep, ho', hd', _⟩, _⟩ := I.loc
  rw [z, ho'] at ho; cases ho; rw [hd'] at hd; cases hd
theorem Inv.funs (I : Inv X pins σ H s) : s.heap.FunFrames X.base X.outer := by
  have all : ∀ (l : List Env), (∀ b ∈ frs l, b ∈ X.fs) → X.s_0.heap.FunFrames X.base l → s.heap.FunFrames X.base l := by
    intro l
    induction l with
    | nil => intro _ _; trivial
    | cons env r ih =>
      intro hs hl
      obtain ⟨hk, ⟨L, o, hf, hn, ho, hd⟩, hr⟩ := hl
      have hL : L ∈ X.fs := hs L (by unfold frs; rw [List.filterMap_cons, hf]; exact List.mem_cons_self)
      obtain ⟨sl, e⟩ := I.base.slot L o ho (I.ok.frf L hL) hL fun z => I.ok.exfs L z hL
      exact ⟨hk, ⟨L, _, hf, hn, e, hd⟩, ih (fun b hb => hs b (by unfold frs; rw [List.filterMap_cons, hf]; exact List.mem_cons_of_mem _ hb)) hr⟩
  exact all X.outer (fun _ hb => hb) I.ok.funs
theorem Inv.stack (I : Inv X pins σ H s) : s.heap.FunFrames X.base X.stack := by
  rcases I.ok.stk with e | ⟨e, hf⟩
  · rw [e]; exact I.funs
  · rw [e]
    obtain ⟨m, hn, _⟩ := I.loc
    refine .cons (by rw [I.ok.kind]; decide) hf hn ?_ I.funs
    exact Heap.get?_none_of_le (Nat.le_trans I.ok.bsz I.ok.above)
theorem Inv.stkSub (I : Inv X pins σ H s) : ∀ b ∈ frs X.stack, b ∈ X.env.locals :: X.fs := fun b hb => by
  rcases I.ok.stk with e | ⟨e, hf⟩
  · rw [e] at hb; exact List.mem_cons_of_mem _ hb
  · rw [e] at hb
    unfold frs at hb
    rw [List.filterMap_cons, hf] at hb
    exact hb
theorem Inv.stkFree (I : Inv X pins σ H s) : ∀ b ∈ frs X.stack, H b = none := fun b hb => by
  rcases List.mem_cons.mp (I.stkSub b hb) with e | hb
  · rw [e]; exact I.free
  · obtain ⟨_, o, ho, _⟩ := I.ok.funs.mem hb
    exact I.base.free b o ho (I.ok.frf b hb) fun z => I.ok.exfs b z hb
theorem Inv.step {g' : Array GenState} {t' : Nat} {d' : Drawn} {ch : List Addr} (I : Inv X pins σ H s)
    (hch : ∀ b ∈ ch, (b ∈ X.ex ∨ X.s_0.heap.objs.size ≤ b) ∧ b ≠ X.env.locals ∧ (∀ x c, X.env.cells.lookup x = some c → c ≠ b) ∧ ∀ p ∈ X.pn ++ pins, p.1 ≠ b)
    (keep : ∀ b o, b ≠ X.env.locals → b ∉ X.fs → b ∉ ch → s.heap.get? b = some o → H b = none → h'.get? b = some o)
    (slot : ∀ b o, b ≠ X.env.locals → b ∈ X.fs → b ∉ ch → s.heap.get? b = some o → H b = none → ∃ sl, h'.get? b = some { o with slots := sl }) (free : ∀ b o, b ∉ ch → s.heap.get? b = some o → H b = none → H' b = none)
    (there : ∀ b o, b ∉ ch → s.heap.get? b = some o → ∃ o', h'.get? b = some o')
    (tups : ∀ b xs, H b = some (.tup xs) → H' b = some (.tup xs)) (frzs : ∀ b o u, H b = some (.frz o u) → H' b = some (.frz o u)) (tbls : ∀ b ps, H b = some (.tbl ps) → ∃ more, H' b = some (.tbl (ps ++ more)))
    (ns : ∀ m, s.heap.Ns X.env.locals m → h'.Ns X.env.locals m) (hok : HOk X.prog X.w H' h') (hg : AllBare g') :
    Inv X pins σ H' { s with heap := h', gens := g', drawn := d', toks := t' } := by
  have neL : ∀ b o, X.s_0.heap.get? b = some o → b ≠ X.env.locals := fun b o e => Nat.ne_of_lt (Nat.lt_of_lt_of_le (Heap.lt_size e) I.ok.above)
  have neC : ∀ b o, X.s_0.heap.get? b = some o → b ∉ X.ex → b ∉ ch := fun b o e hx hb => by
    rcases (hch b hb).1 with z | z
    · exact hx z
    · exact absurd (Nat.lt_of_lt_of_le (Heap.lt_size e) z) (Nat.lt_irrefl _)
  have cellK : ∀ x c, X.env.cells.lookup x = some c → ∀ v, s.heap.IsCell c v → h'.IsCell c v := fun x c e v ⟨o, ho, hd⟩ => by
    have nch : c ∉ ch := fun z => (hch c z).2.2.1 x c e rfl
    by_cases hc : c ∈ X.fs
    · obtain ⟨sl, q⟩ := slot c o (I.cne x c e) hc nch ho (I.freeC x c e)
      exact ⟨_, q, hd⟩
    · exact ⟨o, keep c o (I.cne x c e) hc nch ho (I.freeC x c e), hd⟩
  refine ⟨I.ok, I.os, hg, ⟨fun b o e n hb hx => ?_, fun b o e n hb hx => ?_, fun b o e n hx => ?_, fun b o e hx => ?_, fun b xs e => tups b xs (I.base.tups b xs e), fun b o xs e => frzs b o xs (I.base.frzs b o xs e), fun b ps e => ?_⟩, ?_, fun x c e => ?_, ?_, fun x c e => ?_, fun p hp => ?_, hok, I.len⟩
  · exact keep b o (neL b o e) hb (neC b o e hx) (I.base.keep b o e n hb hx) (I.base.free b o e n hx)
  · obtain ⟨sl, e1⟩ := I.base.slot b o e n hb hx
    obtain ⟨sl', e2⟩ := slot b _ (neL b o e) hb (neC b o e hx) e1 (I.base.free b o e n hx)
    exact ⟨sl', e2⟩
  · obtain ⟨o', e1⟩ := I.base.there b o e hx
    exact free b o' (neC b o e hx) e1 (I.base.free b o e n hx)
  · obtain ⟨o', e1⟩ := I.base.there b o e hx
    exact there b o' (neC b o e hx) e1
  · obtain ⟨m1, e1⟩ := I.base.tbls b ps e
    obtain ⟨m2, e2⟩ := tbls b _ e1
    exact ⟨m1 ++ m2, by rw [e2, Array.append_assoc]⟩
  · obtain ⟨m, hn, hl⟩ := I.loc
    refine ⟨m, ns m hn, fun i x v e1 e2 e3 => ?_⟩
    obtain ⟨u, r, l⟩ := hl i x v e1 e2 e3
    refine ⟨u, r, ?_⟩
    rcases l with l | ⟨k, c, e, z⟩
    · exact .inl l
    · exact .inr ⟨k, c, e, cellK x c e _ z⟩
  · obtain ⟨v, z⟩ := I.cell x c e
    exact ⟨v, cellK x c e v z⟩
  · obtain ⟨m, ⟨o, _, _, ho, _⟩, _⟩ := I.loc
    exact free _ o (fun z => (hch _ z).2.1 rfl) ho I.free
  · obtain ⟨v, o, ho, hd⟩ := I.cell x c e
    exact free c o (fun z => (hch c z).2.2.1 x c e rfl) ho (I.freeC x c e)
  · obtain ⟨e, n, ne, nf, d⟩ := I.pin p hp
    have nch : p.1 ∉ ch := fun z => (hch p.1 z).2.2.2 p hp rfl
    exact ⟨keep p.1 p.2 ne nf nch e n, free p.1 p.2 nch e n, ne, nf, d⟩
theorem Inv.un {t' : Nat} (I : Inv X pins σ H s) (u : Un X.fs [] H H' s.heap h') (hok : HOk X.prog X.w H' h') : Inv X pins σ H' { s with heap := h', toks := t' } := by
  obtain ⟨m, ⟨o, es, ep, ho, r⟩, _⟩ := id I.loc
  obtain ⟨sl, hL⟩ := u.any ho I.free (by simp)
  exact I.step (g' := s.gens) (d' := s.drawn) (ch := []) (fun _ z => nomatch z) (fun b o _ hb _ e n => u.keep b o e n hb (by simp)) (fun b o _ hb _ e n => u.slot b o e n hb (by simp)) (fun b o _ e n => u.free b o e n (by simp)) (fun b o _ e => u.there b o e (by simp)) u.tups u.frzs u.tbls (fun m' hm => by
    obtain ⟨o', es', ep', ho', r'⟩ := hm
    rw [ho] at ho'; cases ho'
    exact ⟨_, es', ep', hL, r'⟩) hok I.bare
theorem Inv.call {g' : Array GenState} {t' : Nat} {d' : Drawn} {ch : List Addr} (I : Inv X pins σ H s) (u : Un (frs X.stack) ch H H' s.heap h') (hok : HOk X.prog X.w H' h') (hg : AllBare g')
    (hch : ∀ b ∈ ch, (b ∈ X.ex ∨ X.s_0.heap.objs.size ≤ b) ∧ b ≠ X.env.locals ∧ (∀ x c, X.env.cells.lookup x = some c → c ≠ b) ∧ ∀ p ∈ X.pn ++ pins, p.1 ≠ b) :
    Inv X pins σ H' { s with heap := h', gens := g', drawn := d', toks := t' } := by
  obtain ⟨m, ⟨o, es, ep, ho, r⟩, _⟩ := id I.loc
  obtain ⟨sl, hL⟩ := u.any ho I.free fun z => (hch _ z).2.1 rfl
  exact I.step (ch := ch) hch (fun b o hL hb hc e n => u.keep b o e n (fun z => (List.mem_cons.mp (I.stkSub b z)).elim hL hb) hc) (fun b o _ _ hc e n => u.any e n hc) (fun b o hc e n => u.free b o e n hc) (fun b o hc e => u.there b o e hc) u.tups u.frzs u.tbls (fun m' hm => by
    obtain ⟨o', es', ep', ho', r'⟩ := hm
    rw [ho] at ho'; cases ho'
    exact ⟨_, es', ep', hL, r'⟩) hok hg
theorem Inv.turned {t' : Nat} {it : Addr} (I : Inv X pins σ H s) (k : ∀ b o, b ≠ it → s.heap.get? b = some o → h'.get? b = some o) (hn : H it = none) (hL : it ≠ X.env.locals)
    (h1 : it ∈ X.ex ∨ X.s_0.heap.objs.size ≤ it) (h2 : ∀ x c, X.env.cells.lookup x = some c → c ≠ it) (h3 : ∀ p ∈ X.pn ++ pins, p.1 ≠ it) : Inv X pins σ H { s with heap := h', toks := t' } := by
  have nit : ∀ b u, H b = some u → b ≠ it := fun b u e z => by rw [z, hn] at e; cases e
  refine I.step (g' := s.gens) (d' := s.drawn) (ch := [it]) (fun b hb => ?_) (fun b o _ _ hc e _ => k b o (fun z => hc (by simp [z])) e) (fun b o _ _ hc e _ => ⟨o.slots, k b o (fun z => hc (by simp [z])) e⟩) (fun _ _ _ _ n => n)
    (fun b o hc e => ⟨o, k b o (fun z => hc (by simp [z])) e⟩) (fun _ _ e => e) (fun _ _ _ e => e) (fun b ps e => ⟨#[], by rw [e]; simp⟩) (fun m hm => ?_) (fun b u e => ?_) I.bare
  · have e : b = it := by simpa using hb
    subst e
    exact ⟨h1, hL, h2, h3⟩
  · obtain ⟨o, es, ep, ho, r⟩ := hm
    exact ⟨o, es, ep, k _ o (Ne.symm hL) ho, r⟩
  · refine (I.hok b u e).stay (fun c v hc q => k c v ?_ q) (fun _ q => q) fun _ _ q => q
    rcases hc with z | z
    · rw [z]; exact nit b u e
    · exact nit c _ z
theorem Inv.tok (I : Inv X pins σ H s) (t : Nat) : Inv X pins σ H { s with toks := t } := I.un (h' := s.heap) (t' := t) Un.refl I.hok
theorem Inv.kept {t' : Nat} (I : Inv X pins σ H s) (k : ∀ b u, s.heap.get? b = some u → h'.get? b = some u) : Inv X pins σ H { s with heap := h', toks := t' } := I.un (Un.kept k) (I.hok.kept k)
theorem Inv.laid {a : Addr} {o : HO} {t' : Nat} (I : Inv X pins σ H s) (k : ∀ b u, s.heap.get? b = some u → h'.get? b = some u) (hp : s.heap.objs.size ≤ a) (new : ObjOk X.prog X.w (upd H a o) h' a o) :
    Inv X pins σ (upd H a o) { s with heap := h', toks := t' } := I.un (Un.laid k hp (I.hok.fresh hp)) (I.hok.laid k hp new)
theorem Inv.write {x e : Addr} {o : HO} {t' : Nat} (I : Inv X pins σ H s) (mu : Mut (H x)) (he : e = x ∨ H e = some (.own x)) (k : ∀ b u, b ≠ e → s.heap.get? b = some u → h'.get? b = some u) (heo : ∃ u, h'.get? e = some u)
    (new : ObjOk X.prog X.w (upd H x o) h' x o) : Inv X pins σ (upd H x o) { s with heap := h', toks := t' } := I.un (Un.write mu he k heo) (I.hok.write mu he k heo new)
theorem Inv.weak {σ' : List (Option V)} (I : Inv X pins σ H s) (hl : σ'.length = σ.length) (w : ∀ (i : Nat) v, σ'[i]? = some (some v) → σ[i]? = some (some v)) : Inv X pins σ' H s :=
  ⟨I.ok, I.os, I.bare, I.base, let ⟨m, hn, hl'⟩ := I.loc; ⟨m, hn, fun i x v e1 e2 e3 => hl' i x v e1 (w i v e2) e3⟩, I.cell, I.free, I.freeC, I.pin, I.hok, hl.trans I.len⟩
theorem Inv.pins_of {pins' : List (Addr × Obj)} (I : Inv X pins σ H s) (h : ∀ p ∈ pins', s.heap.get? p.1 = some p.2 ∧ H p.1 = none ∧ p.1 ≠ X.env.locals ∧ p.1 ∉ X.fs ∧ ∀ v, p.2.data ≠ .cell v) : Inv X pins' σ H s :=
  ⟨I.ok, I.os, I.bare, I.base, I.loc, I.cell, I.free, I.freeC, fun p hp => (List.mem_append.mp hp).elim (fun z => I.pin p (List.mem_append_left _ z)) (h p), I.hok, I.len⟩
theorem nodup_ix {N : List Str} (hN : N.Nodup) {i j : Nat} {x : Str} (a : N[i]? = some x) (b : N[j]? = some x) : i = j := by
  obtain ⟨h1, e1⟩ := List.getElem?_eq_some_iff.mp a
  obtain ⟨h2, e2⟩ := List.getElem?_eq_some_iff.mp b
  exact (List.getElem_inj hN).mp (e1.trans e2.symm)
theorem store_ok2 {M : Model} {A : Around} {E : Value → Shared → Prop} {i : Nat} {x : Str} {v : V} {u : Value} {Q : Unit → Shared → Prop} (I : Inv X pins σ H s) (hN : X.N.Nodup) (hi : X.N[i]? = some x) (hx : Loc X.env.scope x) (r : RelV v u)
    (h : ∀ s', Inv X pins (σ.set i (some v)) H s' → (∃ a, Heap.SameBut a s.heap s'.heap ∧ (a = X.env.locals ∨ X.env.cells.lookup x = some a)) → Q () s') (hf : X.fn x = true ∨ X.env.scope.names.lookup x = some .local := by first | exact .inl rfl | exact .inr rfl | assumption) : wpAny M A (storeName X.env x u) Q E s := by
  obtain ⟨m, hn, hl⟩ := id I.loc
  have hcls : (X.env.scope.kind == .class || (X.env.scope.kind == .module && X.env.locals != X.env.globals)) = false := by rw [I.ok.kind]; rfl
  have hiσ : i < σ.length := by rw [I.len]; exact (List.getElem?_eq_some_iff.mp hi).1
  have cne := I.cne
  have tracked : ∀ {a : Addr} {h' : Heap}, (∃ o, s.heap.get? a = some o ∧ H a = none) → Heap.SameBut a s.heap h' → HOk X.prog X.w H h' := fun {a h'} ha hs b ob e => by
    obtain ⟨_, _, hfree⟩ := ha
    refine (I.hok b ob e).stay (fun c w' hc q => (hs.2 c ?_).trans q) (fun _ q => q) fun _ _ q => q
    rintro rfl
    rcases hc with rfl | hc
    · rw [hfree] at e; cases e
    · rw [hfree] at hc; cases hc
  rcases hx with hk | hk
  · refine wpAny_storeName_local hk hn (fun h' hn' hs => ?_) hcls
    obtain ⟨oL, _, _, hoL, _⟩ := id hn
    refine h _ ⟨I.ok, I.os, I.bare, ⟨fun b o e n hb hx => ?_, fun b o e n hb hx => ?_, I.base.free, fun b o e hx => ?_, I.base.tups, I.base.frzs, I.base.tbls⟩, ⟨_, hn', fun j y v' e1 e2 e3 => ?_⟩, fun y c e => ?_, I.free, I.freeC, fun p hp => ?_, tracked ⟨oL, hoL, I.free⟩ hs, by simpa using I.len⟩ ⟨_, hs, .inl rfl⟩
    · exact (hs.2 b (Nat.ne_of_lt (Nat.lt_of_lt_of_le (Heap.lt_size e) I.ok.above))).trans (I.base.keep b o e n hb hx)
    · obtain ⟨sl, e1⟩ := I.base.slot b o e n hb hx
      exact ⟨sl, (hs.2 b (Nat.ne_of_lt (Nat.lt_of_lt_of_le (Heap.lt_size e) I.ok.above))).trans e1⟩
    · obtain ⟨o', e1⟩ := I.base.there b o e hx
      exact ⟨o', (hs.2 b (Nat.ne_of_lt (Nat.lt_of_lt_of_le (Heap.lt_size e) I.ok.above))).trans e1⟩
    · by_cases hj : j = i
      · subst hj
        rw [hi] at e1; cases e1
        rw [List.getElem?_set_self hiσ] at e2
        cases e2
        exact ⟨u, r, .inl ⟨hk, by simp⟩⟩
      · rw [List.getElem?_set_ne (Ne.symm hj)] at e2
        obtain ⟨u', r', q⟩ := hl j y v' e1 e2 e3
        refine ⟨u', r', ?_⟩
        rcases q with ⟨k, e⟩ | ⟨k, c, e, z⟩
        · refine .inl ⟨k, ?_⟩
          have : y ≠ x := fun e => hj (nodup_ix hN e1 (e ▸ hi))
          simp [this, e]
        · exact .inr ⟨k, c, e, z.sameBut hs (cne y c e)⟩
    · obtain ⟨w', z⟩ := I.cell y c e
      exact ⟨w', z.sameBut hs (cne y c e)⟩
    · obtain ⟨e, n, ne, nf, d⟩ := I.pin p hp
      exact ⟨(hs.2 p.1 ne).trans e, n, ne, nf, d⟩
  · have hfn : X.fn x = true := by
      rcases hf with z | z
      · exact z
      · rw [z] at hk; cases hk
    obtain ⟨c, hc⟩ := I.ok.has x (.inl hk)
    obtain ⟨w', z⟩ := I.cell x c hc
    refine wpAny_storeName_cell I.ok.kind hk hc z (fun h' hc' hs => ?_)
    obtain ⟨oc, hoc, hocd⟩ := id z
    refine h { s with heap := h' } ⟨I.ok, I.os, I.bare, ⟨fun b o e n hb hx => ?_, fun b o e n hb hx => ?_, I.base.free, fun b o e hx => ?_, I.base.tups, I.base.frzs, I.base.tbls⟩, ⟨m, hn.sameBut hs (Ne.symm (cne x c hc)), fun j y v' e1 e2 e3 => ?_⟩, fun y c' e => ?_, I.free, I.freeC, fun p hp => ?_, tracked ⟨oc, hoc, I.freeC x c hc⟩ hs, by simpa using I.len⟩ ⟨c, hs, .inr hc⟩
    · exact (hs.2 b (Nat.ne_of_lt (Nat.lt_of_lt_of_le (Heap.lt_size e) (I.ok.cab x c hfn hc)))).trans (I.base.keep b o e n hb hx)
    · obtain ⟨sl, e1⟩ := I.base.slot b o e n hb hx
      exact ⟨sl, (hs.2 b (Nat.ne_of_lt (Nat.lt_of_lt_of_le (Heap.lt_size e) (I.ok.cab x c hfn hc)))).trans e1⟩
    · obtain ⟨o', e1⟩ := I.base.there b o e hx
      exact ⟨o', (hs.2 b (Nat.ne_of_lt (Nat.lt_of_lt_of_le (Heap.lt_size e) (I.ok.cab x c hfn hc)))).trans e1⟩
    · by_cases hj : j = i
      · subst hj
        rw [hi] at e1; cases e1
        rw [List.getElem?_set_self hiσ] at e2
        cases e2
        exact ⟨u, r, .inr ⟨.inl hk, c, hc, hc'⟩⟩
      · rw [List.getElem?_set_ne (Ne.symm hj)] at e2
        obtain ⟨u', r', q⟩ := hl j y v' e1 e2 e3
        refine ⟨u', r', ?_⟩
        rcases q with q | ⟨k, c', e, z'⟩
        · exact .inl q
        · refine .inr ⟨k, c', e, z'.sameBut hs ?_⟩
          rintro rfl
          exact hj (nodup_ix hN e1 (I.ok.inj _ _ _ e hc ▸ hi))
    · by_cases hcc : c' = c
      · subst hcc; exact ⟨_, hc'⟩
      · obtain ⟨w2, z2⟩ := I.cell y c' e
        exact ⟨w2, z2.sameBut hs hcc⟩
    · obtain ⟨e, n, ne, nf, d⟩ := I.pin p hp
      refine ⟨(hs.2 p.1 ?_).trans e, n, ne, nf, d⟩
      intro q
      rw [q, hoc] at e
      have q' : oc = p.2 := Option.some.inj e
      exact d w' (by rw [← q']; exact hocd)
theorem store_ok {M : Model} {A : Around} {E : Value → Shared → Prop} {i : Nat} {x : Str} {v : V} {u : Value} {Q : Unit → Shared → Prop} (I : Inv X pins σ H s) (hN : X.N.Nodup) (hi : X.N[i]? = some x) (hx : Loc X.env.scope x) (r : RelV v u)
    (h : ∀ s', Inv X pins (σ.set i (some v)) H s' → Q () s') (hf : X.fn x = true ∨ X.env.scope.names.lookup x = some .local := by first | exact .inl rfl | exact .inr rfl | assumption) : wpAny M A (storeName X.env x u) Q E s :=
  store_ok2 I hN hi hx r (fun s' I' _ => h s' I') hf
theorem Inv.call' {s' : Shared} {ch : List Addr} (I : Inv X pins σ H s) (ho : s'.os = s.os) (u : Un (frs X.stack) ch H H' s.heap s'.heap) (hok : HOk X.prog X.w H' s'.heap) (hg : AllBare s'.gens)
    (hch : ∀ b ∈ ch, (b ∈ X.ex ∨ X.s_0.heap.objs.size ≤ b) ∧ b ≠ X.env.locals ∧ (∀ x c, X.env.cells.lookup x = some c → c ≠ b) ∧ ∀ p ∈ X.pn ++ pins, p.1 ≠ b) : Inv X pins σ H' s' := by
  obtain ⟨h', g', d', t', o'⟩ := s'
  have e : o' = s.os := ho
  subst e
  exact I.call (g' := g') (t' := t') (d' := d') u hok hg hch
end
abbrev XK := Value → Option Addr → Hp → Prop
abbrev St := List (Option V)
abbrev VK := V → Hp → Prop
abbrev TE := St → Hp → VK → Prop
abbrev TT := St → Hp → (Bool → Hp → Prop) → Prop
abbrev TA := St → Hp → (List V → Hp → Prop) → Prop
structure Ends where
  nx : St → Hp → Prop
  rt : VK
  bk : St → Hp → Prop := fun _ _ => False
  ct : St → Hp → Prop := fun _ _ => False
abbrev TS := Ends → St → Hp → Prop
def EP (X : Cx) (pins : List (Addr × Obj)) (σ : St) (Q : VK) (u : Value) (s' : Shared) : Prop := ∃ v H', Inv X pins σ H' s' ∧ RelV v u ∧ Q v H'
def TP (X : Cx) (pins : List (Addr × Obj)) (σ : St) (Q : Bool → Hp → Prop) (b : Bool) (s' : Shared) : Prop := ∃ H', Inv X pins σ H' s' ∧ Q b H'
def AP (X : Cx) (pins : List (Addr × Obj)) (σ : St) (Q : List V → Hp → Prop) (us : List Value) (s' : Shared) : Prop := ∃ vs H', Inv X pins σ H' s' ∧ Vals vs us ∧ Q vs H'
def SP (X : Cx) (pins : List (Addr × Obj)) (D : Ends) (f : Flow) (s' : Shared) : Prop :=
  match f with
  | .next => ∃ σ' H', Inv X pins σ' H' s' ∧ D.nx σ' H'
  | .brk => ∃ σ' H', Inv X pins σ' H' s' ∧ D.bk σ' H'
  | .cont => ∃ σ' H', Inv X pins σ' H' s' ∧ D.ct σ' H'
  | .ret u => ∃ v σ' H', Inv X pins σ' H' s' ∧ RelV v u ∧ D.rt v H'
def PE (X : Cx) (e : Expr) (t : TE) : Prop :=
  ∀ (pins : List (Addr × Obj)) (s : Shared) (σ : St) (H : Hp) (Q : VK), Inv X pins σ H s → t σ H Q → wpAny (model X.prog X.w) X.A (eval e X.env) (EP X pins σ Q) X.xe s
def PT (X : Cx) (e : Expr) (t : TT) : Prop :=
  ∀ (pins : List (Addr × Obj)) (s : Shared) (σ : St) (H : Hp) (Q : Bool → Hp → Prop), Inv X pins σ H s → t σ H Q → wpAny (model X.prog X.w) X.A (isTrue e X.env (eval e X.env)) (TP X pins σ Q) X.xe s
def PW (X : Cx) (e : Expr) (t : TT) : Prop :=
  ∀ (whole : Sem Value) (pins : List (Addr × Obj)) (s : Shared) (σ : St) (H : Hp) (Q : Bool → Hp → Prop), Inv X pins σ H s → t σ H Q → wpAny (model X.prog X.w) X.A (isTrue e X.env whole) (TP X pins σ Q) X.xe s
theorem PW.pt {X : Cx} {e : Expr} {t : TT} (h : PW X e t) : PT X e t := h _
def PA (X : Cx) (es : List Expr) (t : TA) : Prop :=
  ∀ (pos : Pos) (pins : List (Addr × Obj)) (s : Shared) (σ : St) (H : Hp) (Q : List V → Hp → Prop), Inv X pins σ H s → t σ H Q → wpAny (model X.prog X.w) X.A (spliced (backTo pos (starEach es X.env))) (AP X pins σ Q) X.xe s
def PS (X : Cx) (st : Stmt) (t : TS) : Prop :=
  ∀ (pins : List (Addr × Obj)) (s : Shared) (σ : St) (H : Hp) (D : Ends), Inv X pins σ H s → t D σ H → wpAny (model X.prog X.w) X.A (exec st X.env) (SP X pins D) X.xe s
def PSs (X : Cx) (st : List Stmt) (t : TS) : Prop :=
  ∀ (pins : List (Addr × Obj)) (s : Shared) (σ : St) (H : Hp) (D : Ends), Inv X pins σ H s → t D σ H → wpAny (model X.prog X.w) X.A (execs st X.env) (SP X pins D) X.xe s
theorem thn {α : Type} {t : Sem α} {Q Q' : α → Shared → Prop} {M : Model} {A : Around} {E : Value → Shared → Prop} {s : Shared} (h : wpAny M A t Q E s) (hQ : ∀ a s, Q a s → Q' a s) : wpAny M A t Q' E s := wpAny_mono h hQ fun _ _ x => x
end L2
namespace L2
open PySem PySem.Spec PyProof.Rows
section
variable {X : Cx}
def tVar (i : Nat) : TE := fun σ H Q => ∃ v, σ[i]? = some (some v) ∧ Q v H
def tC (v : V) : TE := fun _ H Q => Q v H
theorem pe_var {i : Nat} {x : Str} {pos : Pos} (hN : X.N[i]? = some x) (hv : Vis X.env.scope x) (hd : (x == ("__debug__" : Str)) = false := by decide) (hcd : (x == ("__classdict__" : Str)) = false := by decide) : PE X (.Name x pos) (tVar i) := by
  intro pins s σ H Q I h
  obtain ⟨v, e, h⟩ := h
  obtain ⟨m, hn, hl⟩ := I.loc
  obtain ⟨u, r, l⟩ := hl i x v hN e hv
  have fin : EP X pins σ Q u s := ⟨v, H, I, r, h⟩
  rcases l with ⟨hk, hm⟩ | ⟨hk, c, hc, hcell⟩
  · exact wpAny_Name (wpAny_loadName_local I.ok.kind hk hn hm fin) hd
  · rcases hk with hk | hk
    · exact wpAny_Name (wpAny_loadName_cell I.ok.kind hk hc hcell fin) hd
    · exact wpAny_Name (wpAny_loadName_free I.ok.kind hk hc hcell fin hcd) hd
theorem pe_int {i j pos} : PE X (.Constant (.int i) j pos) (tC (.int i)) := fun _ _ _ H _ I h => wpAny_Constant_int ⟨.int i, H, I.tok _, ⟨_, rfl⟩, h⟩
theorem pe_bl {b j pos} : PE X (.Constant (.bool b) j pos) (tC (.bl b)) := fun _ _ _ H _ I h => Constant_bool ⟨.bl b, H, I, rfl, h⟩
theorem pe_non {j pos} : PE X (.Constant .none j pos) (tC .non) := fun _ _ _ H _ I h => Constant_none ⟨.non, H, I, rfl, h⟩
theorem pe_str {x j pos} : PE X (.Constant (.str x) j pos) (tC (.str x)) := fun _ _ _ H _ I h => Calls.Constant_str ⟨.str x, H, I.tok _, ⟨_, rfl⟩, h⟩
def Gl (X : Cx) (x : Str) : Prop := X.env.kindOf x = some .globalImplicit
theorem ld_glob {E : Value → Shared → Prop} {pins : List (Addr × Obj)} {s : Shared} {σ : St} {H : Hp} {x : Str} {u : Value} {pos : Pos} {Q : Value → Shared → Prop} (I : Inv X pins σ H s) (hg : Gl X x) (hm : X.mg x = some u) (h : Q u s)
    (hd : (x == ("__debug__" : Str)) = false := by decide) : wpAny (model X.prog X.w) X.A (eval (.Name x pos) X.env) Q E s :=
  Calls.Name_function_global I.ok.kind hg (Calls.loadGlobal_global (by rw [I.ok.glob]; exact I.mod.glob.keeps I.bk) hm h) hd
theorem ld_blt {E : Value → Shared → Prop} {pins : List (Addr × Obj)} {s : Shared} {σ : St} {H : Hp} {x : Str} {u : Value} {pos : Pos} {Q : Value → Shared → Prop} (I : Inv X pins σ H s) (hg : Gl X x) (hm : X.mg x = none) (hv : bootBuiltins x = some u) (h : Q u s)
    (hn : x ≠ "__name__" := by decide) (hd : (x == ("__debug__" : Str)) = false := by decide) : wpAny (model X.prog X.w) X.A (eval (.Name x pos) X.env) Q E s := by
  obtain ⟨mb, h1, h2⟩ := I.mod.blt
  exact Calls.Name_function_global I.ok.kind hg (Calls.loadGlobal_builtin (by rw [I.ok.glob]; exact I.mod.glob.keeps I.bk) hm (by rw [I.ok.blt]; exact h1.keeps I.bk) ((h2 x hn).trans hv) h) hd
theorem pe_glob {x : Str} {v : V} {u : Value} {pos : Pos} (hg : Gl X x) (hm : X.mg x = some u) (r : RelV v u) (hd : (x == ("__debug__" : Str)) = false := by decide) : PE X (.Name x pos) (tC v) :=
  fun _ _ _ H _ I h => ld_glob I hg hm ⟨v, H, I, r, h⟩ hd
theorem pe_bltn {x : Str} {v : V} {u : Value} {pos : Pos} (hg : Gl X x) (hm : X.mg x = none) (hv : bootBuiltins x = some u) (r : RelV v u) (hn : x ≠ "__name__" := by decide) (hd : (x == ("__debug__" : Str)) = false := by decide) : PE X (.Name x pos) (tC v) :=
  fun _ _ _ H _ I h => ld_blt I hg hm hv ⟨v, H, I, r, h⟩ hn hd
variable {a b : Expr} {ta tb : TE} {pos : Pos}
def tB (t : TE) : TT := fun σ H Q => t σ H fun x H1 => ∃ c, x = .bl c ∧ Q c H1
theorem pt_val {e : Expr} {t : TE} (h : PE X e t) (he : ∀ whole, isTrue e X.env whole = (do let v ← whole; standAt e.pos; holding [v] (truthy v)) := by intro _; rfl) : PT X e (tB t) := by
  intro pins s σ H Q I hw
  refine isTrue_plain (thn (h pins s σ H _ I hw) fun v s1 ⟨x, H1, I1, r1, q1⟩ => ?_) (he _)
  obtain ⟨d, rfl, q⟩ := q1
  cases r1
  exact wpAny_truthy_bool ⟨H1, I1, q⟩
variable {tA tB' : TT} {rest : List Expr}
def tAnd (t u : TT) : TT := fun σ H Q => t σ H fun c H1 => if c = true then u σ H1 Q else Q false H1
def tOr (t u : TT) : TT := fun σ H Q => t σ H fun c H1 => if c = true then Q true H1 else u σ H1 Q
def tNot (t : TT) : TT := fun σ H Q => t σ H fun c H1 => Q (!c) H1
theorem pw_and1 (ha : PT X a tA) : PW X (.BoolOp .And [a] pos) tA := by
  intro wh pins s σ H Q I h
  refine isTrue_and (thn (ha pins s σ H Q I h) fun c s1 e => ?_)
  cases c with
  | true => exact isTrue_and_nil e
  | false => exact e
theorem pw_or1 (ha : PT X a tA) : PW X (.BoolOp .Or [a] pos) tA := by
  intro wh pins s σ H Q I h
  refine isTrue_or (thn (ha pins s σ H Q I h) fun c s1 e => ?_)
  cases c with
  | false => exact isTrue_or_nil e
  | true => exact e
theorem pw_and (ha : PT X a tA) (hb : PW X (.BoolOp .And (b :: rest) pos) tB') : PW X (.BoolOp .And (a :: b :: rest) pos) (tAnd tA tB') := by
  intro wh pins s σ H Q I h
  refine isTrue_and (thn (ha pins s σ H _ I h) fun c s1 ⟨H1, I1, q1⟩ => ?_)
  cases c with
  | true => exact hb wh pins s1 σ H1 Q I1 q1
  | false => exact ⟨H1, I1, q1⟩
theorem pw_or (ha : PT X a tA) (hb : PW X (.BoolOp .Or (b :: rest) pos) tB') : PW X (.BoolOp .Or (a :: b :: rest) pos) (tOr tA tB') := by
  intro wh pins s σ H Q I h
  refine isTrue_or (thn (ha pins s σ H _ I h) fun c s1 ⟨H1, I1, q1⟩ => ?_)
  cases c with
  | true => exact ⟨H1, I1, q1⟩
  | false => exact hb wh pins s1 σ H1 Q I1 q1
theorem pt_not (ha : PT X a tA) : PT X (.UnaryOp .Not a pos) (tNot tA) := by
  intro pins s σ H Q I h
  exact isTrue_not (ha pins s σ H (fun c H1 => Q (!c) H1) I h)
def tAndV (ta tb : TE) : TE := fun σ H Q => ta σ H fun x H1 => ∃ c, x = .bl c ∧ if c = true then tb σ H1 Q else Q (.bl false) H1
def tNotV (ta : TE) : TE := fun σ H Q => ta σ H fun x H1 => ∃ c, x = .bl c ∧ Q (.bl (!c)) H1
theorem pe_one {op} {t : TE} (h : PE X a t) : PE X (.BoolOp op [a] pos) t := fun pins s σ H Q I hw => BoolOp_one (h pins s σ H Q I hw)
theorem pe_and (ha : PE X a ta) (hb : PE X (.BoolOp .And (b :: rest) pos) tb) : PE X (.BoolOp .And (a :: b :: rest) pos) (tAndV ta tb) := by
  intro pins s σ H Q I h
  refine BoolOp_and (thn (ha pins s σ H _ I h) fun v s1 ⟨x, H1, I1, r1, q1⟩ => ?_)
  obtain ⟨c, rfl, q1⟩ := q1
  cases r1
  refine wpAny_truthy_bool ?_
  cases c with
  | true => exact hb pins s1 σ H1 Q I1 q1
  | false => exact ⟨.bl false, H1, I1, rfl, q1⟩
theorem pe_not (ha : PE X a ta) : PE X (.UnaryOp .Not a pos) (tNotV ta) := by
  intro pins s σ H Q I h
  refine UnaryOp_ (thn (ha pins s σ H _ I h) fun v s1 ⟨x, H1, I1, r1, q1⟩ => ?_)
  obtain ⟨c, rfl, q1⟩ := q1
  cases r1
  exact not_of (wpAny_truthy_bool ⟨.bl (!c), H1, I1, rfl, q1⟩)
end
end L2
namespace L2
open PySem PySem.Spec PyProof.Rows
def SqL (K : PySem.W.Frag) (H : Hp) (a : Addr) (xs : List V) : Prop :=
  Rd H a (.lst xs) ∨
    ∃ (o : Obj) (its : Array Value) (n : Nat), K.lookup a = some o ∧ o.cls = .type "list" ∧ o.dict = none ∧ o.data = .seq its n ∧ its.size ≤ sizeLine ∧ Vals xs its.toList
def SqT (K : PySem.W.Frag) (H : Hp) (a : Addr) (xs : List V) : Prop :=
  Rd H a (.tup xs) ∨
    ∃ (o : Obj) (its : Array Value) (n : Nat), K.lookup a = some o ∧ o.cls = .type "tuple" ∧ o.data = .seq its n ∧ its.size ≤ sizeLine ∧ Vals xs its.toList
def absV : Value → Option V
  | .none => some .non
  | .bool b => some (.bl b)
  | .int i _ => some (.int i)
  | .str x _ => some (.str x)
  | .bytes b _ => some (.byt b)
  | .float b _ => some (.flt b)
  | .ref a => some (.ref a)
  | .type n => some (.ty n)
  | _ => none
theorem RelV.abs {x : V} {u : Value} (r : RelV x u) : absV u = some x := by
  cases x with
  | non => cases r; rfl
  | bl _ => cases r; rfl
  | int _ => obtain ⟨t, rfl⟩ := r; rfl
  | str _ => obtain ⟨t, rfl⟩ := r; rfl
  | byt _ => obtain ⟨t, rfl⟩ := r; rfl
  | flt _ => obtain ⟨t, rfl⟩ := r; rfl
  | ref _ => cases r; rfl
  | ty _ => cases r; rfl
theorem RelV.inj {x y : V} {u : Value} (r : RelV x u) (q : RelV y u) : x = y := Option.some.inj (r.abs.symm.trans q.abs)
theorem Vals.inj : ∀ {xs ys : List V} {us : List Value}, Vals xs us → Vals ys us → xs = ys
  | _, _, _, .nil, .nil => rfl
  | _, _, _, .cons r t, .cons r' t' => by rw [r.inj r', Vals.inj t t']
section
variable {X : Cx} {pins : List (Addr × Obj)} {σ : St} {H : Hp} {s : Shared} {a : Addr} {xs ys : List V}
theorem SqL.of {K : PySem.W.Frag} (h : H a = some (.lst xs)) : SqL K H a xs := .inl (.inl h)
theorem SqT.of {K : PySem.W.Frag} (h : H a = some (.tup xs)) : SqT K H a xs := .inl (.inl h)
theorem Inv.list (I : Inv X pins σ H s) (h : SqL X.K H a xs) : ∃ its : List Value, Vals xs its ∧ PlainL s.heap a its.toArray ∧ xs.length ≤ sizeLine := by
  rcases h with h | ⟨o, its, n, hk, hc, hd, hs, hz, r⟩
  · obtain ⟨z, its, n, r, e⟩ := h.ok I.hok
    exact ⟨its, r, ⟨_, n, e, rfl, rfl, rfl⟩, z⟩
  · refine ⟨its.toList, r, ⟨o, n, I.kIn a o hk, hc, hd, by simpa using hs⟩, ?_⟩
    have e := r.length
    simp only [Array.length_toList] at e
    omega
theorem Inv.tuple (I : Inv X pins σ H s) (h : SqT X.K H a xs) : ∃ its : List Value, Vals xs its ∧ IsTup s.heap a its.toArray ∧ xs.length ≤ sizeLine := by
  rcases h with h | ⟨o, its, n, hk, hc, hs, hz, r⟩
  · obtain ⟨z, its, r, p⟩ := h.ok I.hok
    exact ⟨its, r, p, z⟩
  · refine ⟨its.toList, r, ⟨o, I.kIn a o hk, hc, n, by simpa using hs⟩, ?_⟩
    have e := r.length
    simp only [Array.length_toList] at e
    omega
theorem Inv.list_inj (I : Inv X pins σ H s) (h : SqL X.K H a xs) (h' : SqL X.K H a ys) : xs = ys := by
  obtain ⟨its, r, ⟨o, n, e, _, _, d⟩, _⟩ := I.list h
  obtain ⟨its', r', ⟨o', n', e', _, _, d'⟩, _⟩ := I.list h'
  rw [e] at e'; cases e'
  rw [d] at d'
  injection d' with d1 _
  have : its = its' := by simpa using congrArg Array.toList d1
  subst this
  exact r.inj r'
theorem Inv.tuple_inj (I : Inv X pins σ H s) (h : SqT X.K H a xs) (h' : SqT X.K H a ys) : xs = ys := by
  obtain ⟨its, r, ⟨o, e, _, n, d⟩, _⟩ := I.tuple h
  obtain ⟨its', r', ⟨o', e', _, n', d'⟩, _⟩ := I.tuple h'
  rw [e] at e'; cases e'
  rw [d] at d'
  injection d' with d1 _
  have : its = its' := by simpa using congrArg Array.toList d1
  subst this
  exact r.inj r'
end
abbrev Cx.wish (X : Cx) (E : Value → Shared → Prop) : Cx := { X with xe := E }
abbrev Cx.nox (X : Cx) : Cx := X.wish fun _ _ => False
theorem Cx.Ok.wish {X : Cx} (ok : X.Ok) (E : Value → Shared → Prop) : (X.wish E).Ok :=
  ⟨ok.mod, ok.kind, ok.glob, ok.blt, ok.above, ok.inj, ok.has, ok.cab, ok.hd, ok.frames, ok.stk, ok.exf, ok.bs, ok.bsz, ok.noex, ok.exfs, ok.funs, ok.frf⟩
theorem Cx.Ok.unwish {X : Cx} {E : Value → Shared → Prop} (ok : (X.wish E).Ok) : X.Ok :=
  ⟨ok.mod, ok.kind, ok.glob, ok.blt, ok.above, ok.inj, ok.has, ok.cab, ok.hd, ok.frames, ok.stk, ok.exf, ok.bs, ok.bsz, ok.noex, ok.exfs, ok.funs, ok.frf⟩
section
variable {X : Cx} {pins : List (Addr × Obj)} {σ : St} {H : Hp} {s : Shared} {E : Value → Shared → Prop}
theorem Inv.wish (I : Inv X pins σ H s) (E : Value → Shared → Prop) : Inv (X.wish E) pins σ H s := ⟨I.ok.wish E, I.os, I.bare, I.base, I.loc, I.cell, I.free, I.freeC, I.pin, I.hok, I.len⟩
theorem Inv.unwish (I : Inv (X.wish E) pins σ H s) : Inv X pins σ H s := ⟨I.ok.unwish, I.os, I.bare, I.base, I.loc, I.cell, I.free, I.freeC, I.pin, I.hok, I.len⟩
theorem SP.unwish {D : Ends} {f : Flow} {s' : Shared} (h : SP (X.wish E) pins D f s') : SP X pins D f s' := by
  cases f with
  | next => obtain ⟨σ', H', I, q⟩ := h; exact ⟨σ', H', I.unwish, q⟩
  | brk => obtain ⟨σ', H', I, q⟩ := h; exact ⟨σ', H', I.unwish, q⟩
  | cont => obtain ⟨σ', H', I, q⟩ := h; exact ⟨σ', H', I.unwish, q⟩
  | ret u => obtain ⟨v, σ', H', I, r, q⟩ := h; exact ⟨v, σ', H', I.unwish, r, q⟩
theorem PE.nox {e : Expr} {t : TE} (h : PE X.nox e t) : PE X e t := fun pins s σ H Q I hw =>
  wpAny_mono (h pins s σ H Q (I.wish _) hw) (fun _ _ ⟨v, H', I', r, q⟩ => ⟨v, H', I'.unwish, r, q⟩) fun _ _ z => False.elim z
theorem PT.nox {e : Expr} {t : TT} (h : PT X.nox e t) : PT X e t := fun pins s σ H Q I hw =>
  wpAny_mono (h pins s σ H Q (I.wish _) hw) (fun _ _ ⟨H', I', q⟩ => ⟨H', I'.unwish, q⟩) fun _ _ z => False.elim z
theorem PSs.nox {st : List Stmt} {t : TS} (h : PSs X.nox st t) : PSs X st t := fun pins s σ H D I hw =>
  wpAny_mono (h pins s σ H D (I.wish _) hw) (fun _ _ q => q.unwish) fun _ _ z => False.elim z
end
section
variable {X : Cx} {st : Stmt} {rest : List Stmt} {t u : TS} {e : Expr} {te : TE} {pos : Pos}
def tNext : TS := fun D σ H => D.nx σ H
def tSeq (t u : TS) : TS := fun D σ H => t { D with nx := u D } σ H
theorem pss_nil : PSs X [] tNext := fun _ _ σ H _ I h => wpAny_execs_nil ⟨σ, H, I, h⟩
theorem pss_cons (h1 : PS X st t) (h2 : PSs X rest u) : PSs X (st :: rest) (tSeq t u) := by
  intro pins s σ H D I h
  refine wpAny_execs_cons (thn (h1 pins s σ H { D with nx := u D } I h) fun f s1 q => ?_)
  cases f with
  | next =>
    obtain ⟨σ', H', I', q⟩ := q
    exact h2 pins s1 σ' H' D I' q
  | ret v => exact q
  | brk => exact q
  | cont => exact q
theorem pss_one (h1 : PS X st t) : PSs X [st] t := by
  intro pins s σ H D I h
  refine wpAny_execs_cons (thn (h1 pins s σ H D I h) fun f s1 q => ?_)
  cases f with
  | next => exact wpAny_execs_nil q
  | ret v => exact q
  | brk => exact q
  | cont => exact q
def tBreak : TS := fun D σ H => D.bk σ H
theorem ps_break : PS X (.Break pos) tBreak := fun _ _ σ H _ I h => wpAny_Break ⟨σ, H, I, h⟩
theorem Inv.quiet {pins : List (Addr × Obj)} {σ : St} {H : Hp} {s : Shared} (I : Inv X pins σ H s) : interactive X.env = false := by simp [interactive, I.ok.kind]
def tDrop (te : TE) : TS := fun D σ H => te σ H fun _ H1 => D.nx σ H1
theorem ps_expr (he : PE X e te) (hs : swapsWith e none pos.line X.env = pure false := by rfl) : PS X (.Expr e pos) (tDrop te) := by
  intro pins s σ H D I h
  exact wpAny_Expr_any (thn (he pins s σ H _ I h) fun v s1 ⟨x, H1, I1, r1, q1⟩ => ⟨σ, H1, I1, q1⟩) I.quiet hs
def tRet (te : TE) : TS := fun D σ H => te σ H D.rt
theorem ps_ret (he : PE X e te) : PS X (.Return (some e) pos) (tRet te) := by
  intro pins s σ H D I h
  exact wpAny_Return_some (thn (he pins s σ H _ I h) fun v s1 ⟨x, H1, I1, r1, q1⟩ => ⟨x, σ, H1, I1, r1, q1⟩)
def tIfS (c : TT) (t u : TS) : TS := fun D σ H => c σ H fun b H1 => if b = true then t D σ H1 else u D σ H1
theorem ps_if {c : Expr} {a b : List Stmt} {tc : TT} (hc : PT X c tc) (ha : PSs X a t) (hb : PSs X b u) : PS X (.If c a b pos) (tIfS tc t u) := by
  intro pins s σ H D I h
  refine wpAny_If (thn (hc pins s σ H _ I h) fun d s1 ⟨H1, I1, q1⟩ => ?_)
  cases d with
  | true => exact ha pins s1 σ H1 D I1 q1
  | false => exact hb pins s1 σ H1 D I1 q1
def tNever : TS := fun _ _ _ => False
theorem ps_never : PS X st tNever := fun _ _ _ _ _ _ h => h.elim
end
abbrev TG := V → St → Hp → (St → Hp → Prop) → Prop
abbrev TGs := List V → St → Hp → (St → Hp → Prop) → Prop
def PG (X : Cx) (target : Expr) (t : TG) : Prop :=
  ∀ (pins : List (Addr × Obj)) (s : Shared) (σ : St) (H : Hp) (v : V) (u : Value) (Q : St → Hp → Prop), Inv X pins σ H s → RelV v u → t v σ H Q →
    wpAny (model X.prog X.w) X.A (assign target X.env u) (fun _ s' => ∃ σ' H', Inv X pins σ' H' s' ∧ Q σ' H') X.xe s
def PGs (X : Cx) (ts : List Expr) (t : TGs) : Prop :=
  ∀ (pins : List (Addr × Obj)) (s : Shared) (σ : St) (H : Hp) (vs : List V) (us : List Value) (Q : St → Hp → Prop), Inv X pins σ H s → Vals vs us → t vs σ H Q →
    wpAny (model X.prog X.w) X.A (assignInOrder ((assignEach ts X.env).map (·.2)) us) (fun _ s' => ∃ σ' H', Inv X pins σ' H' s' ∧ Q σ' H') X.xe s
abbrev TSet := V → V → V → Hp → (Hp → Prop) → Prop
def PSet (X : Cx) (t : TSet) : Prop :=
  ∀ (pins : List (Addr × Obj)) (s : Shared) (σ : St) (H : Hp) (o i v : V) (ov iv u : Value) (Q : Hp → Prop), Inv X pins σ H s → RelV o ov → RelV i iv → RelV v u → t o i v H Q →
    wpAny (model X.prog X.w) X.A (setItem ov iv u) (fun _ s' => ∃ H', Inv X pins σ H' s' ∧ Q H') X.xe s
section
variable {X : Cx} {pos : Pos}
def gName (i : Nat) : TG := fun v σ H Q => Q (σ.set i (some v)) H
theorem pg_name {i : Nat} {x : Str} (hN : X.N.Nodup) (hi : X.N[i]? = some x) (hx : Loc X.env.scope x) (hf : X.fn x = true ∨ X.env.scope.names.lookup x = some .local := by first | exact .inl rfl | exact .inr rfl | assumption) : PG X (.Name x pos) (gName i) := by
  intro pins s σ H v u Q I r h
  exact wpAny_assign_Name (store_ok I hN hi hx r (fun s' I' => ⟨_, H, I', h⟩) hf)
def gNil : TGs := fun vs σ H Q => vs = [] ∧ Q σ H
def gCons (t : TG) (u : TGs) : TGs := fun vs σ H Q => ∃ v r, vs = v :: r ∧ t v σ H fun σ' H' => u r σ' H' Q
theorem pgs_nil : PGs X [] gNil := by
  intro pins s σ H vs us Q I r h
  obtain ⟨e, h⟩ := h
  subst e
  cases r
  exact assignInOrder_nil ⟨σ, H, I, h⟩
theorem pgs_cons {e : Expr} {es : List Expr} {t : TG} {u : TGs} (h1 : PG X e t) (h2 : PGs X es u)
    (hs : (assignEach (e :: es) X.env).map (·.2) = assign e X.env :: (assignEach es X.env).map (·.2) := by rfl) : PGs X (e :: es) (gCons t u) := by
  intro pins s σ H vs us Q I r h
  obtain ⟨v, vr, e1, h⟩ := h
  subst e1
  cases r with
  | cons r rr =>
    rw [hs]
    refine assignInOrder_cons (thn (h1 pins s σ H _ _ _ I r h) fun _ s1 ⟨σ1, H1, I1, q1⟩ => ?_)
    exact h2 pins s1 σ1 H1 _ _ Q I1 rr q1
def gTup (K : PySem.W.Frag) (n : Nat) (t : TGs) : TG := fun v σ H Q => ∃ a xs, v = .ref a ∧ SqT K H a xs ∧ xs.length = n ∧ t xs σ H Q
theorem pg_tup {es : List Expr} {k : Nat} {t : TGs} {n : Nat} (hc : X.calm = true) (h : PGs X es t)
    (hn : (assignEach es X.env).length = n := by rfl) (hst : (assignEach es X.env).findIdx? (·.1) = none := by rfl) : PG X (.Tuple es k pos) (gTup X.K n t) := by
  intro pins s σ H v u Q I r hw
  obtain ⟨a, xs, e1, hq, hl, hw⟩ := hw
  subst e1
  cases r
  obtain ⟨its, rv, ht, hz⟩ := I.tuple hq
  refine assign_Tuple_tuple (I.ok.hd hc) ht (by simp [hn, ← hl, rv.length]) hst fun h' hx => ?_
  have I1 : Inv X pins σ H { s with heap := h' } := I.kept (t' := s.toks) fun b o e => hx b o (Nat.ne_of_lt (Heap.lt_size e)) e
  exact h pins _ σ H xs _ Q I1 (by simpa using rv) hw
def gSub (to ti : TE) (t : TSet) : TG := fun v σ H Q => to σ H fun o H1 => ti σ H1 fun i H2 => t o i v H2 fun H3 => Q σ H3
theorem pg_sub {o i : Expr} {to ti : TE} {t : TSet} (ho : PE X o to) (hi : PE X i ti) (hs : PSet X t)
    (ha : ∀ v, assign (.Subscript o i pos) X.env v = (do
      let ov ← holding [v] (eval o X.env)
      let iv ← holding [v, ov] (eval i X.env)
      standAt pos
      holding [v, ov, iv] (setItem ov iv v)
      release [v, ov, iv] []) := by intro _; rfl) : PG X (.Subscript o i pos) (gSub to ti t) := by
  intro pins s σ H v u Q I r h
  rw [ha]
  refine wpAny_bind (wpAny_holding (thn (ho pins s σ H _ I h) fun ov s1 ⟨x, H1, I1, r1, q1⟩ => ?_))
  refine wpAny_bind (wpAny_holding (thn (hi pins s1 σ H1 _ I1 q1) fun iv s2 ⟨y, H2, I2, r2, q2⟩ => ?_))
  refine wpAny_bind (wpAny_standAt (wpAny_bind (wpAny_holding (thn (hs pins s2 σ H2 x y v ov iv u _ I2 r1 r2 r q2) fun _ s3 ⟨H3, I3, q3⟩ => ?_))))
  exact wpAny_release ⟨σ, H3, I3, q3⟩
def tAsg (te : TE) (g : TG) : TS := fun D σ H => te σ H fun x H1 => g x σ H1 D.nx
theorem ps_asg {tg e : Expr} {te : TE} {g : TG} (he : PE X e te) (hg : PG X tg g) (hs : swapsWithSole [tg] e pos.line X.env = pure false := by rfl) (hw : swappedStores [tg] e X.env = pure none := by rfl)
    (h1 : (assignEach [tg] X.env).map (·.2) = [assign tg X.env] := by rfl) : PS X (.Assign [tg] e pos) (tAsg te g) := by
  intro pins s σ H D I h
  refine wpAny_Assign_stores (thn (he pins s σ H _ I h) fun v s1 ⟨x, H1, I1, r1, q1⟩ => ?_) hs hw
  rw [h1]
  exact thn (hg pins s1 σ H1 x v _ I1 r1 q1) fun _ s2 q => q
theorem ps_set {i : Nat} {x : Str} {e : Expr} {te : TE} {pos' : Pos} (hN : X.N.Nodup) (hi : X.N[i]? = some x) (hx : Loc X.env.scope x) (he : PE X e te) (hs : swapsWith e (some (.Name x pos')) pos.line X.env = pure false := by rfl) (hf : X.fn x = true ∨ X.env.scope.names.lookup x = some .local := by first | exact .inl rfl | exact .inr rfl | assumption) :
    PS X (.Assign [.Name x pos'] e pos) (tAsg te (gName i)) := by
  intro pins s σ H D I h
  refine wpAny_Assign_Name (thn (he pins s σ H _ I h) fun v s1 ⟨y, H1, I1, r1, q1⟩ => ?_) hs
  exact store_ok I1 hN hi hx r1 (fun s2 I2 => ⟨_, H1, I2, q1⟩) hf
end
section
variable {X : Cx} {pos : Pos}
end
structure It where
  go : Nat → Hp → Prop
  yld : Nat → Hp → V → Hp → Prop
  stop : Nat → Hp → Prop
def FpOk (X : Cx) (pins : List (Addr × Obj)) (H : Hp) (b : Addr) : Prop :=
  H b = none ∧ b ≠ X.env.locals ∧ b ∉ X.fs ∧ (b ∈ X.ex ∨ X.s_0.heap.objs.size ≤ b) ∧ (∀ x c, X.env.cells.lookup x = some c → c ≠ b) ∧ ∀ p ∈ X.pn ++ pins, p.1 ≠ b
theorem Inv.fpOk {X : Cx} {pins : List (Addr × Obj)} {σ : St} {H H' : Hp} {s : Shared} {b : Addr} (I : Inv X pins σ H s) (hb : s.heap.objs.size ≤ b) (hn : H' b = none) : FpOk X pins H' b := by
  refine ⟨hn, Nat.ne_of_gt (Nat.lt_of_lt_of_le I.lt hb), I.nofs hb, .inr (Nat.le_trans I.sz hb), fun x c e z => ?_, fun p hp z => ?_⟩
  · obtain ⟨v, q⟩ := I.cell x c e
    exact absurd (Nat.lt_of_lt_of_le q.lt (by rw [z]; exact hb)) (Nat.lt_irrefl _)
  · exact absurd (Nat.lt_of_lt_of_le (Heap.lt_size (I.pin p hp).1) (by rw [z]; exact hb)) (Nat.lt_irrefl _)
structure Turn (P : Program) (w : World) (K : PySem.W.Frag) (tg : Expr) (J : It) (fp : List Addr) (it : Addr) (tn : Nat → Heap → Prop) : Prop where
  mem : it ∈ fp
  obj : ∀ i h, tn i h → ∀ b ∈ fp, ∃ o, h.get? b = some o ∧ ∀ v, o.data ≠ .cell v
  keep : ∀ i h h', tn i h → (∀ b ∈ fp, ∀ o, h.get? b = some o → h'.get? b = some o) → tn i h'
  item : ∀ (X : Cx), X.prog = P → X.w = w → X.K = K → X.calm = true → ∀ (i : Nat) (pins : List (Addr × Obj)) (s : Shared) (σ : St) (H : Hp) (E : Value → Shared → Prop), Inv X pins σ H s → (∀ b ∈ fp, FpOk X pins H b) → tn i s.heap → J.go i H →
    wpAny (model P w) X.A (pyNext (.ref it)) (fun r s1 => ∃ u, r = some u ∧
      wpAny (model P w) X.A (letOwnedTupleGo tg (.ref it) u) (fun _ s2 => ∃ x H', Inv X pins σ H' s2 ∧ RelV x u ∧ J.yld i H x H' ∧ tn (i + 1) s2.heap ∧ ∀ b ∈ fp, H' b = none) E s1) E s
  done : ∀ (X : Cx), X.prog = P → X.w = w → X.K = K → X.calm = true → ∀ (i : Nat) (pins : List (Addr × Obj)) (s : Shared) (σ : St) (H : Hp) (E : Value → Shared → Prop), Inv X pins σ H s → (∀ b ∈ fp, FpOk X pins H b) → tn i s.heap → J.stop i H →
    wpAny (model P w) X.A (pyNext (.ref it)) (fun r s1 => r = none ∧ Inv X pins σ H s1) E s
  self : ∀ (A : Around) (i : Nat) (s : Shared) (Q : Value → Shared → Prop) (E : Value → Shared → Prop), tn i s.heap → Q (.ref it) s → wpAny (model P w) A (pyIter (.ref it)) Q E s
abbrev TI := St → Hp → (It → Hp → Prop) → Prop
def PIE (X : Cx) (pins : List (Addr × Obj)) (σ : St) (tg : Expr) (R : It → Hp → Prop) (itv : Value) (s2 : Shared) : Prop :=
  ∃ (it : Addr) (fp : List Addr) (tn : Nat → Heap → Prop) (J : It) (H' : Hp), itv = .ref it ∧ Inv X pins σ H' s2 ∧ Turn X.prog X.w X.K tg J fp it tn ∧ tn 0 s2.heap ∧ (∀ b ∈ fp, FpOk X pins H' b) ∧ R J H'
def PI (X : Cx) (tg iter : Expr) (wi : TI) : Prop :=
  ∀ (pins : List (Addr × Obj)) (s : Shared) (σ : St) (H : Hp) (R : It → Hp → Prop), Inv X pins σ H s → wi σ H R →
    wpAny (model X.prog X.w) X.A (eval iter X.env) (fun v s1 => wpAny (model X.prog X.w) X.A (pyIter v) (PIE X pins σ tg R) X.xe s1) X.xe s
theorem go_of {M : Model} {A : Around} {E : Value → Shared → Prop} {s : Shared} {tg : Expr} {it : Addr} {u : Value} {o : Obj} {n : String} {vs : Array Value} {Q : Unit → Shared → Prop} (ho : s.heap.get? it = some o) (hc : o.cls = .type n) (hd : o.data = .fields vs)
    (hn : ["enumerate", "zip", "dict_itemiterator", "dict_reverseitemiterator", "odict_iterator", "itertools.zip_longest", "itertools.pairwise"].contains n = false) (hQ : Q () s) : wpAny M A (letOwnedTupleGo tg (.ref it) u) Q E s := by
  unfold letOwnedTupleGo
  cases tg <;> first
    | exact wpAny_pure hQ
    | (cases u <;> first
        | exact wpAny_pure hQ
        | (refine wpAny_bind (wpAny_load ho ?_)
           rw [hc, hd]
           show wpAny M A (if (["enumerate", "zip", "dict_itemiterator", "dict_reverseitemiterator", "odict_iterator", "itertools.zip_longest", "itertools.pairwise"].contains n && vs[0]? == some (rawInt _)) = true then _ else _) Q E s
           rw [if_neg (by intro h; rw [hn, Bool.false_and] at h; cases h)]
           exact wpAny_pure hQ))
def Itl (K : PySem.W.Frag) (a : Addr) : It :=
  ⟨fun i H => ∃ xs x, SqL K H a xs ∧ xs[i]? = some x, fun i H x H' => H' = H ∧ ∀ xs, SqL K H a xs → xs[i]? = some x, fun i H => ∃ xs, SqL K H a xs ∧ xs.length ≤ i⟩
def Itt (K : PySem.W.Frag) (a : Addr) : It :=
  ⟨fun i H => ∃ xs x, SqT K H a xs ∧ xs[i]? = some x, fun i H x H' => H' = H ∧ ∀ xs, SqT K H a xs → xs[i]? = some x, fun i H => ∃ xs, SqT K H a xs ∧ xs.length ≤ i⟩
def Itr (lo : Int) (n : Nat) : It := ⟨fun i _ => i < n, fun i H x H' => H' = H ∧ x = .int (lo + i), fun i _ => n ≤ i⟩
theorem turn_list {P : Program} {w : World} {K : PySem.W.Frag} {tg : Expr} (a it : Addr) : Turn P w K tg (Itl K a) [it] it (fun i h => h.IsListIter it a i) where
  mem := by simp
  obj := fun i h st b hb => by
    have e : b = it := by simpa using hb
    subst e
    obtain ⟨o, e, c, d⟩ := st
    exact ⟨o, e, fun v z => by rw [d] at z; cases z⟩
  keep := fun i h h' st k => st.at fun o e => k it (by simp) o e
  item := by
    intro X hP hw hK hc i pins s σ H E I hf st hg
    subst hP hw hK
    obtain ⟨xs, x, hq, hx⟩ := hg
    obtain ⟨its, rv, p, hz⟩ := I.list hq
    obtain ⟨u, hu, ru⟩ := rv.get hx
    obtain ⟨f0, f1, f2, f3, f4, f5⟩ := hf it (by simp)
    refine wpAny_pyNext_list_item st p.isList (x := u) (by simpa using hu) fun h' st' sb => ?_
    have I1 : Inv X pins σ H { s with heap := h' } := I.turned (t' := s.toks) (fun b o hb e => (sb.2 b hb).trans e) f0 f1 f3 f4 f5
    obtain ⟨o, e, c, d⟩ := id st'
    exact ⟨u, rfl, go_of (s := { s with heap := h' }) e c d (by decide) ⟨x, H, I1, ru, ⟨rfl, fun ys hy => by rw [I.list_inj hy hq]; exact hx⟩, st', fun b hb => (hf b hb).1⟩⟩
  done := by
    intro X hP hw hK hc i pins s σ H E I hf st hg
    subst hP hw hK
    obtain ⟨xs, hq, hx⟩ := hg
    obtain ⟨its, rv, p, hz⟩ := I.list hq
    obtain ⟨f0, f1, f2, f3, f4, f5⟩ := hf it (by simp)
    have hl := rv.length
    exact wpAny_pyNext_list_end (I.ok.hd hc) st p.isList (by simp; omega) fun h' eb => ⟨rfl, I.turned (t' := s.toks) (fun b o hb e => eb b o hb e) f0 f1 f3 f4 f5⟩
  self := fun _ _ _ _ _ st h => wpAny_pyIter_listiter st h
theorem turn_tuple {P : Program} {w : World} {K : PySem.W.Frag} {tg : Expr} (a it : Addr) : Turn P w K tg (Itt K a) [it] it (fun i h => h.IsTupleIter it a i) where
  mem := by simp
  obj := fun i h st b hb => by
    have e : b = it := by simpa using hb
    subst e
    obtain ⟨o, e, c, d⟩ := st
    exact ⟨o, e, fun v z => by rw [d] at z; cases z⟩
  keep := fun i h h' st k => st.at fun o e => k it (by simp) o e
  item := by
    intro X hP hw hK hc i pins s σ H E I hf st hg
    subst hP hw hK
    obtain ⟨xs, x, hq, hx⟩ := hg
    obtain ⟨its, rv, p, hz⟩ := I.tuple hq
    obtain ⟨u, hu, ru⟩ := rv.get hx
    obtain ⟨f0, f1, f2, f3, f4, f5⟩ := hf it (by simp)
    refine wpAny_pyNext_tuple_item st (show s.heap.IsTuple a its.toArray from p) (x := u) (by simpa using hu) fun h' st' sb => ?_
    have I1 : Inv X pins σ H { s with heap := h' } := I.turned (t' := s.toks) (fun b o hb e => (sb.2 b hb).trans e) f0 f1 f3 f4 f5
    obtain ⟨o, e, c, d⟩ := id st'
    exact ⟨u, rfl, go_of (s := { s with heap := h' }) e c d (by decide) ⟨x, H, I1, ru, ⟨rfl, fun ys hy => by rw [I.tuple_inj hy hq]; exact hx⟩, st', fun b hb => (hf b hb).1⟩⟩
  done := by
    intro X hP hw hK hc i pins s σ H E I hf st hg
    subst hP hw hK
    obtain ⟨xs, hq, hx⟩ := hg
    obtain ⟨its, rv, p, hz⟩ := I.tuple hq
    obtain ⟨f0, f1, f2, f3, f4, f5⟩ := hf it (by simp)
    have hl := rv.length
    exact wpAny_pyNext_tuple_end (I.ok.hd hc) st (show s.heap.IsTuple a its.toArray from p) (by simp; omega) fun h' eb => ⟨rfl, I.turned (t' := s.toks) (fun b o hb e => eb b o hb e) f0 f1 f3 f4 f5⟩
  self := fun _ _ _ _ _ st h => wpAny_pyIter_tupleiter st h
theorem turn_range {P : Program} {w : World} {K : PySem.W.Frag} {tg : Expr} (it : Addr) (lo : Int) (n : Nat) : Turn P w K tg (Itr lo n) [it] it (fun i h => IsRangeIter h it (lo + (i : Nat) * 1) ((n : Int) - (i : Nat)) 1) where
  mem := by simp
  obj := fun i h st b hb => by
    have e : b = it := by simpa using hb
    subst e
    exact ⟨_, st, fun v z => by
      have z' : Data.fields _ = Data.cell v := z
      cases z'⟩
  keep := fun i h h' st k => k it (by simp) _ st
  item := by
    intro X hP hw hK hc i pins s σ H E I hf st hg
    subst hP hw hK
    obtain ⟨f0, f1, f2, f3, f4, f5⟩ := hf it (by simp)
    have W := Walks.range (prog := X.prog) (w := X.w) (I.ok.hd hc) it lo 1 n
    refine W.item i s _ _ hg st fun v h' tk hv st' kk => ?_
    obtain ⟨t, rfl⟩ := hv
    have I1 : Inv X pins σ H { s with heap := h', toks := tk } := I.turned (fun b o hb e => kk b o (by simpa using hb) e) f0 f1 f3 f4 f5
    refine ⟨_, rfl, go_of (s := { s with heap := h', toks := tk }) (n := "range_iterator") st' rfl rfl (by decide) ⟨.int (lo + i), H, I1, ⟨t, ?_⟩, ⟨rfl, rfl⟩, st', fun b hb => (hf b hb).1⟩⟩
    rw [Int.mul_one]
  done := by
    intro X hP hw hK hc i pins s σ H E I hf st hg
    subst hP hw hK
    obtain ⟨f0, f1, f2, f3, f4, f5⟩ := hf it (by simp)
    exact wpAny_pyNext_range_end (I.ok.hd hc) st (by have : n ≤ i := hg; omega) fun h' eb => ⟨rfl, I.turned (t' := s.toks) (fun b o hb e => eb b o hb e) f0 f1 f3 f4 f5⟩
  self := fun _ _ _ _ _ st h => wpAny_pyIter_rangeiter st h
end L2
namespace L2
open PySem PySem.Spec PyProof.Rows
section
variable {X : Cx} {tg : Expr}
theorem range_it {pins : List (Addr × Obj)} {σ : St} {H : Hp} {s : Shared} {R : It → Hp → Prop} {E : Value → Shared → Prop} {lo hi : Int} {t u v : Tok} {tk : Nat} (I : Inv X pins σ H s) (h1 : -(2 ^ 62) ≤ lo) (h2 : lo < 2 ^ 62) (h3 : -(2 ^ 62) ≤ hi) (h4 : hi < 2 ^ 62)
    (q : R (Itr lo (hi - lo).toNat) H) : wpAny (model X.prog X.w) X.A (pyIter (.ref s.heap.objs.size)) (PIE X pins σ tg R) E { s with heap := s.heap.push { cls := .type "range", data := .fields #[.int lo t, .int hi u, .int 1 v] }, toks := tk } := by
  refine wpAny_pyIter_range (IsRange.new ..) (small_one h1 h2 h3 h4) ?_
  have I1 : Inv X pins σ H { s with heap := s.heap.push { cls := .type "range", data := .fields #[.int lo t, .int hi u, .int 1 v] }, toks := tk } := I.kept fun b o e => Heap.get?_push_of_some _ e
  refine ⟨(s.heap.push { cls := .type "range", data := .fields #[.int lo t, .int hi u, .int 1 v] }).objs.size, [(s.heap.push { cls := .type "range", data := .fields #[.int lo t, .int hi u, .int 1 v] }).objs.size], _, _, H, rfl,
    I1.kept (t' := tk) fun b o e => Heap.get?_push_of_some _ e, turn_range _ lo (hi - lo).toNat, ?_, fun b hb => ?_, q⟩
  · have e1 : lo + ((0 : Nat) : Int) * 1 = lo := by simp
    have e2 : (((hi - lo).toNat : Nat) : Int) - ((0 : Nat) : Int) = Builtin.Range.rangeSize lo hi 1 := by rw [rangeSize_one]; split <;> omega
    show IsRangeIter _ _ (lo + ((0 : Nat) : Int) * 1) ((((hi - lo).toNat : Nat) : Int) - ((0 : Nat) : Int)) 1
    rw [e1, e2]
    exact Heap.get?_push_size _ rfl
  · have e : b = (s.heap.push { cls := .type "range", data := .fields #[.int lo t, .int hi u, .int 1 v] }).objs.size := by simpa using hb
    subst e
    exact I1.fpOk (Nat.le_refl _) (I1.hok.fresh (Nat.le_refl _))
def iRng1 (ta : TA) : TI := fun σ H R => ta σ H fun vs H1 => ∃ j : Int, vs = [.int j] ∧ -(2 ^ 62) ≤ j ∧ j < 2 ^ 62 ∧ R (Itr 0 j.toNat) H1
theorem pi_range1 {a : Expr} {ta : TA} {p pos : Pos} (hg : Gl X "range") (hm : X.mg "range" = none) (ha : PA X [a] ta) (hs : starEach [a] X.env = [(false, eval a X.env)] := by rfl) : PI X tg (.Call (.Name "range" p) [a] [] pos) (iRng1 ta) := by
  intro pins s σ H R I h
  refine Call_ (ld_blt I hg hm boot_range (PyProof.Rows.callWith_type1 (thn (ha pos pins s σ H _ I h) fun us s1 ⟨vs, H1, I1, r1, q1⟩ => ?_) hs rfl))
  obtain ⟨j, e, q1, q2, q⟩ := q1
  subst e
  cases r1 with
  | cons r rr =>
    cases rr
    obtain ⟨t, rfl⟩ := r
    exact call_range_1 (range_it I1 (by omega) (by omega) q1 q2 (by simpa using q))
def tFor (wi : TI) (g : TG) (tb : TS) : TS := fun D σ H => wi σ H fun J H1 => ∃ W : Nat → Nat → St → Hp → Prop, (∃ m, W 0 m σ H1) ∧ ∀ i m σ H, W i m σ H →
  (J.stop i H ∧ D.nx σ H) ∨ (J.go i H ∧ ∃ N : St → Hp → Prop, (∀ σ' H', N σ' H' → ∃ m', m' < m ∧ W (i + 1) m' σ' H') ∧ ∀ x H', J.yld i H x H' → g x σ H' fun σ2 H2 => tb { D with nx := N, ct := N, bk := D.nx } σ2 H2)
def pinsAt (fp : List Addr) (h : Heap) : List (Addr × Obj) := fp.filterMap fun b => (h.get? b).map fun o => (b, o)
theorem mem_pinsAt {fp : List Addr} {h : Heap} {b : Addr} {o : Obj} (hb : b ∈ fp) (e : h.get? b = some o) : (b, o) ∈ pinsAt fp h := List.mem_filterMap.mpr ⟨b, hb, by rw [e]; rfl⟩
theorem of_pinsAt {fp : List Addr} {h : Heap} {p : Addr × Obj} (hp : p ∈ pinsAt fp h) : p.1 ∈ fp ∧ h.get? p.1 = some p.2 := by
  obtain ⟨b, hb, e⟩ := List.mem_filterMap.mp hp
  cases q : h.get? b with
  | none => rw [q] at e; cases e
  | some o =>
    rw [q] at e
    have e' : (b, o) = p := Option.some.inj e
    subst e'
    exact ⟨hb, q⟩
theorem Inv.pinned {pins : List (Addr × Obj)} {σ : St} {H : Hp} {s : Shared} {fp : List Addr} (I : Inv X pins σ H s) (hf : ∀ b ∈ fp, FpOk X pins H b) (ho : ∀ b ∈ fp, ∃ o, s.heap.get? b = some o ∧ ∀ v, o.data ≠ .cell v) : Inv X (pins ++ pinsAt fp s.heap) σ H s :=
  I.pins_of fun p hp => (List.mem_append.mp hp).elim (fun z => I.pin p (List.mem_append_right _ z)) fun z => by
    obtain ⟨hb, e⟩ := of_pinsAt z
    obtain ⟨f0, f1, f2, _⟩ := hf p.1 hb
    obtain ⟨o, e', d⟩ := ho p.1 hb
    rw [e] at e'; cases e'
    exact ⟨e, f0, f1, f2, d⟩
theorem Inv.unpinned {pins pl : List (Addr × Obj)} {σ : St} {H : Hp} {s : Shared} (I : Inv X (pins ++ pl) σ H s) : Inv X pins σ H s := I.pins_of fun p hp => I.pin p (List.mem_append_right _ (List.mem_append_left _ hp))
theorem ps_for {iter : Expr} {body : List Stmt} {wi : TI} {g : TG} {tb : TS} {pos : Pos} (hp : PassesOwn (model X.prog X.w) X.A X.env X.xe) (hc : X.calm = true) (hi : PI X tg iter wi) (hg : PG X tg g) (hb : PSs X body tb)
    (hs : ∀ x, foldedSetIterable iter X.env x = pure x := by intro _; rfl) : PS X (.For tg iter body [] pos) (tFor wi g tb) := by
  intro pins s σ H D I h
  refine wpAny_For (thn (hi pins s σ H _ I h) fun v s1 h1 => thn h1 fun itv s2 h2 => ?_) hs
  obtain ⟨it, fp, tn, J, H2, e, I2, T, st2, f2, W, ⟨m0, w0⟩, turn⟩ := h2
  subst e
  have stat : ∀ {H' : Hp}, (∀ b ∈ fp, H' b = none) → ∀ b ∈ fp, FpOk X pins H' b := fun hn b hb => ⟨hn b hb, (f2 b hb).2⟩
  refine codeAny_forLoop_any (fun n s' => ∃ i σ' H', Inv X pins σ' H' s' ∧ tn i s'.heap ∧ (∀ b ∈ fp, H' b = none) ∧ W i n σ' H') ?_ m0 ⟨0, σ, H2, I2, st2, fun b hb => (f2 b hb).1, w0⟩
  rintro n s3 ⟨i, σ3, H3, I3, st3, fr3, w3⟩
  rcases turn i n σ3 H3 w3 with ⟨stop, qn⟩ | ⟨go, N, hN, step⟩
  · refine wpAny_passesOwn hp (thn (T.done X rfl rfl rfl hc i pins s3 σ3 H3 X.xe I3 (stat fr3) st3 stop) fun r s4 ⟨hr, I4⟩ => ?_)
    subst hr
    exact wpAny_execs_nil ⟨σ3, H3, I4, qn⟩
  · refine wpAny_passesOwn hp (thn (T.item X rfl rfl rfl hc i pins s3 σ3 H3 X.xe I3 (stat fr3) st3 go) fun r s4 ⟨u, hr, h4⟩ => ?_)
    subst hr
    refine wpAny_passesOwn hp (thn h4 fun _ s5 ⟨x, H5, I5, r5, y5, st5, fr5⟩ => ?_)
    have I5' := I5.pinned (stat fr5) (T.obj _ _ st5)
    refine wpAny_passesOwn hp (thn (hg _ s5 σ3 H5 x u _ I5' r5 (step x H5 y5)) fun _ s6 ⟨σ6, H6, I6, q6⟩ => ?_)
    refine wpAny_passesOwn hp (thn (hb _ s6 σ6 H6 _ I6 q6) fun f s7 q7 => ?_)
    have again : ∀ {σ7 : St} {H7 : Hp}, Inv X (pins ++ pinsAt fp s5.heap) σ7 H7 s7 → N σ7 H7 → ∃ m, m < n ∧ ∃ i σ' H', Inv X pins σ' H' s7 ∧ tn i s7.heap ∧ (∀ b ∈ fp, H' b = none) ∧ W i m σ' H' := fun {σ7 H7} I7 n7 => by
      obtain ⟨m', hm, w7⟩ := hN σ7 H7 n7
      refine ⟨m', hm, i + 1, σ7, H7, I7.unpinned, T.keep _ _ _ st5 fun b hb o e => (I7.pin (b, o) (List.mem_append_right _ (List.mem_append_right _ (mem_pinsAt hb e)))).1, fun b hb => ?_, w7⟩
      obtain ⟨o, e, d⟩ := T.obj _ _ st5 b hb
      exact (I7.pin (b, o) (List.mem_append_right _ (List.mem_append_right _ (mem_pinsAt hb e)))).2.1
    cases f with
    | next => obtain ⟨σ7, H7, I7, n7⟩ := q7; exact again I7 n7
    | cont => obtain ⟨σ7, H7, I7, n7⟩ := q7; exact again I7 n7
    | brk => obtain ⟨σ7, H7, I7, q7⟩ := q7; exact ⟨σ7, H7, I7.unpinned, q7⟩
    | ret v => obtain ⟨x7, σ7, H7, I7, r7, q7⟩ := q7; exact ⟨x7, σ7, H7, I7.unpinned, r7, q7⟩
end
end L2
namespace L2
open PySem PySem.Spec PyProof.Rows
abbrev R2 := V → V → Hp → VK → Prop
def OpR (X : Cx) (f : Value → Value → Sem Value) (r : R2) : Prop :=
  ∀ (pins : List (Addr × Obj)) (s : Shared) (σ : St) (H : Hp) (x y : V) (v u : Value) (Q : VK), Inv X pins σ H s → RelV x v → RelV y u → r x y H Q →
    wpAny (model X.prog X.w) X.A (f v u) (EP X pins σ Q) X.xe s
def UnR (X : Cx) (f : Value → Sem Value) (r : V → Hp → VK → Prop) : Prop :=
  ∀ (pins : List (Addr × Obj)) (s : Shared) (σ : St) (H : Hp) (x : V) (v : Value) (Q : VK), Inv X pins σ H s → RelV x v → r x H Q →
    wpAny (model X.prog X.w) X.A (f v) (EP X pins σ Q) X.xe s
def CallR (X : Cx) (f : Value) (r : List V → Hp → VK → Prop) : Prop :=
  ∀ (pins : List (Addr × Obj)) (s : Shared) (σ : St) (H : Hp) (xs : List V) (us : List Value) (Q : VK), Inv X pins σ H s → Vals xs us → r xs H Q →
    wpAny (model X.prog X.w) X.A (call f us) (EP X pins σ Q) X.xe s
def tOp (r : R2) (ta tb : TE) : TE := fun σ H Q => ta σ H fun x H1 => tb σ H1 fun y H2 => r x y H2 Q
def tUn (r : V → Hp → VK → Prop) (ta : TE) : TE := fun σ H Q => ta σ H fun x H1 => r x H1 Q
def rI (C : Int → Int → Prop) (g : Int → Int → V) : R2 := fun x y H Q => ∃ i j, x = .int i ∧ y = .int j ∧ C i j ∧ Q (g i j) H
def rI0 (g : Int → Int → V) : R2 := fun x y H Q => ∃ i j, x = .int i ∧ y = .int j ∧ Q (g i j) H
def rU (g : Int → V) : V → Hp → VK → Prop := fun x H Q => ∃ i, x = .int i ∧ Q (g i) H
section
variable {X : Cx} {a b c : Expr} {ta tb tc : TE} {pos : Pos}
theorem binT (ha : PE X a ta) (hb : PE X b tb) {pins : List (Addr × Obj)} {s : Shared} {σ : St} {H : Hp} {R : V → V → Hp → Prop} (I : Inv X pins σ H s)
    (h : ta σ H fun x H1 => tb σ H1 fun y H2 => R x y H2) {Q : Value → Shared → Prop} {f : Value → Value → Sem Value}
    (hf : ∀ v u s2 x y H2, Inv X pins σ H2 s2 → RelV x v → RelV y u → R x y H2 → wpAny (model X.prog X.w) X.A (f v u) Q X.xe s2) :
    wpAny (model X.prog X.w) X.A (eval a X.env) (fun v s₁ => wpAny (model X.prog X.w) X.A (eval b X.env) (fun u s₂ => wpAny (model X.prog X.w) X.A (f v u) Q X.xe s₂) X.xe s₁) X.xe s := by
  refine thn (ha pins s σ H _ I h) fun v s1 ⟨x, H1, I1, r1, q1⟩ => ?_
  refine thn (hb pins s1 σ H1 _ I1 q1) fun u s2 ⟨y, H2, I2, r2, q2⟩ => ?_
  exact hf v u s2 x y H2 I2 r1 r2 q2
theorem pe_op {op : Operator} {r : R2} (ho : OpR X (binaryOp op) r) (ha : PE X a ta) (hb : PE X b tb) : PE X (.BinOp a op b pos) (tOp r ta tb) := by
  intro pins s σ H Q I h
  exact wpAny_BinOp (binT ha hb I h fun v u s2 x y H2 I2 rx ry q => ho pins s2 σ H2 x y v u Q I2 rx ry q)
theorem pe_un {op : UnaryOp} {r : V → Hp → VK → Prop} (ho : UnR X (unaryOp op) r) (ha : PE X a ta) : PE X (.UnaryOp op a pos) (tUn r ta) := by
  intro pins s σ H Q I h
  exact UnaryOp_ (thn (ha pins s σ H _ I h) fun v s1 ⟨x, H1, I1, r1, q1⟩ => ho pins s1 σ H1 x v Q I1 r1 q1)
theorem opI {f : Value → Value → Sem Value} {C : Int → Int → Prop} {g : Int → Int → Int}
    (rule : ∀ (i j : Int) (t u : Tok) (s : Shared) (Q : Value → Shared → Prop) (E : Value → Shared → Prop), C i j → Q (.int (g i j) s.toks) { s with toks := s.toks + 1 } → wpAny (model X.prog X.w) X.A (f (.int i t) (.int j u)) Q E s) :
    OpR X f (rI C fun i j => .int (g i j)) := by
  intro pins s σ H x y v u Q I rx ry h
  obtain ⟨i, j, rfl, rfl, hc, q⟩ := h
  obtain ⟨t, rfl⟩ := rx
  obtain ⟨t', rfl⟩ := ry
  exact rule i j t t' s _ _ hc ⟨.int (g i j), H, I.tok _, ⟨_, rfl⟩, q⟩
theorem opI0 {f : Value → Value → Sem Value} {g : Int → Int → Int}
    (rule : ∀ (i j : Int) (t u : Tok) (s : Shared) (Q : Value → Shared → Prop) (E : Value → Shared → Prop), Q (.int (g i j) s.toks) { s with toks := s.toks + 1 } → wpAny (model X.prog X.w) X.A (f (.int i t) (.int j u)) Q E s) :
    OpR X f (rI0 fun i j => .int (g i j)) := by
  intro pins s σ H x y v u Q I rx ry h
  obtain ⟨i, j, rfl, rfl, q⟩ := h
  obtain ⟨t, rfl⟩ := rx
  obtain ⟨t', rfl⟩ := ry
  exact rule i j t t' s _ _ ⟨.int (g i j), H, I.tok _, ⟨_, rfl⟩, q⟩
theorem opB0 {f : Value → Value → Sem Value} {g : Int → Int → Bool}
    (rule : ∀ (i j : Int) (t u : Tok) (s : Shared) (Q : Value → Shared → Prop) (E : Value → Shared → Prop), Q (.bool (g i j)) s → wpAny (model X.prog X.w) X.A (f (.int i t) (.int j u)) Q E s) :
    OpR X f (rI0 fun i j => .bl (g i j)) := by
  intro pins s σ H x y v u Q I rx ry h
  obtain ⟨i, j, rfl, rfl, q⟩ := h
  obtain ⟨t, rfl⟩ := rx
  obtain ⟨t', rfl⟩ := ry
  exact rule i j t t' s _ _ ⟨.bl (g i j), H, I, rfl, q⟩
def CPow (i j : Int) : Prop := 0 ≤ j ∧ j ≤ 1000000 ∧ i.natAbs < 2 ^ 64
def CMul (i j : Int) : Prop := (-(2 ^ 64) < i ∧ i < 2 ^ 64) ∨ (-(2 ^ 64) < j ∧ j < 2 ^ 64)
theorem CMul.ok {i j : Int} (h : CMul i j) : IntMulOk i j := by
  rcases h with ⟨h1, h2⟩ | ⟨h1, h2⟩
  · exact .of_left (intBits_le_64 h1 h2)
  · exact .of_right (intBits_le_64 h1 h2)
theorem op_add : OpR X (binaryOp .Add) (rI0 fun i j => .int (i + j)) := opI0 fun _ _ _ _ _ _ _ q => add_int q
theorem op_sub : OpR X (binaryOp .Sub) (rI0 fun i j => .int (i - j)) := opI0 fun _ _ _ _ _ _ _ q => sub_int q
theorem op_mod : OpR X (binaryOp .Mod) (rI (fun _ j => 0 < j) fun i j => .int (i % j)) := opI fun i j _ _ _ _ _ hc q => by
  have h1 : (0 : Int) < j := hc
  exact mod_int' (by omega) (by rw [Int.fmod_eq_emod_of_nonneg i (by omega)]; exact q)
theorem op_pow : OpR X (binaryOp .Pow) (rI CPow fun i j => .int (i ^ j.toNat)) := opI fun _ _ _ _ _ _ _ hc q => pow_int_small hc.1 hc.2.1 hc.2.2 q
theorem unI {f : Value → Sem Value} {g : Int → Int}
    (rule : ∀ (i : Int) (t : Tok) (s : Shared) (Q : Value → Shared → Prop) (E : Value → Shared → Prop), Q (.int (g i) s.toks) { s with toks := s.toks + 1 } → wpAny (model X.prog X.w) X.A (f (.int i t)) Q E s) :
    UnR X f (rU fun i => .int (g i)) := by
  intro pins s σ H x v Q I rx h
  obtain ⟨i, rfl, q⟩ := h
  obtain ⟨t, rfl⟩ := rx
  exact rule i t s _ _ ⟨.int (g i), H, I.tok _, ⟨_, rfl⟩, q⟩
theorem un_neg : UnR X (unaryOp .USub) (rU fun i => .int (-i)) := unI fun _ _ _ _ _ q => neg_int q
end
section
variable {X : Cx} {a b c : Expr} {ta tb tc : TE} {pos : Pos}
theorem op_lt : OpR X (compareOp .Lt) (rI0 fun i j => .bl (decide (i < j))) := opB0 fun _ _ _ _ _ _ _ q => lt_int q
theorem op_le : OpR X (compareOp .LtE) (rI0 fun i j => .bl (decide (i ≤ j))) := opB0 fun _ _ _ _ _ _ _ q => le_int q
theorem op_gt : OpR X (compareOp .Gt) (rI0 fun i j => .bl (decide (j < i))) := opB0 fun _ _ _ _ _ _ _ q => gt_int q
theorem op_ge : OpR X (compareOp .GtE) (rI0 fun i j => .bl (decide (j ≤ i))) := opB0 fun _ _ _ _ _ _ _ q => ge_int q
theorem OpR.or {f : Value → Value → Sem Value} {r r' : R2} (h : OpR X f r) (h' : OpR X f r') : OpR X f (fun x y H Q => r x y H Q ∨ r' x y H Q) := by
  intro pins s σ H x y v u Q I rx ry q
  rcases q with q | q
  · exact h pins s σ H x y v u Q I rx ry q
  · exact h' pins s σ H x y v u Q I rx ry q
theorem nomark (b : Expr) {op : CmpOp} (h : op ≠ .In := by decide) (h2 : op ≠ .NotIn := by decide) : behindInMarks op b = false := by
  have e1 : (op == CmpOp.In) = false := by cases op <;> first | rfl | exact absurd rfl h
  have e2 : (op == CmpOp.NotIn) = false := by cases op <;> first | rfl | exact absurd rfl h2
  cases b <;> simp [behindInMarks, e1, e2]
theorem pe_cmpR {op : CmpOp} {r : R2} (ho : OpR X (compareOp op) r) (ha : PE X a ta) (hb : PE X b tb) (hm : behindInMarks op b = false) : PE X (.Compare a [op] [b] pos) (tOp r ta tb) := by
  intro pins s σ H Q I h
  exact wpAny_Compare1 (binT ha hb I h fun v u s2 x y H2 I2 rx ry q => ho pins s2 σ H2 x y v u Q I2 rx ry q) hm
def tTest (t : TE) : TT := fun σ H Q => t σ H fun x H' => ∃ k, x = .bl k ∧ Q k H'
theorem pt_cmpR {op : CmpOp} {r : R2} (ho : OpR X (compareOp op) r) (ha : PE X a ta) (hb : PE X b tb) (hm : behindInMarks op b = false) : PT X (.Compare a [op] [b] pos) (tTest (tOp r ta tb)) := by
  intro pins s σ H Q I h
  refine wpAny_isTrue_Compare1 (thn (ha pins s σ H _ I h) fun v s1 ⟨x, H1, I1, r1, q1⟩ => thn (hb pins s1 σ H1 _ I1 q1) fun u s2 ⟨y, H2, I2, r2, q2⟩ =>
    thn (ho pins s2 σ H2 x y v u _ I2 r1 r2 q2) fun c s3 ⟨z, H3, I3, r3, k, e, q3⟩ => ?_) hm
  subst e
  cases r3
  exact wpAny_truthy_bool ⟨H3, I3, q3⟩
def tChain (r r' : R2) (ta tb tc : TE) : TE := fun σ H Q => ta σ H fun x H1 => tb σ H1 fun y H2 => r x y H2 fun z H3 => ∃ k, z = .bl k ∧
  (if k = true then tc σ H3 fun w' H4 => r' y w' H4 Q else Q (.bl false) H3)
theorem pe_chain {op op' : CmpOp} {r r' : R2} (ho : OpR X (compareOp op) r) (ho' : OpR X (compareOp op') r') (ha : PE X a ta) (hb : PE X b tb) (hc : PE X c tc)
    (hm : lastMarks [op, op'] [b, c] = false := by with_unfolding_all rfl) : PE X (.Compare a [op, op'] [b, c] pos) (tChain r r' ta tb tc) := by
  intro pins s σ H Q I h
  refine Compare_chain (thn (ha pins s σ H _ I h) fun v s1 ⟨x, H1, I1, r1, q1⟩ => chain_link (thn (hb pins s1 σ H1 _ I1 q1) fun u s2 ⟨y, H2, I2, r2, q2⟩ =>
    thn (ho pins s2 σ H2 x y v u _ I2 r1 r2 q2) fun d s3 ⟨z, H3, I3, r3, k, e, q3⟩ => ?_)) hm
  subst e
  cases r3
  refine wpAny_truthy_bool ?_
  cases k with
  | false => exact ite_ff ⟨.bl false, H3, I3, rfl, q3⟩
  | true => exact ite_tt (chain_last (thn (hc pins s3 σ H3 _ I3 q3) fun w' s4 ⟨z', H4, I4, r4, q4⟩ => ho' pins s4 σ H4 y z' u w' Q I4 r2 r4 q4))
theorem line63 : (sizeLine : Nat) < 2 ^ 63 := by rw [sizeLine_eq]; decide
theorem vals1 {x : V} {us : List Value} (r : Vals [x] us) : ∃ u, us = [u] ∧ RelV x u := by
  cases r with
  | cons r1 r2 => cases r2; exact ⟨_, rfl, r1⟩
def LenV (K : PySem.W.Frag) (x : V) (H : Hp) (n : Nat) : Prop :=
  match x with
  | .str y => y.length ≤ sizeLine ∧ n = y.length
  | .byt y => y.size ≤ sizeLine ∧ n = y.size
  | .ref p => (∃ xs, SqL K H p xs ∧ n = xs.length) ∨ ∃ xs, SqT K H p xs ∧ n = xs.length
  | _ => False
theorem call_len : CallR X (.builtin "len") (fun xs H Q => ∃ x n, xs = [x] ∧ LenV X.K x H n ∧ Q (.int n) H) := by
  intro pins s σ H xs us Q I r h
  obtain ⟨x, n, rfl, e, q⟩ := h
  obtain ⟨u, rfl, rx⟩ := vals1 r
  have hl := line63
  have hs : sizeLine = 16777216 := sizeLine_eq
  cases x with
  | str y =>
    obtain ⟨t, rfl⟩ := rx
    obtain ⟨hy, e'⟩ : y.length ≤ sizeLine ∧ n = y.length := e
    subst e'
    exact len_str (by omega) ⟨.int _, H, I.tok _, ⟨_, rfl⟩, q⟩
  | byt y =>
    obtain ⟨t, rfl⟩ := rx
    obtain ⟨hy, e'⟩ : y.size ≤ sizeLine ∧ n = y.size := e
    subst e'
    exact PySem.W.len_bytes (by omega) ⟨.int _, H, I.tok _, ⟨_, rfl⟩, q⟩
  | ref p =>
    cases rx
    have e' : (∃ xs, SqL X.K H p xs ∧ n = xs.length) ∨ ∃ xs, SqT X.K H p xs ∧ n = xs.length := e
    rcases e' with ⟨xs, hx, e'⟩ | ⟨xs, hx, e'⟩
    · subst e'
      obtain ⟨its, r', pl, hz⟩ := I.list hx
      have hlen := r'.length
      exact Calls.call_len_list pl.isList (by simp only [List.size_toArray]; omega) ⟨.int xs.length, H, I.tok _, ⟨_, by simp only [List.size_toArray]; rw [hlen]⟩, q⟩
    · subst e'
      obtain ⟨its, r', pl, hz⟩ := I.tuple hx
      have hlen := r'.length
      exact len_tuple pl (by simp only [List.size_toArray]; omega) ⟨.int xs.length, H, I.tok _, ⟨_, by simp only [List.size_toArray]; rw [hlen]⟩, q⟩
  | _ => exact (show False from e).elim
end
end L2
namespace L2
open PySem PySem.Spec PyProof.Rows
structure ObjM (h : Heap) (x dx C : Addr) (mA : Str → Option Value) : Prop where
  obj : h.get? x = some (PySem.W.instObj C dx)
  ns : h.Ns1 dx mA
  ne : dx ≠ x
theorem lookIn_ns {h : Heap} {dx : Addr} {mA : Str → Option Value} (n : h.Ns1 dx mA) : ∃ od, h.get? dx = some od ∧ ∀ name, PySem.W.lookIn name od = some (mA name) := by
  obtain ⟨o, es, ep, ho, hd, hk, _, hm⟩ := n
  refine ⟨o, ho, fun name => ?_⟩
  have e := hm name
  unfold nsFind findBy at e
  rw [← Array.find?_toList] at e
  unfold PySem.W.lookIn
  rw [hd]
  dsimp only
  split
  · rename_i y q
    rw [q] at e
    exact congrArg some e
  · rename_i q
    rw [q] at e
    have a : es.toList.any (·.refKey) = false := by
      rw [List.any_eq_false]
      intro y hy
      obtain ⟨z, t, hkey⟩ := hk y (Array.mem_toList_iff.mp hy)
      simp [DictEntry.refKey, hkey]
    have a' : ¬ es.toList.any (·.refKey) = true := by rw [a]; exact Bool.false_ne_true
    rw [if_neg a']
    exact congrArg some e
theorem ObjM.look {h : Heap} {x dx C : Addr} {mA : Str → Option Value} (I : ObjM h x dx C mA) : ∃ od, PySem.W.InstAt h x (PySem.W.instObj C dx) C (some od) ∧ ∀ name, PySem.W.lookIn name od = some (mA name) :=
  let ⟨od, ho, hl⟩ := lookIn_ns I.ns
  ⟨od, ⟨I.obj, rfl, rfl, ho⟩, hl⟩
section
variable {prog : Program} {w : World} {A : Around} {E : Value → Shared → Prop} {s : Shared} {K : PySem.W.Frag} {x dx C f : Addr} {mA : Str → Option Value} {name : Str} {v : Value}
end
section
variable {P : Program} {w : World} {H H' : Hp} {h h' : Heap} {a C dx : Addr} {fs fs' : List (Str × V)}
theorem ins_get (hok : HOk P w H h) (e : H a = some (.ins C dx fs)) : ∃ mA, ObjM h a dx C mA ∧ (∀ f, RelO (fs.lookup f) (mA f)) ∧ PySem.Within mA (fs.map (·.1)) ∧ fs.length ≤ 1000 ∧ H dx = some (.own a) := by
  obtain ⟨d, z, ne, ob, mA, n, r, q⟩ := (show ObjOk P w H h a (.ins C dx fs) from hok a _ e)
  exact ⟨mA, ⟨ob, n, ne⟩, r, q, z, d⟩
end
structure Cls (K : PySem.W.Frag) (C : Addr) : Prop where
  pg : PySem.W.plainGet K C Str.empty = true
  hd : PySem.W.hasDictIn K C = true
  po : PySem.W.plainOver K C = true
  sa : PySem.W.findIn K (.ref C) "__setattr__" = some (some (.builtin "object.__setattr__"))
theorem Cls.get {K : PySem.W.Frag} {C : Addr} (c : Cls K C) (f : Str) : PySem.W.plainGet K C f = true := c.pg
structure Con (K : PySem.W.Frag) (C : Addr) (f : Str) (v : V) (u : Value) : Prop where
  at_ : PySem.W.findIn K (.ref C) f = some (some u)
  rel : RelV v u
  get : PySem.W.specialIn K u "__get__" = some none
  cp : PySem.W.copiedNames.contains f = false
structure Meth (K : PySem.W.Frag) (C : Addr) (m : Str) (f : Addr) : Prop where
  at_ : PySem.W.findIn K (.ref C) m = some (some (.ref f))
  fn : PySem.W.isFn K (.ref f) = true
  kp : PySem.W.keepIn K (.ref f) = true
section
variable {X : Cx} {pins : List (Addr × Obj)} {σ : St} {H : Hp} {s : Shared} {a C dx : Addr} {fs : List (Str × V)} {f : Str} {v : V} {A : Around} {E : Value → Shared → Prop}
end
section
variable {X : Cx} {o e value : Expr} {f : Str} {pos pos' tpos : Pos} {ta tv : TE}
end
section
variable {X : Cx} {pins : List (Addr × Obj)} {σ : St} {H : Hp} {s : Shared} {A : Around} {E : Value → Shared → Prop} {Q : Value → Shared → Prop} {c : Value} {b : Bool}
inductive TyOf (K : PySem.W.Frag) (H : Hp) : V → Value → Prop where
  | non : TyOf K H .non (.type "NoneType")
  | bl (x : Bool) : TyOf K H (.bl x) (.type "bool")
  | int (i : Int) : TyOf K H (.int i) (.type "int")
  | str (x : Str) : TyOf K H (.str x) (.type "str")
  | flt (x : UInt64) : TyOf K H (.flt x) (.type "float")
  | lst {a : Addr} {xs : List V} (e : H a = some (.lst xs)) : TyOf K H (.ref a) (.type "list")
  | frz {a : Addr} {o : Obj} {xs : List V} (e : H a = some (.frz o (.lst xs))) : TyOf K H (.ref a) (.type "list")
  | tup {a : Addr} {xs : List V} (e : H a = some (.tup xs)) : TyOf K H (.ref a) (.type "tuple")
  | dK {a : Addr} {kvs : List (Key × V)} (e : H a = some (.dK kvs)) : TyOf K H (.ref a) (.type "dict")
  | dT {a : Addr} {kvs : List (List Key × V)} (e : H a = some (.dT kvs)) : TyOf K H (.ref a) (.type "dict")
  | ins {a C dx : Addr} {fs : List (Str × V)} (e : H a = some (.ins C dx fs)) (cl : Cls K C) (ha : PySem.W.findIn K (.ref C) "__class__" = some (some (.builtin "object.__class__")))
      (hn : PySem.W.specialIn K (.builtin "object.__class__") "__get__" = some (some (.builtin "getset_descriptor.__get__"))) (htk : PySem.W.takesIn K (.builtin "object.__class__") = some true)
      (hm : PySem.W.mroIn K C (.type "object") = some true) : TyOf K H (.ref a) (.ref C)
theorem isinst_ok {x : V} {u t : Value} (I : Inv X pins σ H s) (rx : RelV x u) (ty : TyOf X.K H x t) (e : PySem.W.kitOne X.K t c = some b) (h : ∀ tk, Q (.bool b) { s with toks := tk }) :
    wpAny (model X.prog X.w) A (call (.builtin "isinstance") [u, c]) Q E s := by
  cases ty with
  | non => cases (show u = Value.none from rx); exact PySem.W.kia_one PySem.W.kitx_none I.kIn True.intro e (fun z => nomatch z) h
  | bl y => cases (show u = Value.bool y from rx); exact PySem.W.kia_one PySem.W.kitx_bool I.kIn True.intro e (fun z => nomatch z) h
  | int i => obtain ⟨t, q⟩ := (show ∃ t, u = Value.int i t from rx); cases q; exact PySem.W.kia_one PySem.W.kitx_int I.kIn True.intro e (fun z => nomatch z) h
  | str y => obtain ⟨t, q⟩ := (show ∃ t, u = Value.str y t from rx); cases q; exact PySem.W.kia_one PySem.W.kitx_str I.kIn True.intro e (fun z => nomatch z) h
  | flt y => obtain ⟨t, q⟩ := (show ∃ t, u = Value.float y t from rx); cases q; exact PySem.W.kia_one PySem.W.kitx_float I.kIn True.intro e (fun z => nomatch z) h
  | @lst a xs ea =>
    cases (show u = Value.ref a from rx)
    obtain ⟨_, _, n, _, h1⟩ := (show ObjOk X.prog X.w H s.heap a (.lst xs) from I.hok a _ ea)
    exact PySem.W.kia_one PySem.W.kitx_list I.kIn ⟨_, h1, rfl⟩ e (fun z => nomatch z) h
  | @frz a ob xs ea =>
    cases (show u = Value.ref a from rx)
    obtain ⟨_, _, _, n, _, h1⟩ := (show ObjOk X.prog X.w H s.heap a (.frz ob (.lst xs)) from I.hok a _ ea)
    exact PySem.W.kia_one PySem.W.kitx_list I.kIn ⟨_, h1, rfl⟩ e (fun z => nomatch z) h
  | @tup a xs ea =>
    cases (show u = Value.ref a from rx)
    obtain ⟨_, _, _, p⟩ := (show ObjOk X.prog X.w H s.heap a (.tup xs) from I.hok a _ ea)
    obtain ⟨o, h1, h2, _⟩ := p
    exact PySem.W.kia_one PySem.W.kitx_tuple I.kIn ⟨o, h1, h2⟩ e (fun z => nomatch z) h
  | @dK a kvs ea =>
    cases (show u = Value.ref a from rx)
    obtain ⟨_, _, vs, _, p⟩ := (show ObjOk X.prog X.w H s.heap a (.dK kvs) from I.hok a _ ea)
    obtain ⟨o, es, ep, h1, h2, _⟩ := p
    exact PySem.W.kia_one PySem.W.kitx_dict I.kIn ⟨o, h1, h2.1⟩ e (fun z => nomatch z) h
  | @dT a kvs ea =>
    cases (show u = Value.ref a from rx)
    obtain ⟨_, _, xs, _, o, es, ep, h1, h2, _⟩ := (show ObjOk X.prog X.w H s.heap a (.dT kvs) from I.hok a _ ea)
    exact PySem.W.kia_one PySem.W.kitx_dict I.kIn ⟨o, h1, h2.1⟩ e (fun z => nomatch z) h
  | @ins a C dx fs ea cl ha hn htk hm =>
    cases (show u = Value.ref a from rx)
    obtain ⟨mA, O, _⟩ := ins_get I.hok ea
    obtain ⟨od, J, _⟩ := O.look
    exact PySem.W.kia_one (PySem.W.kitx_own (cl.get _) cl.hd ha hn htk hm) I.kIn J e (fun z => nomatch z) h
end
end L2
namespace L2
open PySem PySem.Spec PyProof.Rows
structure Room (k : Nat) (A : Around) : Prop where
  hd : A.handled = none
  dp : A.depth + 3 * k + 5 < recursionLimit
  un : A.units + 16 * k + 200 < cLine
  gd : A.guards = some []
theorem Room.mono {j k : Nat} {A : Around} (r : Room k A) (h : j ≤ k) : Room j A := ⟨r.hd, by have := r.dp; omega, by have := r.un; omega, r.gd⟩
theorem Room.deeper {k : Nat} {A : Around} (r : Room (k + 1) A) (env : Env) : Room k (A.deeper env) :=
  ⟨r.hd, by have := r.dp; show A.depth + 1 + 3 * k + 5 < _; omega, by have := r.un; show A.units + 3 + 16 * k + 200 < _; omega, by first | exact r.gd | (simpa [Around.deeper] using r.gd)⟩
theorem Room.in1 {k : Nat} {A : Around} (r : Room (k + 1) A) : Room k A.in1 :=
  ⟨r.hd, by have := r.dp; show A.depth + 3 * k + 5 < _; omega, by have := r.un; show A.units + 1 + 16 * k + 200 < _; omega, by first | exact r.gd | (simpa [Around.in1] using r.gd)⟩
theorem Room.depth {k : Nat} {A : Around} (r : Room k A) : A.depth < recursionLimit := by have := r.dp; omega
theorem Room.units {k : Nat} {A : Around} (r : Room k A) : A.units + 64 < cLine := by have := r.un; omega
def tNil : TA := fun _ H Q => Q [] H
def tCons (ta : TE) (tr : TA) : TA := fun σ H Q => ta σ H fun x H1 => tr σ H1 fun xs H2 => Q (x :: xs) H2
section
variable {X : Cx} {e : Expr} {es : List Expr} {te : TE} {t : TA} {pos : Pos}
theorem pa_nil : PA X [] tNil := fun _ _ _ _ H Q I h => Calls.spliced_nil ⟨[], H, I, .nil, h⟩
theorem pa_cons (ha : PE X e te) (hr : PA X es t) (hs : starEach (e :: es) X.env = (false, eval e X.env) :: starEach es X.env := by rfl) : PA X (e :: es) (tCons te t) := by
  intro pos pins s σ H Q I h
  rw [hs]
  show wpAny _ _ (spliced ((false, eval e X.env) :: backTo pos (starEach es X.env))) _ _ s
  refine Calls.spliced_cons (thn (ha pins s σ H _ I h) fun u s1 ⟨x, H1, I1, r1, q1⟩ => ?_)
  exact thn (hr pos pins s1 σ H1 _ I1 q1) fun us s2 ⟨xs, H2, I2, r2, q2⟩ => ⟨x :: xs, H2, I2, .cons r1 r2, q2⟩
def tTup (t : TA) : TE := fun σ H Q => t σ H fun xs H1 => xs.length ≤ sizeLine ∧ ∀ p, H1 p = none → Q (.ref p) (upd H1 p (.tup xs))
def tLst (t : TA) : TE := fun σ H Q => t σ H fun xs H1 => xs.length ≤ sizeLine ∧ ∀ p, H1 p = none → Q (.ref p) (upd H1 p (.lst xs))
theorem pe_tup {x1} (h : PA X es t) : PE X (.Tuple es x1 pos) (tTup t) := by
  intro pins s σ H Q I hq
  refine wpAny_Tuple_spliced (thn (h pos pins s σ H _ I hq) fun us s1 ⟨xs, H1, I1, r, z, q⟩ => ⟨by rw [← r.length]; exact z, ?_⟩)
  have hf : H1 s1.heap.objs.size = none := I1.hok.fresh (Nat.le_refl _)
  refine ⟨.ref s1.heap.objs.size, upd H1 s1.heap.objs.size (.tup xs), I1.laid (t' := s1.toks) (fun b u e => Heap.get?_push_of_some _ e) (Nat.le_refl _) ?_, rfl, q _ hf⟩
  exact ⟨z, us, r, ⟨_, Heap.get?_push_size _ rfl, rfl, _, rfl⟩⟩
theorem pe_lst (h : PA X es t) : PE X (.List es pos) (tLst t) := by
  intro pins s σ H Q I hq
  refine wpAny_List_spliced (thn (h pos pins s σ H _ I hq) fun us s1 ⟨xs, H1, I1, r, z, q⟩ => ⟨by rw [← r.length]; exact z, ?_⟩)
  have hf : H1 s1.heap.objs.size = none := I1.hok.fresh (Nat.le_refl _)
  refine ⟨.ref s1.heap.objs.size, upd H1 s1.heap.objs.size (.lst xs), I1.laid (t' := s1.toks) (fun b u e => Heap.get?_push_of_some _ e) (Nat.le_refl _) ?_, rfl, q _ hf⟩
  exact ⟨z, us, 0, r, Heap.get?_push_size _ rfl⟩
end
abbrev Sp := List V → Hp → VK → XK → Prop
abbrev CXT := List Env → Hp → Shared → XK → Value → Shared → Prop
structure Env0 (P : Program) (w : World) (K : PySem.W.Frag) (mg : Str → Option Value) (base : Heap) (A : Around) (outer : List Env) (s : Shared) (H : Hp) : Prop where
  frames : A.frames = some outer
  mod : Mod K mg base
  bs : ∀ b o, base.get? b = some o → s.heap.get? b = some o ∧ H b = none
  bsz : base.objs.size ≤ s.heap.objs.size
  funs : s.heap.FunFrames base outer
  frf : ∀ b ∈ frs outer, H b = none
  hok : HOk P w H s.heap
  bare : AllBare s.gens
def CE (outer : List Env) (P : Program) (w : World) (H : Hp) (s : Shared) (Q : VK) (u : Value) (s' : Shared) : Prop :=
  ∃ v H', s'.os = s.os ∧ AllBare s'.gens ∧ Un (frs outer) [] H H' s.heap s'.heap ∧ HOk P w H' s'.heap ∧ RelV v u ∧ Q v H'
def CR (CX : CXT) (outer : List Env) (P : Program) (w : World) (H : Hp) (s : Shared) (Q : VK) (E : XK) (r : Result) (s' : Shared) : Prop :=
  match r with
  | .ok (.ret u) => CE outer P w H s Q u s'
  | .ok _ => False
  | .error e => CX outer H s E e s'
structure FnOk (P : Program) (w : World) (K : PySem.W.Frag) (mg : Str → Option Value) (base : Heap) (CX : CXT) (k : Nat) (f : Addr) (fd : FuncData) (ps : List Str) (sp : Sp) : Prop where
  len : ∀ vs H Q E, sp vs H Q E → vs.length = ps.length
  run : ∀ (A : Around) (outer : List Env) (s : Shared) (H : Hp) (args : Args) (us : List Value) (vs : List V) (Q : VK) (E : XK), Room k A → Env0 P w K mg base A outer s H → BindsTo s fd args (ps.zip us) → Vals vs us → sp vs H Q E →
    codeAny (model P w) A (.call (.ref f) args) (CR CX outer P w H s Q E) s
theorem FnOk.mono {P : Program} {w : World} {K : PySem.W.Frag} {mg : Str → Option Value} {base : Heap} {CX : CXT} {j k : Nat} {f : Addr} {fd : FuncData} {ps : List Str} {sp : Sp} (F : FnOk P w K mg base CX j f fd ps sp) (h : j ≤ k) :
    FnOk P w K mg base CX k f fd ps sp := ⟨F.len, fun A outer s H args us vs Q E hr => F.run A outer s H args us vs Q E (hr.mono h)⟩
theorem FnOk.imp {P : Program} {w : World} {K : PySem.W.Frag} {mg : Str → Option Value} {base : Heap} {CX : CXT} {k : Nat} {f : Addr} {fd : FuncData} {ps : List Str} {sp sp' : Sp} (F : FnOk P w K mg base CX k f fd ps sp)
    (h : ∀ vs H Q E, sp' vs H Q E → sp vs H Q E) : FnOk P w K mg base CX k f fd ps sp' :=
  ⟨fun vs H Q E q => F.len vs H Q E (h _ _ _ _ q), fun A outer s H args us vs Q E hr he hb hv hs => F.run A outer s H args us vs Q E hr he hb hv (h _ _ _ _ hs)⟩
theorem Env0.in1 {P : Program} {w : World} {K : PySem.W.Frag} {mg : Str → Option Value} {base : Heap} {A : Around} {outer : List Env} {s : Shared} {H : Hp} (e : Env0 P w K mg base A outer s H) :
    Env0 P w K mg base A.in1 outer s H := ⟨e.frames, e.mod, e.bs, e.bsz, e.funs, e.frf, e.hok, e.bare⟩
section
variable {X : Cx} {pins : List (Addr × Obj)} {σ : St} {H : Hp} {s s' : Shared}
theorem Inv.env0 (I : Inv X pins σ H s) : Env0 X.prog X.w X.K X.mg X.base X.A X.stack s H :=
  ⟨I.ok.frames, I.ok.mod, I.bs, Nat.le_trans I.ok.bsz I.sz, I.stack, I.stkFree, I.hok, I.bare⟩
theorem Inv.after {Q : VK} {u : Value} (I : Inv X pins σ H s) (h : CE X.stack X.prog X.w H s Q u s') : EP X pins σ Q u s' := by
  obtain ⟨v, H', os, bare, un, hok, r, q⟩ := h
  obtain ⟨hh, g, d, t, os'⟩ := s'
  obtain rfl : os' = s.os := os
  exact ⟨v, H', I.call (h' := hh) (g' := g) (d' := d) (t' := t) (ch := []) un hok bare (fun b z => absurd z (by simp)), r, q⟩
end
def tCall (sp : Sp) (dvs : List V) (E : XK) (t : TA) : TE := fun σ H Q => t σ H fun vs H1 => sp (vs ++ dvs) H1 Q E
def Binds (K : PySem.W.Frag) (fd : FuncData) (ps : List Str) (ds : List Value) : Prop :=
  ∀ (s : Shared) (us : List Value), K.In s.heap → (us ++ ds).length = ps.length → BindsTo s fd ⟨us, []⟩ (ps.zip (us ++ ds))
theorem Binds.all {K : PySem.W.Frag} {fd : FuncData} {ps : List Str} (h : ∀ us : List Value, us.length = ps.length → bindArgs fd ⟨us, []⟩ = pure (ps.zip us)) : Binds K fd ps [] := fun s us _ hl => by
  rw [List.append_nil] at hl ⊢
  exact .of_eq (h us hl)
def Passes (CX : CXT) (X : Cx) (E : XK) : Prop := ∀ (pins : List (Addr × Obj)) (σ : St) (H : Hp) (s : Shared) (e : Value) (s' : Shared), Inv X pins σ H s → CX X.stack H s E e s' → X.xe e s'
section
variable {X : Cx} {CX : CXT} {k : Nat} {f C : Addr} {fd : FuncData} {ps : List Str} {sp : Sp} {dvs : List V} {ds : List Value} {E : XK} {x m : Str} {p pos apos : Pos} {e o : Expr} {es : List Expr} {ta : TE} {t : TA}
theorem run_fn {pins : List (Addr × Obj)} {σ : St} {H : Hp} {s : Shared} {Q : VK} {us : List Value} {vs : List V} (F : FnOk X.prog X.w X.K X.mg X.base CX k f fd ps sp) (hr : Room k X.A) (hb : Binds X.K fd ps ds) (hd : Vals dvs ds) (hx : Passes CX X E)
    (I : Inv X pins σ H s) (r : Vals vs us) (h : sp (vs ++ dvs) H Q E) : wpAny (model X.prog X.w) X.A (call (.ref f) us) (EP X pins σ Q) X.xe s := by
  have r2 : Vals (vs ++ dvs) (us ++ ds) := r.append hd
  have hl : (us ++ ds).length = ps.length := by rw [← r2.length]; exact F.len _ _ _ _ h
  refine wpAny_call (codeAny_mono (F.run X.A X.stack s H ⟨us, []⟩ (us ++ ds) (vs ++ dvs) Q E hr I.env0 (hb s us I.kIn hl) r2 h) fun r s' hq => ?_)
  cases r with
  | error e => exact hx pins σ H s e s' I hq
  | ok fl =>
    cases fl with
    | ret u => exact I.after hq
    | next => exact False.elim hq
    | brk => exact False.elim hq
    | cont => exact False.elim hq
theorem pe_call (F : FnOk X.prog X.w X.K X.mg X.base CX k f fd ps sp) (hr : Room k X.A) (hg : Gl X x) (hm : X.mg x = some (.ref f)) (hk : PySem.W.keepIn X.K (.ref f) = true) (hb : Binds X.K fd ps ds) (hd : Vals dvs ds) (hx : Passes CX X E)
    (ha : PA X (e :: es) t) (hdb : (x == ("__debug__" : Str)) = false := by decide) (he : starEach (e :: es) X.env = (false, eval e X.env) :: starEach es X.env := by rfl) (hpl : (backTo pos (starEach es X.env)).any (·.1) = false := by rfl) :
    PE X (.Call (.Name x p) (e :: es) [] pos) (tCall sp dvs E t) := by
  intro pins s σ H Q I h
  refine wpAny_Call_Name_kw (ld_glob I hg hm ?_ hdb)
  refine PySem.W.callWith_K (h₀ := X.base) I.ok.mod.kin hk (thn (ha pos pins s σ H _ I h) fun us s1 ⟨vs, H1, I1, r, q⟩ => ⟨I1.kIn, ?_⟩) he hpl
  exact run_fn F hr hb hd hx I1 r q
structure Mk (K : PySem.W.Frag) (C f : Addr) : Prop where
  makes : PySem.W.makesIn K C = true
  init : PySem.W.findIn K (.ref C) "__init__" = some (some (.ref f))
  fn : PySem.W.isFn K (.ref f) = true
  kp : PySem.W.keepIn K (.ref C) = true
end
section
variable {X : Cx} {CX : CXT} {k : Nat} {f C : Addr} {fd : FuncData} {ps ks : List Str} {sp : Sp} {E : XK} {x m : Str} {p pos apos kpos : Pos} {e o : Expr} {es : List Expr} {kws : List Keyword} {te ta : TE} {t tk : TA} {nm : Option Str}
structure KBinds (K : PySem.W.Frag) (fd : FuncData) (ps ks : List Str) (g : List Value → List Value → List Value) (gV : List V → List V → List V) : Prop where
  to : ∀ (s : Shared) (us ws : List Value), K.In s.heap → (g us ws).length = ps.length → BindsTo s fd ⟨us, ks.zip ws⟩ (ps.zip (g us ws))
  rel : ∀ {vs : List V} {us : List Value} {zs : List V} {ws : List Value}, Vals vs us → Vals zs ws → Vals (gV vs zs) (g us ws)
variable {g : List Value → List Value → List Value} {gV : List V → List V → List V}
end
structure FnScope (N P : List Str) (sc : Scope) : Prop where
  kind : sc.kind = .function
  co : sc.isCoroutine = false
  gen : sc.isGenerator = false
  nd : N.Nodup
  pre : N.take P.length = P
  par : ∀ x ∈ P, sc.names.lookup x = some .local ∨ sc.names.lookup x = some .cell
  nofree : ∀ y ∈ sc.names, y.2 ≠ .free
theorem bindL_out {kindOf : Str → Option NameKind} {x : Str} : ∀ {binds : List (Str × Value)} {m : Str → Option Value}, (∀ v, (x, v) ∉ binds) → bindL kindOf binds m x = m x
  | [], _, _ => rfl
  | (n, v) :: r, m, h => by
    unfold bindL
    rw [bindL_out fun w hw => h w (List.mem_cons_of_mem _ hw)]
    split
    · have : x ≠ n := by rintro rfl; exact h v List.mem_cons_self
      simp [this]
    · rfl
theorem bindC_out {kindOf : Str → Option NameKind} {x : Str} : ∀ {binds : List (Str × Value)} {m : Str → Option Value}, (∀ v, (x, v) ∉ binds) → bindC kindOf binds m x = m x
  | [], _, _ => rfl
  | (n, v) :: r, m, h => by
    unfold bindC
    rw [bindC_out fun w hw => h w (List.mem_cons_of_mem _ hw)]
    split
    · rfl
    · have : x ≠ n := by rintro rfl; exact h v List.mem_cons_self
      simp [this]
theorem bindL_get {kindOf : Str → Option NameKind} {x : Str} {v : Value} : ∀ {P : List Str} {vs : List Value} {i : Nat} {m : Str → Option Value}, P.Nodup → P[i]? = some x → vs[i]? = some v → kindOf x = some .local →
    bindL kindOf (P.zip vs) m x = some v
  | [], _, _, _, _, h, _, _ => by simp at h
  | _ :: _, [], _, _, _, _, h, _ => by simp at h
  | p :: P, w :: vs, 0, m, nd, h1, h2, hk => by
    simp at h1 h2; subst h1; subst h2
    show bindL kindOf ((p, w) :: P.zip vs) m p = _
    unfold bindL
    rw [bindL_out fun v hv => (List.nodup_cons.mp nd).1 (List.of_mem_zip hv).1, if_pos hk]
    simp
  | p :: P, w :: vs, i + 1, m, nd, h1, h2, hk => by
    show bindL kindOf ((p, w) :: P.zip vs) m x = _
    unfold bindL
    exact bindL_get (i := i) (List.nodup_cons.mp nd).2 (by simpa using h1) (by simpa using h2) hk
theorem bindC_get {kindOf : Str → Option NameKind} {x : Str} {v : Value} : ∀ {P : List Str} {vs : List Value} {i : Nat} {m : Str → Option Value}, P.Nodup → P[i]? = some x → vs[i]? = some v → kindOf x ≠ some .local →
    bindC kindOf (P.zip vs) m x = some v
  | [], _, _, _, _, h, _, _ => by simp at h
  | _ :: _, [], _, _, _, _, h, _ => by simp at h
  | p :: P, w :: vs, 0, m, nd, h1, h2, hk => by
    simp at h1 h2; subst h1; subst h2
    show bindC kindOf ((p, w) :: P.zip vs) m p = _
    unfold bindC
    rw [bindC_out fun v hv => (List.nodup_cons.mp nd).1 (List.of_mem_zip hv).1, if_neg hk]
    simp
  | p :: P, w :: vs, i + 1, m, nd, h1, h2, hk => by
    show bindC kindOf ((p, w) :: P.zip vs) m x = _
    unfold bindC
    exact bindC_get (i := i) (List.nodup_cons.mp nd).2 (by simpa using h1) (by simpa using h2) hk
def start (N : List Str) (vs : List V) : St := vs.map some ++ List.replicate (N.length - vs.length) none
def cxOf (CX : CXT) (P : Program) (w : World) (K : PySem.W.Frag) (mg : Str → Option Value) (base : Heap) (N : List Str) (qual : Str) (scope : Scope) (f : Addr) (cd : Value) (A : Around) (outer : List Env) (s : Shared) (H : Hp) (E : XK) : Cx where
  prog := P
  w := w
  K := K
  mg := mg
  base := base
  A := A.deeper (envOfC qual scope s.heap.objs.size f cd)
  N := N
  s_0 := s
  H_0 := H
  env := envOfC qual scope s.heap.objs.size f cd
  outer := outer
  stack := envOfC qual scope s.heap.objs.size f cd :: outer
  ex := []
  calm := true
  fn := fun _ => true
  pn := []
  xe := fun e s' => wpAny (model P w) (A.deeper (envOfC qual scope s.heap.objs.size f cd)) (leaving (envOfC qual scope s.heap.objs.size f cd) e) (fun _ s'' => CX outer H s E e s'') (fun e' s'' => CX outer H s E e' s'') s'
theorem cell_has {sc : Scope} {n : Nat} {x : Str} (h : sc.names.lookup x = some .cell) : ∃ c, (cellsFrom n sc.names []).lookup x = some c := by
  have q := PySem.W.cellsFrom_some sc.names n [] (.inl h)
  exact Option.isSome_iff_exists.mp q
theorem inv_start {CX : CXT} {P : Program} {w : World} {K : PySem.W.Frag} {mg : Str → Option Value} {base : Heap} {N ps : List Str} {qual : Str} {scope : Scope} {f : Addr} {cd : Value} {A : Around} {outer : List Env} {s s1 : Shared} {H : Hp} {E : XK} {us : List Value} {vs : List V}
    (S : FnScope N ps scope) (hd : A.handled = none) (e0 : Env0 P w K mg base A outer s H) (hl : vs.length = ps.length) (r : Vals vs us)
    (x : InCallC s s.heap.objs.size (bindL (envOfC qual scope s.heap.objs.size f cd).kindOf (ps.zip us) fun _ => none) (cellsFrom (s.heap.objs.size + 1) scope.names []) (bindC (envOfC qual scope s.heap.objs.size f cd).kindOf (ps.zip us) fun _ => none) s1) :
    Inv (cxOf CX P w K mg base N qual scope f cd A outer s H E) [] (start N vs) H s1 := by
  have hpl : ps.length ≤ N.length := by have := congrArg List.length S.pre; rw [List.length_take] at this; omega
  obtain ⟨h1, tk, rfl, hk⟩ := x.done
  have noA : ∀ b : Addr, b ∉ (cxOf CX P w K mg base N qual scope f cd A outer s H E).ex := fun b z => absurd (show b ∈ ([] : List Addr) from z) (by simp)
  refine ⟨⟨e0.mod, S.kind, rfl, rfl, Nat.le_refl _, fun y z c h1 h2 => ?_, fun y hy => ?_, fun y c _ h => ?_, fun _ => hd, Around.frames_deeper e0.frames, .inr ⟨rfl, rfl⟩, fun b z => absurd z (noA b), e0.bs, e0.bsz, fun b _ _ => noA b, fun b z => absurd z (noA b), e0.funs, e0.frf⟩,
    rfl, e0.bare, Un.kept hk, ⟨_, x.toInCall.ns, fun i y v h1 h2 h3 => ?_⟩, fun y c h => ⟨_, x.cell y c h⟩, e0.hok.fresh (Nat.le_refl _), fun y c h => ?_, fun p hp => absurd (show p ∈ ([] : List (Addr × Obj)) from hp) (by simp), e0.hok.kept hk, ?_⟩
  · exact name_of_addr x.apart (PySem.mem_of_lookup h1) (PySem.mem_of_lookup h2)
  · have hy : scope.names.lookup y = some .cell ∨ scope.names.lookup y = some .free := hy
    rcases hy with hy | hy
    · exact cell_has hy
    · exact absurd rfl (S.nofree _ (PySem.mem_of_lookup hy))
  · exact Nat.le_of_lt (x.above y c (PySem.mem_of_lookup h))
  · have hi : i < vs.length := by
      unfold start at h2
      by_cases hi : i < vs.length
      · exact hi
      · rw [List.getElem?_append_right (by simpa using hi)] at h2
        rw [List.getElem?_replicate] at h2
        split at h2 <;> cases h2
    have ha : vs[i]? = some v := by
      unfold start at h2
      rw [List.getElem?_append_left (by simpa using hi), List.getElem?_map] at h2
      cases e : vs[i]? with
      | none => rw [e] at h2; cases h2
      | some a => rw [e] at h2; cases h2; rfl
    obtain ⟨u, hu, rv⟩ := r.get ha
    have hp : ps[i]? = some y := by
      rw [← S.pre, List.getElem?_take_of_lt (by omega)]; exact h1
    have ndP : ps.Nodup := by rw [← S.pre]; exact S.nd.sublist (List.take_sublist _ _)
    refine ⟨u, rv, ?_⟩
    rcases S.par y (List.mem_of_getElem? hp) with k | k
    · exact .inl ⟨k, bindL_get ndP hp hu k⟩
    · obtain ⟨c, e⟩ := cell_has (n := s.heap.objs.size + 1) k
      refine .inr ⟨.inl k, c, e, ?_⟩
      have q := x.cell y c e
      rw [bindC_get ndP hp hu (by show scope.names.lookup y ≠ _; rw [k]; decide)] at q
      exact q
  · exact e0.hok.fresh (Nat.le_of_lt (x.above y c (PySem.mem_of_lookup h)))
  · unfold start
    show _ = N.length
    rw [List.length_append, List.length_map, List.length_replicate]
    omega
theorem fn_of {CX : CXT} {P : Program} {w : World} {K : PySem.W.Frag} {mg : Str → Option Value} {base : Heap} {k : Nat} {f : Addr} {name qual : Str} {params : Arguments} {body : List Stmt} {scope : Scope} {dV kV doc pm cdv ct oc : Value} {an od : Option Addr}
    {osl : Array (Option Value)} {N ps : List Str} {sp : Sp} (lk : K.lookup f = some ⟨oc, od, .func (PySem.W.fnOf name qual params body scope dV kV doc pm an cdv ct), osl⟩) (hcd : PySem.W.codeIn K cdv qual = true) (S : FnScope N ps scope)
    (len : ∀ vs H Q E, sp vs H Q E → vs.length = ps.length)
    (hbody : ∀ (A : Around) (outer : List Env) (s : Shared) (H : Hp) (vs : List V) (Q : VK) (E : XK), Room k (A.deeper (envOfC qual scope s.heap.objs.size f cdv)) → sp vs H Q E →
      ∃ t, PSs (cxOf CX P w K mg base N qual scope f cdv A outer s H E) body t ∧ t { nx := fun _ H' => Q .non H', rt := Q } (start N vs) H) :
    FnOk P w K mg base CX (k + 1) f (PySem.W.fnOf name qual params body scope dV kV doc pm an cdv ct) ps sp := by
  refine ⟨len, fun A outer s H args us vs Q E hr e0 hb r hsp => ?_⟩
  have hl := len _ _ _ _ hsp
  have KX : K.In s.heap := e0.mod.kin.keeps fun b o e => (e0.bs b o e).1
  have lim : s.heap.NoLimit := e0.mod.nolimit.keeps fun b o e => (e0.bs b o e).1
  have hkind : ∀ y ∈ ps.zip us, scope.names.lookup y.1 = some .local ∨ (scope.names.lookup y.1 = some .cell ∧ ((cellsFrom (s.heap.objs.size + 1) scope.names []).lookup y.1).isSome = true) := fun ⟨n, v⟩ hy => by
    rcases S.par n (List.of_mem_zip hy).1 with q | q
    · exact .inl q
    · exact .inr ⟨q, PySem.W.cellsFrom_some _ _ _ (.inl q)⟩
  refine codeAny_call_function hr.depth (KX _ _ lk) rfl S.co S.gen rfl (PySem.W.codeRec_of KX hcd) (hb _ _ _ _ ?_)
  refine wpAny_newFunctionEnv_cells S.kind hkind fun env he s1 x => ?_
  subst he
  refine ⟨lim.keeps x.toInCall.keep, codeAny_func ?_⟩
  obtain ⟨t, ht, hq⟩ := hbody A outer s H vs Q E (hr.deeper _) hsp
  have I : Inv (cxOf CX P w K mg base N qual scope f cdv A outer s H E) [] (start N vs) H s1 := inv_start S hr.hd e0 hl r x
  refine wpAny_mono (ht [] s1 (start N vs) H _ I hq) (fun fl s' hs => ?_) fun e s' hs => hs
  have fin : ∀ {σ' : St} {H' : Hp} {v : V} {u : Value}, Inv (cxOf CX P w K mg base N qual scope f cdv A outer s H E) [] σ' H' s' → RelV v u → Q v H' → CE outer P w H s Q u s' :=
    fun {σ' H' v u} J rv q => ⟨v, H', J.os, J.bare, J.base, J.hok, rv, q⟩
  cases fl with
  | ret u =>
    obtain ⟨v, σ', H', J, rv, q⟩ := hs
    exact fin J rv q
  | next =>
    obtain ⟨σ', H', J, q⟩ := hs
    exact fin (v := V.non) (u := Value.none) J rfl q
  | brk =>
    obtain ⟨_, _, _, q⟩ := hs
    exact False.elim q
  | cont =>
    obtain ⟨_, _, _, q⟩ := hs
    exact False.elim q
end L2
namespace L2
open PySem PySem.Spec PyProof.Rows
section
variable {X : Cx} {x : Str} {p pos : Pos} {e : Expr} {es : List Expr} {t : TA} {id T : String} {r : List V → Hp → VK → Prop}
def tCB (r : List V → Hp → VK → Prop) (t : TA) : TE := fun σ H Q => t σ H fun vs H1 => r vs H1 Q
theorem pe_callB (hc : CallR X (.builtin id) r) (hg : Gl X x) (hm : X.mg x = none) (hv : bootBuiltins x = some (.builtin id)) (ha : PA X (e :: es) t) (hn : x ≠ "__name__" := by decide) (hdb : (x == ("__debug__" : Str)) = false := by decide)
    (he : starEach (e :: es) X.env = (false, eval e X.env) :: starEach es X.env := by rfl) (hpl : (backTo pos (starEach es X.env)).any (·.1) = false := by rfl) : PE X (.Call (.Name x p) (e :: es) [] pos) (tCB r t) := by
  intro pins s σ H Q I h
  refine wpAny_Call_Name_kw (ld_blt I hg hm hv ?_ hn hdb)
  exact PyProof.Rows.callWith_builtin1 (thn (ha pos pins s σ H _ I h) fun us s1 ⟨vs, H1, I1, r1, q1⟩ => hc pins s1 σ H1 vs us Q I1 r1 q1) he hpl
theorem pe_callTy (hc : CallR X (.type T) r) (hg : Gl X x) (hm : X.mg x = none) (hv : bootBuiltins x = some (.type T)) (ha : PA X (e :: es) t) (hn : x ≠ "__name__" := by decide) (hdb : (x == ("__debug__" : Str)) = false := by decide)
    (he : starEach (e :: es) X.env = (false, eval e X.env) :: starEach es X.env := by rfl) (hpl : (backTo pos (starEach es X.env)).any (·.1) = false := by rfl) : PE X (.Call (.Name x p) (e :: es) [] pos) (tCB r t) := by
  intro pins s σ H Q I h
  refine wpAny_Call_Name_kw (ld_blt I hg hm hv ?_ hn hdb)
  exact PyProof.Rows.callWith_type1 (thn (ha pos pins s σ H _ I h) fun us s1 ⟨vs, H1, I1, r1, q1⟩ => hc pins s1 σ H1 vs us Q I1 r1 q1) he hpl
end
end L2
namespace HT
open PySem PyProof.Rows
section
open PySem.SeqAt
open PySem.AutoSeq1 (wpAny_loadPart')
open PySem.MeetsSeq PySem.MeetsSeq2 PySem.MeetsSeq3
end
section
variable {prog : Program} {w : World} {A : Around} {E : Value → Shared → Prop} {s : Shared}
theorem cat_tup {t b : Addr} {vs ws : List Value} {Q : Value → Shared → Prop} (ht : IsTup s.heap t vs.toArray) (hb : IsTup s.heap b ws.toArray) (hv : vs ≠ [])
    (h1 : ws = [] → Q (.ref t) s) (h2 : ws ≠ [] → Q (.ref s.heap.objs.size) { s with heap := s.heap.push { cls := .type "tuple", data := .seq (vs ++ ws).toArray } })
    (hsz : vs.length + ws.length ≤ sizeLine) : wpAny (model prog w) A (binaryOp .Add (.ref t) (.ref b)) Q E s := by
  obtain ⟨⟨cls, dd, data, sl⟩, ho, hc, n, hd⟩ := id ht
  obtain ⟨⟨cls2, dd2, data2, sl2⟩, ho2, hc2, n2, hd2⟩ := id hb
  simp only at hc hd hc2 hd2
  subst hc hd hc2 hd2
  have e : vs.toArray ++ ws.toArray = (vs ++ ws).toArray := by simp
  by_cases hw : ws = []
  · exact concat_meets ⟨_, ho, rfl⟩ ⟨_, ho2, rfl⟩ noFill_tuple_add seq_tuple_add PySem.F.slot_tuple_add PySem.F.entry_tuple_add (PySem.F.args_tuple_add_2 _ _)
      (tuple_addW1 t b vs.toArray ws.toArray n n2 dd dd2 sl sl2 (by simpa using hv) (by simp [hw])) ⟨ho, ho2, h1 hw⟩
  · refine concat_meets ⟨_, ho, rfl⟩ ⟨_, ho2, rfl⟩ noFill_tuple_add seq_tuple_add PySem.F.slot_tuple_add PySem.F.entry_tuple_add (PySem.F.args_tuple_add_2 _ _)
      (tuple_addW2 t b vs.toArray ws.toArray n n2 dd dd2 sl sl2 (by simpa using hv) (by simpa using hw) (by rw [List.size_toArray, List.size_toArray]; exact hsz)) ⟨ho, ho2, ?_⟩
    rw [e]
    exact h2 hw
def sIx (n d : Nat) : Option Int → Nat
  | none => d
  | some v => if v < 0 then (v + (n : Int)).toNat else min v.toNat n
theorem sIx_none (n d : Nat) : sIx n d none = d := rfl
theorem sIx_nat (n d k : Nat) : sIx n d (some (k : Int)) = min k n := by
  show (if (k : Int) < 0 then ((k : Int) + (n : Int)).toNat else min (k : Int).toNat n) = min k n
  rw [if_neg (by omega), Int.toNat_natCast]
theorem sIx_le (n d : Nat) (hd : d ≤ n) (o : Option Int) : sIx n d o ≤ n := by
  cases o with
  | none => exact hd
  | some v =>
    show (if v < 0 then (v + (n : Int)).toNat else min v.toNat n) ≤ n
    by_cases hv : v < 0
    · rw [if_pos hv]; omega
    · rw [if_neg hv]; exact Nat.min_le_right _ _
theorem clip_eq (v : Int) (n d : Nat) : (if v < 0 then max (v + (n : Int)) 0 else min v (n : Int)) = ((sIx n d (some v) : Nat) : Int) := by
  show (if v < 0 then max (v + (n : Int)) 0 else min v (n : Int)) = (((if v < 0 then (v + (n : Int)).toNat else min v.toNat n) : Nat) : Int)
  by_cases hv : v < 0
  · simp only [if_pos hv]; omega
  · simp only [if_neg hv]; omega
theorem adjust_gen (lo hi : Option Int) (n : Nat) : Builtin.Slice.sliceAdjust lo hi 1 (n : Int) = (((sIx n 0 lo : Nat) : Int), ((sIx n n hi : Nat) : Int)) := by
  have h1 : ¬ ((1 : Int) < 0) := by omega
  unfold Builtin.Slice.sliceAdjust
  simp only [h1, if_false]
  refine Prod.ext ?_ ?_
  · cases lo with
    | none => rfl
    | some v => exact clip_eq v n 0
  · cases hi with
    | none => rfl
    | some v => exact clip_eq v n n
theorem places_gen (i j : Nat) : Builtin.Slice.slicePlaces (i : Int) (j : Int) 1 = j - i := by
  unfold Builtin.Slice.slicePlaces
  have h1 : (1 : Int) > 0 := by omega
  simp only [h1, if_true, Int.ediv_one]
  split <;> omega
theorem slicePart_ {v : Value} {o : Option Int} {Q : Option Int → Shared → Prop} (p : IsPart v o) (h : Q o s) : wpAny (model prog w) A (Builtin.Slice.slicePartIndex v) Q E s := by
  cases p with
  | none => exact slicePart_none h
  | int i t => exact slicePart_int h
theorem sliceApplied_gen {sl : Addr} {vl vu : Value} {lo hi : Option Int} {n : Nat} {Q : Int × Int × Nat → Shared → Prop} (hs : s.heap.IsSliceOf sl vl vu .none) (pl : IsPart vl lo) (pu : IsPart vu hi)
    (h : Q (((sIx n 0 lo : Nat) : Int), 1, sIx n n hi - sIx n 0 lo) s) : wpAny (model prog w) A (Builtin.Slice.sliceApplied (.ref sl) (pure (n : Int))) Q E s := by
  obtain ⟨os, hos, hcs, hds⟩ := id hs
  unfold Builtin.Slice.sliceApplied Builtin.Slice.sliceFields
  refine wpAny_bind (wpAny_bind (wpAny_field hos hds (x := vl) rfl (wpAny_bind (wpAny_field hos hds (x := vu) rfl (wpAny_bind (wpAny_field hos hds (x := .none) rfl (wpAny_pure ?_)))))))
  refine wpAny_bind (slicePart_none ?_)
  show wpAny _ _ (if ((1 : Int) == 0) = true then _ else _) _ _ s
  rw [if_neg (by decide)]
  refine wpAny_bind (slicePart_ pl (wpAny_bind (slicePart_ pu (wpAny_bind (wpAny_pure ?_)))))
  show wpAny _ _ (match Builtin.Slice.sliceAdjust lo hi 1 (n : Int) with | (lo, hi) => pure (lo, (1 : Int), Builtin.Slice.slicePlaces lo hi 1)) _ _ s
  rw [adjust_gen lo hi n]
  show wpAny _ _ (pure (((sIx n 0 lo : Nat) : Int), (1 : Int), Builtin.Slice.slicePlaces ((sIx n 0 lo : Nat) : Int) ((sIx n n hi : Nat) : Int) 1)) _ _ s
  rw [places_gen]
  exact wpAny_pure h
theorem pick_gen (xs : Array Value) (i k : Nat) : ((List.range k).filterMap fun (m : Nat) => xs[((i : Int) + (m : Int) * 1).toNat]?).toArray = ((xs.toList.drop i).take k).toArray := by
  have e : (fun (m : Nat) => xs[((i : Int) + (m : Int) * 1).toNat]?) = fun m => xs[i + m]? := by
    funext m
    have : ((i : Int) + (m : Int) * 1).toNat = i + m := by omega
    rw [this]
  rw [e]
  have := pick_run xs i k
  rw [List.filterMap_map] at this
  have e2 : ((fun x => xs[x]?) ∘ fun x => i + x) = fun m => xs[i + m]? := rfl
  rw [e2] at this
  rw [this]
theorem getItem_tuple_cut {t sl : Addr} {items : Array Value} {vl vu : Value} {lo hi : Option Int} {Q : Value → Shared → Prop} (ht : IsTup s.heap t items) (hs : s.heap.IsSliceOf sl vl vu .none) (pl : IsPart vl lo) (pu : IsPart vu hi)
    (hw : ¬ (sIx items.size 0 lo = 0 ∧ sIx items.size items.size hi = items.size))
    (h : Q (.ref s.heap.objs.size) { s with heap := s.heap.push { cls := .type "tuple", data := .seq ((items.toList.drop (sIx items.size 0 lo)).take (sIx items.size items.size hi - sIx items.size 0 lo)).toArray } })
    (hsz : items.size ≤ sizeLine) : wpAny (model prog w) A (getItem (.ref t) (.ref sl)) Q E s := by
  have htake : sizeOk (.seq ((items.toList.drop (sIx items.size 0 lo)).take (sIx items.size items.size hi - sIx items.size 0 lo)).toArray) := by
    show ((items.toList.drop (sIx items.size 0 lo)).take (sIx items.size items.size hi - sIx items.size 0 lo)).toArray.size ≤ sizeLine
    rw [List.size_toArray, List.length_take, List.length_drop, Array.length_toList]
    omega
  have hj : sIx items.size items.size hi ≤ items.size := sIx_le _ _ (Nat.le_refl _) hi
  obtain ⟨os, hos, hcs, hds⟩ := id hs
  have hTs : s.TypeIs (.ref sl) "slice" := ⟨os, hos, hcs⟩
  unfold getItem
  try with_reducible refine wpAny_holding ?_
  first | refine wpAny_bind (wpAny_pure ?_) | skip
  refine wpAny_bind (wpAny_sequenceKey ht.typeIs (by decide) ?_)
  refine wpAny_bind (wpAny_callSpecial?_slot (name := Str.ofString "__getitem__") ht.typeIs PyProof.Rows.slot_tuple_getitem
    (wpAny_call_entry PyProof.Rows.slot_tuple_getitem ht.typeIs entry_tuple_getitem ?_ (args_tuple_getitem _ _)))
  show wpAny _ _ (Builtin.Tuple.tupleItemsOf (.ref t) >>= _) _ _ s
  refine wpAny_bind (tupleItemsOf_ ht ?_)
  refine wpAny_bind (wpAny_typeOf hTs ?_)
  rw [if_pos (by decide)]
  refine wpAny_bind (sliceApplied_gen hs pl pu ?_)
  have hno : ¬ ((((sIx items.size 0 lo : Nat) : Int) == 0 && (1 : Int) == 1 && (sIx items.size items.size hi - sIx items.size 0 lo) == items.size) = true) := by
    intro q
    rw [Bool.and_eq_true, Bool.and_eq_true] at q
    have q1 : ((sIx items.size 0 lo : Nat) : Int) = 0 := eq_of_beq q.1.1
    have q2 : sIx items.size items.size hi - sIx items.size 0 lo = items.size := eq_of_beq q.2
    exact hw ⟨by omega, by omega⟩
  show wpAny _ _ (if (((sIx items.size 0 lo : Nat) : Int) == 0 && (1 : Int) == 1 && (sIx items.size items.size hi - sIx items.size 0 lo) == items.size) = true then _ else _) _ _ s
  rw [if_neg hno, pick_gen]
  first
    | exact wpAny_bind (m := Builtin.Tuple.tupleExact _) (wpAny_newObj_type (wpAny_pure ⟨_, rfl, wpAny_pure h⟩) htake)
    | exact wpAny_bind (m := Builtin.Tuple.tupleExact _) (wpAny_newObj_type (wpAny_bind (wpAny_pure (wpAny_pure ⟨_, rfl, wpAny_pure h⟩))) htake)
    | exact wpAny_bind (wpAny_bind (m := Builtin.Tuple.tupleExact _) (wpAny_newObj_type (wpAny_pure (wpAny_pure ⟨_, rfl, wpAny_pure h⟩)) htake))
    | exact wpAny_bind (wpAny_bind (m := Builtin.Tuple.tupleExact _) (wpAny_newObj_type (wpAny_pure ⟨_, rfl, wpAny_pure h⟩) htake))
end
end HT
namespace L2
open PySem PySem.Spec PyProof.Rows
abbrev TO := St → Hp → (Option Int → Hp → Prop) → Prop
def PO (X : Cx) (e : Option Expr) (t : TO) : Prop :=
  ∀ (pins : List (Addr × Obj)) (s : Shared) (σ : St) (H : Hp) (Q : Option Int → Hp → Prop), Inv X pins σ H s → t σ H Q →
    wpAny (model X.prog X.w) X.A (evalPart e X.env) (fun u s' => ∃ o H', Inv X pins σ H' s' ∧ IsPart u o ∧ Q o H') X.xe s
def tNoPart : TO := fun _ H Q => Q none H
def tPart (t : TE) : TO := fun σ H Q => t σ H fun x H1 => ∃ i, x = .int i ∧ Q (some i) H1
section
variable {X : Cx} {e : Expr} {te : TE} {lo hi : Option Expr} {tl th : TO} {pos p2 : Pos}
theorem po_none : PO X none tNoPart := by
  intro pins s σ H Q I h
  rw [evalPart_none]
  exact wpAny_pure ⟨none, H, I, .none, h⟩
theorem po_some (h : PE X e te) : PO X (some e) (tPart te) := by
  intro pins s σ H Q I hw
  rw [evalPart_some]
  refine thn (h pins s σ H _ I hw) fun u s1 ⟨x, H1, I1, r1, q1⟩ => ?_
  obtain ⟨i, rfl, q⟩ := q1
  obtain ⟨t, rfl⟩ := r1
  exact ⟨some i, H1, I1, .int i t, q⟩
def SlR (X : Cx) (r : V → Option Int → Option Int → Hp → VK → Prop) : Prop :=
  ∀ (pins : List (Addr × Obj)) (s : Shared) (σ : St) (H : Hp) (x : V) (v vl vu : Value) (lo hi : Option Int) (sl : Addr) (Q : VK), Inv X pins σ H s → RelV x v → s.heap.IsSliceOf sl vl vu .none → IsPart vl lo → IsPart vu hi → r x lo hi H Q →
    ∃ T id, typeLookup (.type T) "__getitem__" = pure (some (.builtin id)) ∧ s.TypeIs v T ∧ wpAny (model X.prog X.w) X.A (getItem v (.ref sl)) (EP X pins σ Q) X.xe s
theorem SlR.or {r r' : V → Option Int → Option Int → Hp → VK → Prop} (h : SlR X r) (h' : SlR X r') : SlR X (fun x lo hi H Q => r x lo hi H Q ∨ r' x lo hi H Q) := by
  intro pins s σ H x v vl vu lo hi sl Q I rx hs pl pu q
  rcases q with q | q
  · exact h pins s σ H x v vl vu lo hi sl Q I rx hs pl pu q
  · exact h' pins s σ H x v vl vu lo hi sl Q I rx hs pl pu q
def tSl (r : V → Option Int → Option Int → Hp → VK → Prop) (te : TE) (tl th : TO) : TE := fun σ H Q => te σ H fun x H1 => tl σ H1 fun l H2 => th σ H2 fun u H3 => r x l u H3 Q
theorem pe_slice {r : V → Option Int → Option Int → Hp → VK → Prop} (hr : SlR X r) (he : PE X e te) (hl : PO X lo tl) (hu : PO X hi th) : PE X (.Subscript e (.Slice lo hi none p2) pos) (tSl r te tl th) := by
  intro pins s σ H Q I h
  refine Subscript_ (thn (he pins s σ H _ I h) fun v s1 ⟨x, H1, I1, r1, q1⟩ => ?_)
  refine wpAny_Slice (thn (hl pins s1 σ H1 _ I1 q1) fun vl s2 ⟨l, H2, I2, pl, q2⟩ => thn (hu pins s2 σ H2 _ I2 q2) fun vu s3 ⟨u, H3, I3, pu, q3⟩ => ?_)
  rw [evalPart_none]
  refine wpAny_pure ?_
  have I4 : Inv X pins σ H3 { s3 with heap := s3.heap.push { cls := .type "slice", data := .fields #[vl, vu, .none] } } := I3.kept (t' := s3.toks) fun b ob q => Heap.get?_push_of_some _ q
  obtain ⟨T, id, hT, ht, hg⟩ := hr pins { s3 with heap := s3.heap.push { cls := .type "slice", data := .fields #[vl, vu, .none] } } σ H3 x v vl vu l u s3.heap.objs.size Q I4 r1 (Heap.IsSliceOf.new ..) pl pu q3
  show wpAny (model X.prog X.w) X.A (subscriptTail e (.Slice lo hi none p2) v (.ref s3.heap.objs.size)) (EP X pins σ Q) X.xe { s3 with heap := s3.heap.push { cls := .type "slice", data := .fields #[vl, vu, .none] } }
  exact tail_any (ops := [.ref s3.heap.objs.size, v]) ht hT hg (by with_unfolding_all rfl)
def cutV (xs : List V) (lo hi : Option Int) : List V := (xs.drop (HT.sIx xs.length 0 lo)).take (HT.sIx xs.length xs.length hi - HT.sIx xs.length 0 lo)
theorem cutV_length (xs : List V) (lo hi : Option Int) : (cutV xs lo hi).length ≤ xs.length := by
  unfold cutV
  rw [List.length_take, List.length_drop]
  omega
def rSlT (K : PySem.W.Frag) : V → Option Int → Option Int → Hp → VK → Prop := fun x lo hi H Q => ∃ a xs, x = .ref a ∧ SqT K H a xs ∧
  ¬ (HT.sIx xs.length 0 lo = 0 ∧ HT.sIx xs.length xs.length hi = xs.length) ∧ ∀ p, H p = none → Q (.ref p) (upd H p (.tup (cutV xs lo hi)))
theorem sl_tup : SlR X (rSlT X.K) := by
  intro pins s σ H x v vl vu lo hi sl Q I rx hs pl pu h
  obtain ⟨a, xs, rfl, hx, hw, q⟩ := h
  cases rx
  obtain ⟨its, r, ht, hz⟩ := I.tuple hx
  have hlen : its.toArray.size = xs.length := by rw [List.size_toArray]; exact r.length.symm
  refine ⟨"tuple", _, PyProof.Rows.slot_tuple_getitem.lookup, ht.typeIs, ?_⟩
  refine HT.getItem_tuple_cut ht hs pl pu (by rw [hlen]; exact hw) ?_ (by rw [hlen]; exact hz)
  rw [hlen]
  refine ⟨.ref s.heap.objs.size, _, I.laid (t' := s.toks) (o := .tup (cutV xs lo hi)) (fun b ob q => Heap.get?_push_of_some _ q) (Nat.le_refl _) ?_, rfl, q _ (I.hok.fresh (Nat.le_refl _))⟩
  exact ⟨Nat.le_trans (cutV_length xs lo hi) hz, _, (r.drop (HT.sIx xs.length 0 lo)).take (HT.sIx xs.length xs.length hi - HT.sIx xs.length 0 lo), IsTup.new _ _⟩
def rCatT (K : PySem.W.Frag) : R2 := fun x y H Q => ∃ a b xs ys, x = .ref a ∧ y = .ref b ∧ SqT K H a xs ∧ SqT K H b ys ∧ xs ≠ [] ∧ xs.length + ys.length ≤ sizeLine ∧
  (ys = [] → Q (.ref a) H) ∧ (ys ≠ [] → ∀ p, H p = none → Q (.ref p) (upd H p (.tup (xs ++ ys))))
theorem Vals.nil_iff {xs : List V} {us : List Value} (r : Vals xs us) : us = [] ↔ xs = [] := by
  cases r with
  | nil => simp
  | cons _ _ => simp
theorem op_catT : OpR X (binaryOp .Add) (rCatT X.K) := by
  intro pins s σ H x y v u Q I rx ry h
  obtain ⟨a, b, xs, ys, rfl, rfl, ha, hb, hx, hz, q1, q2⟩ := h
  cases rx
  cases ry
  obtain ⟨its, r1, p1, _⟩ := I.tuple ha
  obtain ⟨its2, r2, p2, _⟩ := I.tuple hb
  refine HT.cat_tup p1 p2 (fun z => hx (r1.nil_iff.mp z)) (fun z => ⟨.ref a, H, I, rfl, q1 (r2.nil_iff.mp z)⟩) (fun z => ?_) (by rw [← r1.length, ← r2.length]; exact hz)
  refine ⟨.ref s.heap.objs.size, _, I.laid (t' := s.toks) (o := .tup (xs ++ ys)) (fun b ob q => Heap.get?_push_of_some _ q) (Nat.le_refl _) ?_, rfl, q2 (fun w => z (r2.nil_iff.mpr w)) _ (I.hok.fresh (Nat.le_refl _))⟩
  exact ⟨by rw [List.length_append]; exact hz, _, r1.append r2, IsTup.new _ _⟩
end
end L2
namespace L2
open PySem PySem.Spec PyProof.Rows
def ixN (n : Nat) (i : Int) : Option Nat := if 0 ≤ i then (if i < n then some i.toNat else none) else if -(n : Int) ≤ i then some (i + n).toNat else none
def atI {α : Type} (xs : List α) (i : Int) : Option α := (ixN xs.length i).bind fun j => xs[j]?
theorem ixN_seq {n : Nat} {i : Int} {j : Nat} (h : ixN n i = some j) : seqIndex? i n = some j ∧ j < n ∧ -(n : Int) ≤ i ∧ i < n := by
  unfold ixN at h
  by_cases h0 : 0 ≤ i
  · rw [if_pos h0] at h
    by_cases h1 : i < n
    · rw [if_pos h1] at h
      have e : i.toNat = j := Option.some.inj h
      exact ⟨by rw [seqIndex_of h0 h1, e], by omega, by omega, h1⟩
    · rw [if_neg h1] at h; cases h
  · rw [if_neg h0] at h
    by_cases h1 : -(n : Int) ≤ i
    · rw [if_pos h1] at h
      have e : (i + n).toNat = j := Option.some.inj h
      exact ⟨by rw [seqIndex_neg (by omega) h1, e], by omega, h1, by omega⟩
    · rw [if_neg h1] at h; cases h
theorem atI_get {α : Type} {xs : List α} {i : Int} {v : α} (h : atI xs i = some v) : ∃ j, seqIndex? i xs.length = some j ∧ xs[j]? = some v ∧ j < xs.length ∧ -(xs.length : Int) ≤ i ∧ i < xs.length := by
  unfold atI at h
  cases e : ixN xs.length i with
  | none => rw [e] at h; cases h
  | some j =>
    rw [e] at h
    obtain ⟨h1, h2, h3, h4⟩ := ixN_seq e
    exact ⟨j, h1, h, h2, h3, h4⟩
theorem atI_nat {α : Type} {xs : List α} {j : Nat} {v : α} (h : xs[j]? = some v) : atI xs (j : Int) = some v := by
  have hj : j < xs.length := (List.getElem?_eq_some_iff.mp h).1
  have e : ixN xs.length (j : Int) = some j := by
    unfold ixN
    rw [if_pos (by omega), if_pos (by omega)]; simp
  unfold atI; rw [e]; exact h
def PlainIx (b : Expr) : Prop := ∀ o i, subscripted b false o i = operate [o, i] (getItem o i)
def IxR (X : Cx) (r : R2) : Prop :=
  ∀ (value slice : Expr) (pins : List (Addr × Obj)) (s : Shared) (σ : St) (H : Hp) (x y : V) (v u : Value) (Q : VK), Inv X pins σ H s → RelV x v → RelV y u → r x y H Q →
    subscripted slice false v u = operate [v, u] (getItem v u) → wpAny (model X.prog X.w) X.A (subscriptTail value slice v u) (EP X pins σ Q) X.xe s
def MtR (X : Cx) (id : String) (r : V → List V → Hp → VK → Prop) : Prop :=
  ∀ (pins : List (Addr × Obj)) (s : Shared) (σ : St) (H : Hp) (x : V) (xs : List V) (v : Value) (us : List Value) (Q : VK), Inv X pins σ H s → RelV x v → Vals xs us → r x xs H Q →
    wpAny (model X.prog X.w) X.A (call (.builtin id) (v :: us)) (EP X pins σ Q) X.xe s
section
variable {X : Cx} {a b : Expr} {ta tb : TE} {pos : Pos}
theorem IxR.or {r r' : R2} (h : IxR X r) (h' : IxR X r') : IxR X (fun x y H Q => r x y H Q ∨ r' x y H Q) := by
  intro value slice pins s σ H x y v u Q I rx ry q hs
  rcases q with q | q
  · exact h value slice pins s σ H x y v u Q I rx ry q hs
  · exact h' value slice pins s σ H x y v u Q I rx ry q hs
theorem MtR.or {id : String} {r r' : V → List V → Hp → VK → Prop} (h : MtR X id r) (h' : MtR X id r') : MtR X id (fun x xs H Q => r x xs H Q ∨ r' x xs H Q) := by
  intro pins s σ H x xs v us Q I rx rs q
  rcases q with q | q
  · exact h pins s σ H x xs v us Q I rx rs q
  · exact h' pins s σ H x xs v us Q I rx rs q
theorem pe_ix {r : R2} (hr : IxR X r) (ha : PE X a ta) (hb : PE X b tb) (hs : PlainIx b) : PE X (.Subscript a b pos) (tOp r ta tb) := by
  intro pins s σ H Q I h
  exact Subscript_ (binT ha hb I h fun v u s2 x y H2 I2 rx ry q => hr a b pins s2 σ H2 x y v u Q I2 rx ry q (hs _ _))
def rIxL (K : PySem.W.Frag) : R2 := fun x y H Q => ∃ p xs i v, x = .ref p ∧ y = .int i ∧ SqL K H p xs ∧ atI xs i = some v ∧ Q v H
def rIxT (K : PySem.W.Frag) : R2 := fun x y H Q => ∃ p xs i v, x = .ref p ∧ y = .int i ∧ SqT K H p xs ∧ atI xs i = some v ∧ Q v H
def rIxS : R2 := fun x y H Q => ∃ z i c, x = .str z ∧ y = .int i ∧ z.length ≤ sizeLine ∧ atI z.cps.toList i = some c ∧ Q (.str ⟨#[c]⟩) H
theorem ix_list : IxR X (rIxL X.K) := by
  intro value slice pins s σ H x y v u Q I rx ry h hs
  obtain ⟨p, xs, i, z, rfl, rfl, hq, he, q⟩ := h
  cases rx
  obtain ⟨t, rfl⟩ := ry
  obtain ⟨its, r, pl, hz⟩ := I.list hq
  obtain ⟨j, h1, h2, h3, h4, h5⟩ := atI_get he
  obtain ⟨w, ew, rw'⟩ := r.get h2
  have hl := r.length
  have hn := line63
  have fin : EP X pins σ Q w s := ⟨z, H, I, rw', q⟩
  by_cases h0 : 0 ≤ i
  · have hj : i.toNat = j := by
      rw [seqIndex_of h0 h5] at h1
      exact Option.some.inj h1
    exact item_listR pl.isList h0 (by omega) (by rw [hj]; simpa using ew) fin hs
  · have hj : (i + (its.toArray.size : Int)).toNat = j := by
      rw [seqIndex_neg (by omega) h4] at h1
      rw [List.size_toArray, ← hl]
      exact Option.some.inj h1
    exact subscriptTail_builtinR (x := w) pl.isList.typeIs slot_list_getitem.lookup
      (wpAny_getItem_list_neg (Q := fun r s' => r = w ∧ EP X pins σ Q r s') pl.isList (by omega) (by rw [List.size_toArray] <;> omega) (by omega) (by rw [hj]; simpa using ew) ⟨rfl, fin⟩) hs
theorem ix_tup : IxR X (rIxT X.K) := by
  intro value slice pins s σ H x y v u Q I rx ry h hs
  obtain ⟨p, xs, i, z, rfl, rfl, hq, he, q⟩ := h
  cases rx
  obtain ⟨t, rfl⟩ := ry
  obtain ⟨its, r, pl, hz⟩ := I.tuple hq
  obtain ⟨j, h1, h2, h3, h4, h5⟩ := atI_get he
  obtain ⟨w, ew, rw'⟩ := r.get h2
  have hl := r.length
  have hn := line63
  have fin : EP X pins σ Q w s := ⟨z, H, I, rw', q⟩
  exact subscriptTail_builtinR (x := w) pl.typeIs slot_tuple_getitem.lookup
    (getItem_tuple (j := j) (Q := fun r s' => r = w ∧ EP X pins σ Q r s') pl (by omega) (by omega) (by rw [List.size_toArray, ← hl]; exact h1) (by simpa using ew) ⟨rfl, fin⟩) hs
theorem ix_str : IxR X rIxS := by
  intro value slice pins s σ H x y v u Q I rx ry h hs
  obtain ⟨z, i, c, rfl, rfl, hz, he, q⟩ := h
  obtain ⟨t, rfl⟩ := rx
  obtain ⟨t', rfl⟩ := ry
  obtain ⟨j, h1, h2, h3, h4, h5⟩ := atI_get he
  have hl : z.cps.toList.length = z.length := by simp [Str.length]
  rw [hl] at h1 h4 h5
  have hn := line63
  exact tail_any (typeIs_str s z t) slot_str_getitem.lookup (getItem_str (c := c) (by
    have e1 : decide (i < -(2 ^ 63 : Int)) = false := decide_eq_false (by omega)
    have e2 : decide (i ≥ 2 ^ 63) = false := decide_eq_false (by omega)
    rw [e1, e2, Bool.or_false]) (by rw [h1]; simpa using h2) ⟨.str ⟨#[c]⟩, H, I.tok _, ⟨_, rfl⟩, q⟩) hs
def rIx (K : PySem.W.Frag) : R2 := fun x y H Q => rIxL K x y H Q ∨ rIxT K x y H Q ∨ rIxS x y H Q
theorem ix_seq : IxR X (rIx X.K) := ix_list.or (ix_tup.or ix_str)
theorem mapSeq_set (its : List Value) (n j : Nat) (u : Value) : Obj.mapSeq (·.setIfInBounds j u) { cls := .type "list", data := .seq its.toArray n } = { cls := .type "list", data := .seq (its.set j u).toArray n } := by
  simp [Obj.mapSeq]
theorem Inv.lst {pins : List (Addr × Obj)} {σ : St} {H : Hp} {s : Shared} {p : Addr} {xs : List V} (I : Inv X pins σ H s) (h : H p = some (.lst xs)) :
    ∃ (its : List Value) (n : Nat), Vals xs its ∧ s.heap.get? p = some { cls := .type "list", data := .seq its.toArray n } ∧ xs.length ≤ sizeLine := by
  obtain ⟨z, its, n, r, e⟩ := I.hok p _ h
  exact ⟨its, n, r, e, z⟩
theorem Inv.lstUpd {pins : List (Addr × Obj)} {σ : St} {H : Hp} {s : Shared} {p : Addr} {xs ys : List V} {its its' : List Value} {n n' : Nat} {f : Obj → Obj} (I : Inv X pins σ H s) (h : H p = some (.lst xs))
    (ho : s.heap.get? p = some { cls := .type "list", data := .seq its.toArray n }) (hf : f { cls := .type "list", data := .seq its.toArray n } = { cls := .type "list", data := .seq its'.toArray n' }) (r : Vals ys its') (hz : ys.length ≤ sizeLine) (t : Nat) :
    Inv X pins σ (upd H p (.lst ys)) { s with heap := s.heap.update p f, toks := t } := by
  have e : (s.heap.update p f).get? p = some { cls := .type "list", data := .seq its'.toArray n' } := by
    rw [Heap.get?_update_self f ho (by rw [hf] <;> rfl), hf]
  refine I.write (x := p) (e := p) (by rw [h]; trivial) (.inl rfl) (fun b u hb q => (Heap.get?_update_other _ _ (Ne.symm hb)).trans q) ⟨_, e⟩ ?_
  exact ⟨hz, its', n', r, e⟩
def rSetL : V → V → V → Hp → (Hp → Prop) → Prop := fun o i v H Q => ∃ p xs k j, o = .ref p ∧ i = .int k ∧ H p = some (.lst xs) ∧ ixN xs.length k = some j ∧ Q (upd H p (.lst (xs.set j v)))
theorem set_list : PSet X rSetL := by
  intro pins s σ H o i v ov iv u Q I ro ri rv h
  obtain ⟨p, xs, k, j, rfl, rfl, hp, hj, q⟩ := h
  cases ro
  obtain ⟨t, rfl⟩ := ri
  obtain ⟨its, n, r, ho, hz⟩ := I.lst hp
  obtain ⟨h1, h2, h3, h4⟩ := ixN_seq hj
  have hl := r.length
  have hn := line63
  have I' : Inv X pins σ (upd H p (.lst (xs.set j v))) { s with heap := s.heap.update p (Obj.mapSeq (·.setIfInBounds j u)) } :=
    I.lstUpd hp ho (mapSeq_set its n j u) (r.set rv j) (by rw [List.length_set]; exact hz) s.toks
  by_cases h0 : 0 ≤ k
  · have hk : k.toNat = j := by
      rw [seqIndex_of h0 h4] at h1
      exact Option.some.inj h1
    exact PySem.W.ki_setAt ho h0 (by omega) (by rw [List.size_toArray, ← hl]; exact h4) (by rw [hk]; exact ⟨_, I', q⟩)
  · have hk : (k + (its.toArray.size : Int)).toNat = j := by
      rw [seqIndex_neg (by omega) h3] at h1
      rw [List.size_toArray, ← hl]
      exact Option.some.inj h1
    exact PySem.W.ki_setBack ho (by omega) (by rw [List.size_toArray, ← hl]; exact h3) (by omega) (by rw [hk]; exact ⟨_, I', q⟩)
theorem slice_bounds (lo hi : Option Int) (n : Nat) : (sliceBounds lo hi none n).1 = ((HT.sIx n 0 lo : Nat) : Int) ∧ (sliceBounds lo hi none n).2.1 = ((HT.sIx n n hi : Nat) : Int) ∧ (sliceBounds lo hi none n).2.2 = 1 := by
  refine ⟨?_, ?_, rfl⟩
  · cases lo with
    | none => simp [sliceBounds, HT.sIx]
    | some i =>
      simp only [sliceBounds, HT.sIx, Option.getD_none, show (1 : Int) > 0 by decide, if_true]
      by_cases h : i < 0
      · simp only [h, if_true] <;> omega
      · simp only [h, if_false] <;> omega
  · cases hi with
    | none => simp [sliceBounds, HT.sIx]
    | some i =>
      simp only [sliceBounds, HT.sIx, Option.getD_none, show (1 : Int) > 0 by decide, if_true]
      by_cases h : i < 0
      · simp only [h, if_true] <;> omega
      · simp only [h, if_false] <;> omega
theorem slicePick_cut (its : List Value) (lo hi : Option Int) : slicePick its.toArray lo hi none = ((its.drop (HT.sIx its.length 0 lo)).take (HT.sIx its.length its.length hi - HT.sIx its.length 0 lo)).toArray := by
  obtain ⟨h1, h2, h3⟩ := slice_bounds lo hi its.toArray.size
  unfold slicePick
  rw [h1, h2, h3]
  simp only [sliceRange_one, pick_run, List.size_toArray] <;> rfl
def rSlL (K : PySem.W.Frag) : V → Option Int → Option Int → Hp → VK → Prop := fun x lo hi H Q => ∃ a xs, x = .ref a ∧ SqL K H a xs ∧ ∀ p, H p = none → Q (.ref p) (upd H p (.lst (cutV xs lo hi)))
theorem sl_list : SlR X (rSlL X.K) := by
  intro pins s σ H x v vl vu lo hi sl Q I rx hs pl pu h
  obtain ⟨a, xs, rfl, hx, q⟩ := h
  cases rx
  obtain ⟨its, r, ht, hz⟩ := I.list hx
  have hlen := r.length
  refine ⟨"list", _, slot_list_getitem.lookup, ht.isList.typeIs, ?_⟩
  refine wpAny_getItem_list_slice ht.isList hs pl pu .none (by simp) ?_ (by rw [List.size_toArray] <;> omega)
  rw [slicePick_cut, ← hlen]
  refine ⟨.ref s.heap.objs.size, _, I.laid (t' := s.toks) (o := .lst (cutV xs lo hi)) (fun b ob q => Heap.get?_push_of_some _ q) (Nat.le_refl _) ?_, rfl, q _ (I.hok.fresh (Nat.le_refl _))⟩
  exact ⟨Nat.le_trans (cutV_length xs lo hi) hz, _, 0, (r.drop (HT.sIx xs.length 0 lo)).take (HT.sIx xs.length xs.length hi - HT.sIx xs.length 0 lo), Heap.get?_push_size _ rfl⟩
def flatV : V → Bool
  | .non => true
  | .bl _ => true
  | .int _ => true
  | .str _ => true
  | _ => false
def eqV : V → V → Bool
  | .non, .non => true
  | .bl a, .bl b => a == b
  | .bl a, .int b => (if a then 1 else 0) == b
  | .int a, .bl b => a == (if b then 1 else 0)
  | .int a, .int b => a == b
  | .str a, .str b => a == b
  | _, _ => false
theorem eqAt_V {A : Around} {s : Shared} {y x : V} {u v : Value} (ry : RelV y u) (rx : RelV x v) (fy : flatV y = true) (fx : flatV x = true) : SeqAt.EqAt A s u v (eqV y x) := by
  cases y with
  | non =>
    cases ry
    cases x with
    | non => cases rx; exact SeqAt.EqAt.same _
    | bl b => cases rx; exact SeqAt.EqAt.none_bool b
    | int b => obtain ⟨t, rfl⟩ := rx; exact SeqAt.EqAt.none_int b t
    | str b => obtain ⟨t, rfl⟩ := rx; exact SeqAt.EqAt.none_str b t
    | _ => exact absurd (show false = true from fx) Bool.false_ne_true
  | bl a =>
    cases ry
    cases x with
    | non => cases rx; exact SeqAt.EqAt.bool_none a
    | bl b => cases rx; exact SeqAt.EqAt.bool_bool a b
    | int b => obtain ⟨t, rfl⟩ := rx; exact SeqAt.EqAt.bool_int a b t
    | str b => obtain ⟨t, rfl⟩ := rx; exact SeqAt.EqAt.bool_str a b t
    | _ => exact absurd (show false = true from fx) Bool.false_ne_true
  | int a =>
    obtain ⟨t', rfl⟩ := ry
    cases x with
    | non => cases rx; exact SeqAt.EqAt.int_none a t'
    | bl b => cases rx; exact SeqAt.EqAt.int_bool a t' b
    | int b => obtain ⟨t, rfl⟩ := rx; exact SeqAt.EqAt.int_int a t' b t
    | str b => obtain ⟨t, rfl⟩ := rx; exact SeqAt.EqAt.int_str a t' b t
    | _ => exact absurd (show false = true from fx) Bool.false_ne_true
  | str a =>
    obtain ⟨t', rfl⟩ := ry
    cases x with
    | non => cases rx; exact SeqAt.EqAt.str_none a t'
    | bl b => cases rx; exact SeqAt.EqAt.str_bool a t' b
    | int b => obtain ⟨t, rfl⟩ := rx; exact SeqAt.EqAt.str_int a t' b t
    | str b => obtain ⟨t, rfl⟩ := rx; exact SeqAt.EqAt.str_str a t' b t
    | _ => exact absurd (show false = true from fx) Bool.false_ne_true
  | _ => exact absurd (show false = true from fy) Bool.false_ne_true
def eqU (x : V) (u : Value) : Bool := match u with
  | .none => eqV .non x
  | .bool b => eqV (.bl b) x
  | .int i _ => eqV (.int i) x
  | .str z _ => eqV (.str z) x
  | _ => false
theorem eqU_of {x y : V} {u : Value} (r : RelV y u) (f : flatV y = true) : eqU x u = eqV y x := by
  cases y with
  | non => cases r; rfl
  | bl b => cases r; rfl
  | int i => obtain ⟨t, rfl⟩ := r; rfl
  | str z => obtain ⟨t, rfl⟩ := r; rfl
  | _ => exact absurd (show false = true from f) Bool.false_ne_true
theorem any_eqU {x : V} : ∀ {xs : List V} {us : List Value}, Vals xs us → xs.all flatV = true → us.any (eqU x) = xs.any fun y => eqV y x
  | _, _, .nil, _ => rfl
  | y :: xs, u :: us, .cons r t, f => by
    rw [List.all_cons, Bool.and_eq_true] at f
    rw [List.any_cons, List.any_cons, eqU_of r f.1, any_eqU t f.2]
theorem mem_eqAt {A : Around} {s : Shared} {x : V} {v : Value} (rx : RelV x v) (fx : flatV x = true) : ∀ {xs : List V} {us : List Value}, Vals xs us → xs.all flatV = true → ∀ u ∈ us, SeqAt.EqAt A s u v (eqU x u)
  | _, _, .nil, _ => fun u hu => by cases hu
  | y :: xs, u :: us, .cons r t, f => fun u' hu => by
    rw [List.all_cons, Bool.and_eq_true] at f
    rcases List.mem_cons.mp hu with rfl | hu
    · rw [eqU_of r f.1]; exact eqAt_V r rx f.1 fx
    · exact mem_eqAt rx fx t f.2 u' hu
def inV (x : V) (xs : List V) : Bool := xs.any fun y => eqV y x
def rIn (K : PySem.W.Frag) (neg : Bool) : R2 := fun x y H Q => ∃ p xs, y = .ref p ∧ (SqL K H p xs ∨ SqT K H p xs) ∧ flatV x = true ∧ xs.all flatV = true ∧ Q (.bl (if neg then !inV x xs else inV x xs)) H
theorem op_in_seq : OpR X (compareOp .In) (rIn X.K false) := by
  intro pins s σ H x y v u Q I rx ry h
  obtain ⟨p, xs, rfl, hq, fx, fs, q⟩ := h
  cases ry
  rcases hq with hq | hq
  · obtain ⟨its, r, pl, hz⟩ := I.list hq
    refine SeqAt.in_listAt (eqU x) pl.isList (fun w hw => mem_eqAt rx fx r fs w (by simpa using hw)) ⟨.bl _, H, I, rfl, ?_⟩
    rw [show its.toArray.any (eqU x) = its.any (eqU x) by simp, any_eqU r fs]
    exact q
  · obtain ⟨its, r, pl, hz⟩ := I.tuple hq
    refine SeqAt.in_tupleAt (eqU x) pl (fun w hw => mem_eqAt rx fx r fs w (by simpa using hw)) ⟨.bl _, H, I, rfl, ?_⟩
    rw [show its.toArray.any (eqU x) = its.any (eqU x) by simp, any_eqU r fs]
    exact q
theorem CallR.or {f : Value} {r r' : List V → Hp → VK → Prop} (h : CallR X f r) (h' : CallR X f r') : CallR X f (fun xs H Q => r xs H Q ∨ r' xs H Q) := by
  intro pins s σ H xs us Q I rs q
  rcases q with q | q
  · exact h pins s σ H xs us Q I rs q
  · exact h' pins s σ H xs us Q I rs q
theorem call_list_of : CallR X (.type "list") (fun xs H Q => ∃ p ys, xs = [.ref p] ∧ (SqL X.K H p ys ∨ SqT X.K H p ys) ∧ ∀ l, H l = none → Q (.ref l) (upd H l (.lst ys))) := by
  intro pins s σ H xs us Q I r h
  obtain ⟨p, ys, rfl, hq, q⟩ := h
  obtain ⟨u, rfl, rx⟩ := vals1 r
  cases rx
  have fin : ∀ (its : List Value), Vals ys its → ys.length ≤ sizeLine → ∀ (h' : Heap) (c' : Nat), (∀ b o', s.heap.get? b = some o' → h'.get? b = some o') →
      h'.get? s.heap.objs.size = some { cls := .type "list", dict := none, data := .seq its.toArray c', slots := #[] } → EP X pins σ Q (.ref s.heap.objs.size) { s with heap := h' } := fun its r' hz h' c' kp e =>
    ⟨.ref s.heap.objs.size, _, I.laid (t' := s.toks) kp (Nat.le_refl _) (show ObjOk X.prog X.w _ h' _ (.lst ys) from ⟨hz, its, c', r', e⟩), rfl, q _ (I.hok.fresh (Nat.le_refl _))⟩
  rcases hq with hq | hq
  · obtain ⟨its, r', pl, hz⟩ := I.list hq
    have hlen := r'.length
    obtain ⟨o, ho, hc, n, hd⟩ := pl.isList
    exact call_list_seq p (.inl rfl) ho hc hd (fun h' c' kp e => fin its r' hz h' c' kp e) (by simp only [List.size_toArray] <;> omega)
  · obtain ⟨its, r', pl, hz⟩ := I.tuple hq
    have hlen := r'.length
    obtain ⟨o, ho, hc, n, hd⟩ := pl
    exact call_list_seq p (.inr rfl) ho hc hd (fun h' c' kp e => fin its r' hz h' c' kp e) (by simp only [List.size_toArray] <;> omega)
theorem call_tuple_of : CallR X (.type "tuple") (fun xs H Q => ∃ p ys, xs = [.ref p] ∧ ((SqL X.K H p ys ∧ ∀ l, H l = none → Q (.ref l) (upd H l (.tup ys))) ∨ (SqT X.K H p ys ∧ Q (.ref p) H))) := by
  intro pins s σ H xs us Q I r h
  obtain ⟨p, ys, rfl, h⟩ := h
  obtain ⟨u, rfl, rx⟩ := vals1 r
  cases rx
  rcases h with ⟨hq, q⟩ | ⟨hq, q⟩
  · obtain ⟨its, r', pl, hz⟩ := I.list hq
    have hlen := r'.length
    refine call_tuple_list pl.isList (fun h' kp => ?_) (by simp only [List.size_toArray] <;> omega)
    have I1 : Inv X pins σ H { s with heap := h' } := I.kept (t' := s.toks) kp
    have I2 : Inv X pins σ (upd H h'.objs.size (.tup ys)) { s with heap := h'.push { cls := .type "tuple", data := .seq its.toArray } } :=
      I1.laid (t' := s.toks) (fun b o e => Heap.get?_push_of_some _ e) (Nat.le_refl _) (show ObjOk X.prog X.w _ _ _ (.tup ys) from ⟨hz, its, r', IsTup.new _ _⟩)
    exact ⟨.ref h'.objs.size, _, I2, rfl, q _ (I1.hok.fresh (Nat.le_refl _))⟩
  · obtain ⟨its, r', pl, hz⟩ := I.tuple hq
    exact call_tuple_same pl ⟨.ref p, H, I, rfl, q⟩
def tyV (K : PySem.W.Frag) (T : String) (x : V) (H : Hp) : Prop := match x with
  | .str _ => T = "str"
  | .int _ => T = "int"
  | .ref p => (T = "list" ∧ ∃ xs, SqL K H p xs) ∨ (T = "tuple" ∧ ∃ o, K.lookup p = some o ∧ o.cls = .type "tuple" ∧ o.dict = none) ∨
      (T = "dict" ∧ ((∃ kvs, H p = some (.dK kvs)) ∨ ∃ kvs, H p = some (.dT kvs))) ∨ (T = "set" ∧ ∃ S n, H p = some (.set S n))
  | _ => False
theorem tyV_is {pins : List (Addr × Obj)} {σ : St} {H : Hp} {s : Shared} {T : String} {x : V} {v : Value} (I : Inv X pins σ H s) (r : RelV x v) (ty : tyV X.K T x H) :
    s.TypeIs v T ∧ ∀ a, v = .ref a → ∃ ob, s.heap.get? a = some ob ∧ ob.dict = none := by
  cases x with
  | str z =>
    obtain ⟨t, rfl⟩ := r
    cases (show T = "str" from ty)
    exact ⟨typeIs_str s z t, fun _ e => nomatch e⟩
  | int i =>
    obtain ⟨t, rfl⟩ := r
    cases (show T = "int" from ty)
    exact ⟨typeIs_int s i t, fun _ e => nomatch e⟩
  | ref p =>
    cases r
    rcases ty with ⟨rfl, xs, hq⟩ | ⟨rfl, o, hk, hc, hd⟩ | ⟨rfl, hk⟩ | ⟨rfl, S, n, hk⟩
    · obtain ⟨its, _, pl, _⟩ := I.list hq
      refine ⟨pl.isList.typeIs, fun a e => ?_⟩
      cases e
      obtain ⟨o, n, e, c, hd, _⟩ := pl
      exact ⟨o, e, hd⟩
    · refine ⟨⟨o, I.kIn p o hk, hc⟩, fun a e => ?_⟩
      cases e
      exact ⟨o, I.kIn _ o hk, hd⟩
    · have z : ∃ o, s.heap.get? p = some o ∧ o.ExactDict := by
        rcases hk with ⟨kvs, hk⟩ | ⟨kvs, hk⟩
        · obtain ⟨_, _, _, _, o, _, _, e, ex, _⟩ := I.hok p _ hk
          exact ⟨o, e, ex⟩
        · obtain ⟨_, _, _, _, o, _, _, e, ex, _⟩ := I.hok p _ hk
          exact ⟨o, e, ex⟩
      obtain ⟨o, e, ex⟩ := z
      refine ⟨⟨o, e, ex.1⟩, fun a e2 => ?_⟩
      cases e2
      exact ⟨o, e, ex.2.1⟩
    · obtain ⟨o, _, _, _, e, ex, _⟩ := I.hok p _ hk
      refine ⟨⟨o, e, ex.1⟩, fun a e2 => ?_⟩
      cases e2
      exact ⟨o, e, ex.2.1⟩
  | _ => exact False.elim ty
def tBM (K : PySem.W.Frag) (T : String) (r : V → List V → Hp → VK → Prop) (to : TE) (t : TA) : TE := fun σ H Q => to σ H fun x H1 => tyV K T x H1 ∧ t σ H1 fun xs H2 => r x xs H2 Q
variable {o e : Expr} {es : List Expr} {to : TE} {t : TA} {name : Str} {apos cpos : Pos} {T id : String} {r : V → List V → Hp → VK → Prop}
theorem pe_bm (pa : PlainAttrs T) (slot : Slot T name id) (hty : typeOf (.builtin id) = pure (.type "method_descriptor")) (hm : MtR X id r) (ho : PE X o to) (ha : PA X (e :: es) t)
    (hbase : attributeBase o name X.env (eval o X.env) = eval o X.env := by rfl)
    (hfew : ((backTo cpos (starEach (e :: es) X.env)).all (fun x => !x.1) && (backToKw cpos (keywordEach [] X.env)).all (fun x => x.1.isSome)
      && decide ((e :: es).length + ([] : List Keyword).length + (if ([] : List Keyword).isEmpty then 0 else 1) < 30)) = true := by rfl)
    (hline : (apos.endLine == cpos.line) = true := by rfl) (hs : starEach (e :: es) X.env = (false, eval e X.env) :: starEach es X.env := by rfl) (hplain : (backTo cpos (starEach es X.env)).any (·.1) = false := by rfl) :
    PE X (.Call (.Attribute o name apos) (e :: es) [] cpos) (tBM X.K T r to t) := by
  intro pins s σ H Q I h
  refine wpAny_Call_method_late hbase hfew hline rfl (thn (ho pins s σ H _ I h) fun v s1 ⟨x, H1, I1, r1, ty, q1⟩ => ?_)
  obtain ⟨h1, h2⟩ := tyV_is I1 r1 ty
  refine ⟨T, id, pa, slot, hty, h1, h2, ?_⟩
  have hA := ha cpos pins s1 σ H1 _ I1 q1
  rw [hs] at hA ⊢
  refine Calls.callWith_builtin (by show (false || (backTo cpos (starEach es X.env)).any (·.1)) = false; rw [hplain] <;> rfl) (Calls.evalArgs_plain ?_)
  exact thn hA fun us s2 ⟨vs, H2, I2, r2, q2⟩ => hm pins s2 σ H2 x vs v us Q I2 r1 r2 q2
end
end L2
namespace L2
open PySem PySem.Spec PyProof.Rows
def MtM (X : Cx) (id : String) (r : V → List V → Hp → VK → Prop) : Prop :=
  ∀ (pins : List (Addr × Obj)) (s : Shared) (σ : St) (H : Hp) (x : V) (xs : List V) (v : Value) (us : List Value) (Q : VK), Inv X pins σ H s → RelV x v → Vals xs us → r x xs H Q →
    wpAny (model X.prog X.w) X.A (call (.builtin id) (v :: us)) (EP X pins σ Q) X.xe s
theorem Vals.one : ∀ {x : V} {us : List Value}, Vals [x] us → ∃ u, us = [u] ∧ RelV x u
  | _, _, .cons r .nil => ⟨_, rfl, r⟩
theorem Vals.two : ∀ {x y : V} {us : List Value}, Vals [x, y] us → ∃ u v, us = [u, v] ∧ RelV x u ∧ RelV y v
  | _, _, _, .cons r (.cons q .nil) => ⟨_, _, rfl, r, q⟩
theorem Vals.zero : ∀ {us : List Value}, Vals [] us → us = []
  | _, .nil => rfl
theorem Vals.reverse {xs : List V} {us : List Value} (h : Vals xs us) : Vals xs.reverse us.reverse := by
  induction h with
  | nil => exact .nil
  | cons r t ih => rw [List.reverse_cons, List.reverse_cons]; exact Vals.append ih (.cons r .nil)
theorem Vals.rep {xs : List V} {us : List Value} (h : Vals xs us) : ∀ k : Nat, Vals (List.replicate k xs).flatten (List.replicate k us).flatten
  | 0 => .nil
  | k + 1 => by
    rw [List.replicate_succ, List.replicate_succ, List.flatten_cons, List.flatten_cons]
    exact Vals.append h (Vals.rep h k)
theorem foldl_rep (its : List Value) : ∀ (k : Nat) (acc : List Value),
    List.foldl (fun x1 x2 => x1 ++ x2) acc.toArray (List.replicate k its.toArray) = (acc ++ (List.replicate k its).flatten).toArray
  | 0, acc => by simp
  | k + 1, acc => by
    have e : acc.toArray ++ its.toArray = (acc ++ its).toArray := by simp
    have e2 : (acc ++ its) ++ (List.replicate k its).flatten = acc ++ (List.replicate (k + 1) its).flatten := by
      rw [List.replicate_succ, List.flatten_cons, List.append_assoc]
    rw [← e2, ← foldl_rep its k (acc ++ its), ← e, List.replicate_succ, List.foldl_cons]
section
variable {X : Cx} {pins : List (Addr × Obj)} {σ : St} {H : Hp} {s : Shared} {l b : Addr} {xs ys zs : List V}
theorem Inv.lset {its its' : List Value} {n : Nat} {f : Array Value → Array Value} {t' : Nat} (I : Inv X pins σ H s) (hH : H l = some (.lst xs))
    (e : s.heap.get? l = some { cls := .type "list", data := .seq its.toArray n }) (hf : f its.toArray = its'.toArray) (hv : Vals ys its') (hz : ys.length ≤ sizeLine) :
    Inv X pins σ (upd H l (.lst ys)) { s with heap := s.heap.update l (Obj.mapSeq f), toks := t' } := by
  have q := PySem.IsL.update e f
  rw [hf] at q
  refine I.write (x := l) (e := l) (by rw [hH]; exact trivial) (.inl rfl) (fun b' u hb hu => (Heap.get?_update_other s.heap (Obj.mapSeq f) (Ne.symm hb)).trans hu) ⟨_, q⟩ ?_
  exact ⟨hz, its', _, hv, q⟩
theorem Inv.lnew {its : List Value} {t' : Nat} (I : Inv X pins σ H s) (hv : Vals ys its) (hz : ys.length ≤ sizeLine) :
    Inv X pins σ (upd H s.heap.objs.size (.lst ys)) { s with heap := s.heap.push { cls := .type "list", data := .seq its.toArray }, toks := t' } :=
  I.laid (fun _ _ q => Heap.get?_push_of_some _ q) (Nat.le_refl _) ⟨hz, its, 0, hv, Heap.get?_push_size _ rfl⟩
theorem Inv.fresh (I : Inv X pins σ H s) : H s.heap.objs.size = none := I.hok.fresh (Nat.le_refl _)
theorem Inv.lstM (I : Inv X pins σ H s) (hH : H l = some (.lst xs)) : xs.length ≤ sizeLine ∧ ∃ (its : List Value) (n : Nat), Vals xs its ∧ xs.length = its.length ∧ s.heap.get? l = some { cls := .type "list", data := .seq its.toArray n } := by
  obtain ⟨z, its, n, r, e⟩ := I.hok l _ hH
  exact ⟨z, its, n, r, r.length, e⟩
end
section
variable {X : Cx}
def rAppend : V → List V → Hp → VK → Prop := fun x vs H Q => ∃ l xs y, x = .ref l ∧ vs = [y] ∧ H l = some (.lst xs) ∧ xs.length < sizeLine ∧ Q .non (upd H l (.lst (xs ++ [y])))
theorem mt_append : MtM X "list.append" rAppend := by
  intro pins s σ H x vs v us Q I rx rv h
  obtain ⟨l, xs, y, rfl, rfl, hH, hz, q⟩ := h
  cases rx
  obtain ⟨u, rfl, ru⟩ := rv.one
  obtain ⟨z, its, n, r, hl, e⟩ := I.lstM hH
  refine call_meets F.slot_list_append ⟨_, e, rfl⟩ F.entry_list_append (F.args_list_append_2 _ _) (PySem.list_append l its.toArray n u (by rw [List.size_toArray]; omega)) ⟨e, ?_⟩
  refine ⟨.non, _, I.lset (its' := its ++ [u]) hH e (by simp) (r.append (.cons ru .nil)) ?_, rfl, q⟩
  rw [List.length_append, List.length_singleton]
  omega
def rCat : R2 := fun x y H Q => ∃ l b xs zs, x = .ref l ∧ y = .ref b ∧ H l = some (.lst xs) ∧ H b = some (.lst zs) ∧ xs.length + zs.length ≤ sizeLine ∧ ∀ p, H p = none → Q (.ref p) (upd H p (.lst (xs ++ zs)))
theorem op_cat : OpR X (binaryOp .Add) rCat := by
  intro pins s σ H x y v u Q I rx ry h
  obtain ⟨l, b, xs, zs, rfl, rfl, hH, hB, hz, q⟩ := h
  cases rx
  cases ry
  obtain ⟨z, its, n, r, hl, e⟩ := I.lstM hH
  obtain ⟨z2, its2, n2, r2, hl2, e2⟩ := I.lstM hB
  refine PySem.P.add_list e e2 ?_ (by rw [List.size_toArray, List.size_toArray]; omega)
  have ea : its.toArray ++ its2.toArray = (its ++ its2).toArray := by simp
  rw [ea]
  exact ⟨.ref _, _, I.lnew (t' := s.toks) (r.append r2) (by rw [List.length_append]; omega), rfl, q _ I.fresh⟩
theorem len_rep {α : Type} (xs : List α) (k : Nat) : (List.replicate k xs).flatten.length = k * xs.length := by
  induction k with
  | zero => simp
  | succ k ih => rw [List.replicate_succ, List.flatten_cons, List.length_append, ih, Nat.succ_mul, Nat.add_comm]
end
section
variable {prog : Program} {w : World} {A : Around} {E : Value → Shared → Prop} {s : Shared}
end
section
variable {X : Cx}
end
end L2
namespace L2
open PySem PySem.Spec PyProof.Rows
theorem Vals.ints : ∀ {ns : List Int} {us : List Value}, Vals (ns.map V.int) us → IntsAre us ns
  | [], us, h => by
    rw [List.map_nil] at h
    cases h
    exact IntsAre.nil
  | n :: ns, us, h => by
    rw [List.map_cons] at h
    cases h with
    | cons r t =>
      obtain ⟨k, rfl⟩ := r
      exact IntsAre.cons n k (Vals.ints t)
theorem Vals.strs : ∀ {xs : List Str} {us : List Value}, Vals (xs.map V.str) us → StrsAre us xs
  | [], us, h => by
    rw [List.map_nil] at h
    cases h
    exact StrsAre.nil
  | x :: xs, us, h => by
    rw [List.map_cons] at h
    cases h with
    | cons r t =>
      obtain ⟨k, rfl⟩ := r
      exact StrsAre.cons x k (Vals.strs t)
theorem Vals.bls : ∀ {bs : List Bool} {us : List Value}, Vals (bs.map V.bl) us → us = bs.map Value.bool
  | [], us, h => by
    rw [List.map_nil] at h
    cases h
    rfl
  | b :: bs, us, h => by
    rw [List.map_cons] at h
    cases h with
    | cons r t =>
      cases r
      rw [Vals.bls t, List.map_cons]
theorem Vals.ref1 {a : Addr} {us : List Value} (r : Vals [V.ref a] us) : us = [Value.ref a] := by
  cases r with
  | cons r t =>
    cases t
    cases r
    rfl
section
variable {prog : Program} {w : World} {A : Around} {E : Value → Shared → Prop} {s : Shared} {l : Addr} {its : List Value} {ns : List Int} {Q : Value → Shared → Prop}
end
section
variable {X : Cx}
end
section
variable {X : Cx}
end
section
variable {X : Cx}
end
theorem iter_any {prog : Program} {w : World} {A : Around} {E : Value → Shared → Prop} {s : Shared} {l : Addr} {items : Array Value} {Q : Value → Shared → Prop} (hl : s.heap.IsList l items)
    (h : ∀ s₂ : Shared, s₂ = { s with heap := s.heap.push { cls := .type "list_iterator", data := .fields #[.ref l, .int 0 0] } } →
      (s₂.heap.IsListIter s.heap.objs.size l 0 ∧ s₂.heap.IsList l items) → l ≠ s.heap.objs.size → Q (.ref s.heap.objs.size) s₂) : wpAny (model prog w) A (pyIter (.ref l)) Q E s := by
  have hlt : l < s.heap.objs.size := by obtain ⟨_, e, _⟩ := hl; exact Heap.lt_size e
  exact wpAny_pyIter_list hl (h _ rfl ⟨⟨_, Heap.get?_push_size _ rfl, rfl, rfl⟩, hl.push _⟩ (Nat.ne_of_lt hlt))
theorem truth_bools {prog : Program} {w : World} {A : Around} {bs : List Bool} {its : List Value} (e : its = bs.map Value.bool) :
    TruthOf prog w A (fun i v => its.toArray[i]? = some v) (fun i => bs.getD i false) := fun i v s Q E hv hq => by
  have hv' : its[i]? = some v := by simpa using hv
  rw [e, List.getElem?_map] at hv'
  obtain ⟨b, hb, rfl⟩ := Option.map_eq_some_iff.mp hv'
  have hg : bs.getD i false = b := by rw [List.getD_eq_getElem?_getD, hb] <;> rfl
  have hq' : Q (bs.getD i false) s := hq
  rw [hg] at hq'
  exact wpAny_truthy_bool hq'
theorem all_range : ∀ bs : List Bool, (List.range bs.length).all (fun i => bs.getD i false) = bs.all id
  | [] => rfl
  | b :: bs => by
    rw [List.length_cons, List.range_succ_eq_map, List.all_cons, List.all_map, List.all_cons, ← all_range bs]
    all_goals rfl
section
variable {X : Cx}
def rAll (K : PySem.W.Frag) : List V → Hp → VK → Prop := fun vs H Q => ∃ (a : Addr) (bs : List Bool), vs = [V.ref a] ∧ SqL K H a (bs.map V.bl) ∧ Q (.bl (bs.all id)) H
theorem cr_all (hc : X.calm = true) : CallR X (.builtin "all") (rAll X.K) := by
  intro pins s σ H vs us Q I r h
  obtain ⟨a, bs, rfl, hs, q⟩ := h
  obtain ⟨its, rv, hl, _⟩ := I.list hs
  rw [Vals.ref1 r]
  have hb := rv.bls
  refine call_all_walk (iter_any hl.isList fun s₂ e2 st hne => ?_)
  subst e2
  refine ⟨_, _, _, _, _, _, _, rfl, Walks.list (A := X.A.in1) (I.ok.hd hc) _ a hne its.toArray, st, truth_bools hb, fun h' tk hk => ?_⟩
  refine ⟨.bl _, H, I.kept fun b o eo => hk b o (fun hmem => ?_) (Heap.get?_push_of_some _ eo), ?_, q⟩
  · rcases List.mem_cons.mp hmem with e1 | hmem
    · exact absurd (e1 ▸ Heap.lt_size eo) (Nat.lt_irrefl _)
    · cases hmem
  · show Value.bool _ = Value.bool _
    rw [← all_range, hb, List.size_toArray, List.length_map]
end
mutual
inductive Dp (K : PySem.W.Frag) (H : Hp) : V → PyData → Prop
  | non : Dp K H .non .none
  | bl (b : Bool) : Dp K H (.bl b) (.bool b)
  | int (i : Int) : Dp K H (.int i) (.int i)
  | str (x : Str) : Dp K H (.str x) (.str x)
  | lst {a : Addr} {xs : List V} {ds : List PyData} : SqL K H a xs → DpAll K H xs ds → Dp K H (.ref a) (.list ds)
  | tup {a : Addr} {xs : List V} {ds : List PyData} : SqT K H a xs → DpAll K H xs ds → Dp K H (.ref a) (.tuple ds)
inductive DpAll (K : PySem.W.Frag) (H : Hp) : List V → List PyData → Prop
  | nil : DpAll K H [] []
  | cons {v : V} {vs : List V} {d : PyData} {ds : List PyData} : Dp K H v d → DpAll K H vs ds → DpAll K H (v :: vs) (d :: ds)
end
section
variable {X : Cx} {pins : List (Addr × Obj)} {σ : St} {H : Hp} {s : Shared}
mutual
theorem Dp.reads (I : Inv X pins σ H s) : ∀ (d : PyData) (v : V) (u : Value), Dp X.K H v d → RelV v u → ∃ as, Reads s.heap u d as
  | .none, _, _, h, r => by
    cases h
    cases r
    exact ⟨_, Reads.none⟩
  | .bool b, _, _, h, r => by
    cases h
    cases r
    exact ⟨_, Reads.bool b⟩
  | .int i, _, _, h, r => by
    cases h
    obtain ⟨t, rfl⟩ := r
    exact ⟨_, Reads.int i t⟩
  | .str x, _, _, h, r => by
    cases h
    obtain ⟨t, rfl⟩ := r
    exact ⟨_, Reads.str x t⟩
  | .list ds, _, _, h, r => by
    cases h with
    | lst hs ha =>
      cases r
      obtain ⟨its, rv, ⟨o, n, ho, hc, _, hd⟩, _⟩ := I.list hs
      obtain ⟨as, hr⟩ := Dp.readsAll I ds _ its ha rv
      exact ⟨_, Reads.list ho hc hd hr⟩
  | .tuple ds, _, _, h, r => by
    cases h with
    | tup hs ha =>
      cases r
      obtain ⟨its, rv, ⟨o, ho, hc, n, hd⟩, _⟩ := I.tuple hs
      obtain ⟨as, hr⟩ := Dp.readsAll I ds _ its ha rv
      exact ⟨_, Reads.tuple ho hc hd hr⟩
  | .dict _, _, _, h, _ => by cases h
theorem Dp.readsAll (I : Inv X pins σ H s) : ∀ (ds : List PyData) (vs : List V) (us : List Value), DpAll X.K H vs ds → Vals vs us → ∃ as, ReadsAll s.heap us ds as
  | [], _, _, h, r => by
    cases h
    cases r
    exact ⟨_, ReadsAll.nil⟩
  | d :: ds, _, _, h, r => by
    cases h with
    | cons h1 h2 =>
      cases r with
      | cons r1 r2 =>
        obtain ⟨as, q1⟩ := Dp.reads I d _ _ h1 r1
        obtain ⟨bs, q2⟩ := Dp.readsAll I ds _ _ h2 r2
        exact ⟨_, ReadsAll.cons q1 q2⟩
end
end
section
variable {X : Cx}
def rEqD (K : PySem.W.Frag) : R2 := fun x y H Q => ∃ d e, Dp K H x d ∧ Dp K H y e ∧ SeqAt.shaped d = true ∧ SeqAt.shaped e = true ∧ Q (.bl (PyData.eqv d e)) H
def rNeD (K : PySem.W.Frag) : R2 := fun x y H Q => ∃ d e, Dp K H x d ∧ Dp K H y e ∧ SeqAt.shaped d = true ∧ SeqAt.shaped e = true ∧ Q (.bl (!PyData.eqv d e)) H
theorem op_eqD (hu : X.A.units + 64 < cLine) : OpR X (compareOp .Eq) (rEqD X.K) := by
  intro pins s σ H x y v u Q I rx ry h
  obtain ⟨d, e, hd, he, sd, se, q⟩ := h
  obtain ⟨as, r1⟩ := Dp.reads I d x v hd rx
  obtain ⟨bs, r2⟩ := Dp.reads I e y u he ry
  exact SeqAt.compareEq_shaped r1 r2 sd se hu ⟨.bl _, H, I, rfl, q⟩
theorem op_neD (hu : X.A.units + 64 < cLine) : OpR X (compareOp .NotEq) (rNeD X.K) := by
  intro pins s σ H x y v u Q I rx ry h
  obtain ⟨d, e, hd, he, sd, se, q⟩ := h
  obtain ⟨as, r1⟩ := Dp.reads I d x v hd rx
  obtain ⟨bs, r2⟩ := Dp.reads I e y u he ry
  exact SeqAt.compareNe_shaped r1 r2 sd se hu ⟨.bl _, H, I, rfl, q⟩
end
end L2
namespace L2
open PySem PySem.Spec PyProof.Rows
abbrev CellAt (h : Heap) (c : Addr) (v : Option Value) : Prop := h.IsCell c v
def relS (scope sc : Scope) : Scope :=
  { scope with names := scope.names.map fun (n, k) => if (k == .free && sc.kind == .function && sc.names.lookup n == some .cell) then (n, .cell) else (n, k) }
def cloFrom (cells : List (Str × Addr)) : List (Str × NameKind) → List (Str × Addr) → List (Str × Addr)
  | [], acc => acc
  | (n, k) :: r, acc => if k == .free then cloFrom cells r ((n, (cells.lookup n).getD 0) :: acc) else cloFrom cells r acc
theorem closure_loop (env : Env) (f : Str × NameKind → List (Str × Addr) → Sem (ForInStep (List (Str × Addr))))
    (hf : ∀ n k c, f (n, k) c = if k == .free then (do let a ← cellOf env n; pure (.yield ((n, a) :: c))) else pure (.yield c)) :
    ∀ (names : List (Str × NameKind)) (acc : List (Str × Addr)), (∀ y ∈ names, y.2 = .free → ∃ c, env.cells.lookup y.1 = some c) → forIn names acc f = pure (cloFrom env.cells names acc)
  | [], acc, _ => by rw [List.forIn_nil]; rfl
  | (n, k) :: r, acc, h => by
    rw [List.forIn_cons, hf]
    have ih := fun acc => closure_loop env f hf r acc fun y hy => h y (List.mem_cons_of_mem _ hy)
    unfold cloFrom
    by_cases hk : (k == NameKind.free) = true
    · rw [if_pos hk, if_pos hk]
      obtain ⟨c, hc⟩ := h (n, k) List.mem_cons_self (by simpa using hk)
      have e : cellOf env n = pure c := by unfold cellOf; rw [hc]
      rw [e]
      have e2 : (env.cells.lookup n).getD 0 = c := by rw [hc]; rfl
      rw [e2]
      exact ih _
    · rw [if_neg hk, if_neg hk]
      exact ih _
theorem closure_ok {scope : Scope} {env : Env} (h : ∀ y ∈ scope.names, y.2 = .free → ∃ c, env.cells.lookup y.1 = some c) : closureFor scope env = pure (cloFrom env.cells scope.names []) := by
  simp only [closureFor]
  rw [closure_loop env _ (fun n k c => rfl) scope.names [] h]
  rfl
theorem mem_lookup {α : Type} : ∀ {l : List (Str × α)} {n : Str} {c : α}, (n, c) ∈ l → ∃ c', l.lookup n = some c'
  | (k, v) :: r, n, c, h => by
    rw [List.lookup_cons]
    cases hb : n == k with
    | true => exact ⟨_, rfl⟩
    | false =>
      rcases List.mem_cons.mp h with e | h
      · cases e; simp at hb
      · exact mem_lookup h
theorem cloFrom_mem {cells : List (Str × Addr)} : ∀ {names : List (Str × NameKind)} {acc : List (Str × Addr)} {n : Str} {c : Addr}, (n, c) ∈ cloFrom cells names acc → (n, c) ∈ acc ∨ ((n, .free) ∈ names ∧ c = (cells.lookup n).getD 0)
  | [], _, _, _, h => .inl h
  | (m, k) :: r, acc, n, c, h => by
    unfold cloFrom at h
    split at h
    · rename_i hk
      have hk : k = .free := by simpa using hk
      rcases cloFrom_mem h with h | ⟨h1, h2⟩
      · rcases List.mem_cons.mp h with e | h
        · cases e; exact .inr ⟨hk ▸ List.mem_cons_self, rfl⟩
        · exact .inl h
      · exact .inr ⟨List.mem_cons_of_mem _ h1, h2⟩
    · rcases cloFrom_mem h with h | ⟨h1, h2⟩
      · exact .inl h
      · exact .inr ⟨List.mem_cons_of_mem _ h1, h2⟩
theorem cloFrom_acc {cells : List (Str × Addr)} : ∀ {names : List (Str × NameKind)} {acc : List (Str × Addr)} {p : Str × Addr}, p ∈ acc → p ∈ cloFrom cells names acc
  | [], _, _, h => h
  | (m, k) :: r, acc, p, h => by
    unfold cloFrom
    split
    · exact cloFrom_acc (List.mem_cons_of_mem _ h)
    · exact cloFrom_acc h
theorem cloFrom_has {cells : List (Str × Addr)} : ∀ {names : List (Str × NameKind)} {acc : List (Str × Addr)} {n : Str}, (n, .free) ∈ names → (n, (cells.lookup n).getD 0) ∈ cloFrom cells names acc
  | (m, k) :: r, acc, n, h => by
    unfold cloFrom
    rcases List.mem_cons.mp h with e | h
    · cases e
      exact cloFrom_acc List.mem_cons_self
    · split
      · exact cloFrom_has h
      · exact cloFrom_has h
theorem cells_mem : ∀ {names : List (Str × NameKind)} {h : Heap} {acc : List (Str × Addr)} {x : Str} {c : Addr}, (x, c) ∈ cellsFrom h.objs.size names acc →
    (x, c) ∈ acc ∨ ((x, .cell) ∈ names ∧ h.objs.size ≤ c ∧ CellAt (pushCells h names) c none)
  | [], _, _, _, _, h => .inl h
  | (n, k) :: r, h, acc, x, c, hm => by
    unfold cellsFrom at hm
    unfold pushCells
    split at hm
    · rename_i hk
      rw [if_pos hk]
      have hk : k = .cell := by simpa using hk
      rw [← Heap.size_push h { cls := .type "cell", data := .cell none }] at hm
      rcases cells_mem hm with hm | ⟨h1, h2, h3⟩
      · rcases List.mem_cons.mp hm with e | hm
        · cases e
          exact .inr ⟨hk ▸ List.mem_cons_self, Nat.le_refl _, _, pushCells_keeps r _ _ _ (Heap.get?_push_size _ rfl), rfl⟩
        · exact .inl hm
      · rw [Heap.size_push] at h2
        exact .inr ⟨List.mem_cons_of_mem _ h1, Nat.le_of_succ_le h2, h3⟩
    · rename_i hk
      rw [if_neg hk]
      rcases cells_mem hm with hm | ⟨h1, h2, h3⟩
      · exact .inl hm
      · exact .inr ⟨List.mem_cons_of_mem _ h1, h2, h3⟩
theorem cells_acc : ∀ {names : List (Str × NameKind)} {n : Nat} {acc : List (Str × Addr)} {p : Str × Addr}, p ∈ acc → p ∈ cellsFrom n names acc
  | [], _, _, _, h => h
  | (m, k) :: r, n, acc, p, h => by
    unfold cellsFrom
    split
    · exact cells_acc (List.mem_cons_of_mem _ h)
    · exact cells_acc h
theorem cells_has : ∀ {names : List (Str × NameKind)} {n : Nat} {acc : List (Str × Addr)} {x : Str}, (x, .cell) ∈ names → ∃ c, (x, c) ∈ cellsFrom n names acc
  | (m, k) :: r, n, acc, x, h => by
    unfold cellsFrom
    rcases List.mem_cons.mp h with e | h
    · cases e
      exact ⟨n, cells_acc List.mem_cons_self⟩
    · split
      · exact cells_has h
      · exact cells_has h
theorem cells_inj : ∀ {names : List (Str × NameKind)} {h : Heap} {acc : List (Str × Addr)} {x y : Str} {c : Addr}, (∀ p ∈ acc, p.2 < h.objs.size) → (∀ x y c, (x, c) ∈ acc → (y, c) ∈ acc → x = y) →
    (x, c) ∈ cellsFrom h.objs.size names acc → (y, c) ∈ cellsFrom h.objs.size names acc → x = y
  | [], _, _, _, _, _, _, hi, h1, h2 => hi _ _ _ h1 h2
  | (n, k) :: r, h, acc, x, y, c, hl, hi, h1, h2 => by
    unfold cellsFrom at h1 h2
    split at h1
    · rename_i hk
      rw [if_pos hk] at h2
      rw [← Heap.size_push h { cls := .type "cell", data := .cell none }] at h1 h2
      refine cells_inj (h := h.push _) (fun p hp => ?_) (fun x y c a b => ?_) h1 h2
      · rw [Heap.size_push]
        rcases List.mem_cons.mp hp with rfl | hp
        · exact Nat.lt_succ_self _
        · exact Nat.lt_succ_of_lt (hl p hp)
      · rcases List.mem_cons.mp a with e | a <;> rcases List.mem_cons.mp b with e' | b
        · cases e; cases e'; rfl
        · cases e; exact absurd (hl _ b) (Nat.lt_irrefl _)
        · cases e'; exact absurd (hl _ a) (Nat.lt_irrefl _)
        · exact hi _ _ _ a b
    · rename_i hk
      rw [if_neg hk] at h2
      exact cells_inj hl hi h1 h2
theorem newEnv_comp {M : Model} {A : Around} {E : Value → Shared → Prop} {s : Shared} {scope : Scope} {globals : Addr} {closure : List (Str × Addr)} {qual : Str} {func : Option Addr} {code : Value} {around : Env} {builtins : Addr} {Q : Env → Shared → Prop}
    (h : Q (newEnv scope s.heap.objs.size globals (cellsFrom (s.heap.objs.size + 1) scope.names closure) qual func code (some around) builtins)
      { s with heap := pushCells (s.heap.push { cls := .type "dict", data := .dict #[] }) scope.names }) :
    wpAny M A (newFunctionEnv scope globals closure [] qual func code (some around) builtins) Q E s := by
  simp only [newFunctionEnv, Option.isSome_some, if_true]
  refine wpAny_bind (wpAny_alloc ?_)
  refine wpAny_bind (wpAny_layCells _ (fun n k c => rfl) scope.names closure _ _ ?_)
  rw [show ({ s with heap := s.heap.push { cls := .type "dict", data := .dict #[] } } : Shared).heap.objs.size = s.heap.objs.size + 1 from Heap.size_push ..]
  rw [List.forIn_nil]
  exact wpAny_bind (wpAny_pure (wpAny_pure h))
theorem lookup_relS {sc : Scope} : ∀ {names : List (Str × NameKind)} {x : Str} {k : NameKind},
    (names.map fun (n, k) => if (k == NameKind.free && sc.kind == .function && sc.names.lookup n == some .cell) then (n, NameKind.cell) else (n, k)).lookup x = some k →
    ∃ k', names.lookup x = some k' ∧ (k = k' ∨ (k' = .free ∧ k = .cell))
  | [], _, _, h => by simp at h
  | (n, k₀) :: r, x, k, h => by
    have ih := @lookup_relS sc r x k
    have h' : List.lookup x ((if (k₀ == NameKind.free && sc.kind == .function && sc.names.lookup n == some .cell) = true then (n, NameKind.cell) else (n, k₀)) :: (r.map _)) = some k := h
    cases hx : x == n with
    | true =>
      simp only [List.lookup_cons, hx]
      by_cases hc : (k₀ == NameKind.free && sc.kind == .function && sc.names.lookup n == some .cell) = true
      · rw [if_pos hc] at h'
        simp only [List.lookup_cons, hx] at h'
        cases h'
        simp only [Bool.and_eq_true, beq_iff_eq] at hc
        exact ⟨k₀, rfl, .inr ⟨hc.1.1, rfl⟩⟩
      · rw [if_neg hc] at h'
        simp only [List.lookup_cons, hx] at h'
        cases h'
        exact ⟨_, rfl, .inl rfl⟩
    | false =>
      simp only [List.lookup_cons, hx]
      by_cases hc : (k₀ == NameKind.free && sc.kind == .function && sc.names.lookup n == some .cell) = true
      · rw [if_pos hc] at h'
        simp only [List.lookup_cons, hx] at h'
        exact ih h'
      · rw [if_neg hc] at h'
        simp only [List.lookup_cons, hx] at h'
        exact ih h'
structure BlkOk (N : List Str) (sc scope : Scope) (own : List (Str × Nat)) : Prop where
  kind : scope.kind = .function
  uniq : ∀ y ∈ scope.names, scope.names.lookup y.1 = some y.2
  ix : ∀ p ∈ own, N[p.2]? = some p.1
  free : ∀ y ∈ scope.names, y.2 = .free → sc.names.lookup y.1 = some .cell ∨ sc.names.lookup y.1 = some .free
  own : ∀ y ∈ scope.names, y.2 = .local ∨ y.2 = .cell → y.1 ∈ own.map (·.1) ∨ y.1 ∉ N
def wipe (σ : St) : List Nat → St
  | [] => σ
  | v :: vs => (wipe σ vs).set v none
theorem wipe_length (σ : St) : ∀ vs : List Nat, (wipe σ vs).length = σ.length
  | [] => rfl
  | v :: vs => by unfold wipe; rw [List.length_set, wipe_length σ vs]
theorem wipe_some {σ : St} {i : Nat} {x : V} : ∀ {vs : List Nat}, (wipe σ vs)[i]? = some (some x) → σ[i]? = some (some x) ∧ i ∉ vs
  | [], h => ⟨h, by simp⟩
  | v :: vs, h => by
    unfold wipe at h
    by_cases hi : v = i
    · subst hi
      by_cases hv : v < (wipe σ vs).length
      · rw [List.getElem?_set_self hv] at h; cases h
      · rw [List.getElem?_eq_none (by simpa using hv)] at h; cases h
    · rw [List.getElem?_set_ne hi] at h
      obtain ⟨h1, h2⟩ := wipe_some h
      exact ⟨h1, by simp only [List.mem_cons, not_or]; exact ⟨fun e => hi e.symm, h2⟩⟩
abbrev Cx.blk (X : Cx) (s : Shared) (H : Hp) (scope : Scope) (cenv : Env) (fp : List Addr) : Cx := { X with s_0 := s, H_0 := H, env := cenv, outer := X.stack, ex := fp, fn := fun x => scope.names.lookup x == some .cell, pn := [], xe := fun _ _ => False }
section
variable {X : Cx} {pins : List (Addr × Obj)} {σ : St} {H : Hp} {s : Shared}
theorem block_start {scope : Scope} {own : List (Str × Nat)} {fp : List Addr} (I : Inv X pins σ H s) (ok : BlkOk X.N X.env.scope scope own) (hN : X.N.Nodup) (hfp : ∀ b ∈ fp, FpOk X pins H b ∧ b < s.heap.objs.size) :
    Inv (X.blk s H scope (compEnvC scope (cellsFrom (s.heap.objs.size + 1) scope.names (cloFrom X.env.cells scope.names [])) s.heap.objs.size X.env) fp) [] (wipe σ (own.map (·.2))) H { s with heap := pushCells (s.heap.push { cls := .type "dict", data := .dict #[] }) scope.names } := by
  have hfree : ∀ y ∈ scope.names, y.2 = .free → ∃ c, X.env.cells.lookup y.1 = some c := fun y hy e => by
    rcases ok.free y hy e with k | k
    · exact I.ok.has _ (.inl k)
    · exact I.ok.has _ (.inr k)
  generalize hcenv : compEnvC scope (cellsFrom (s.heap.objs.size + 1) scope.names (cloFrom X.env.cells scope.names [])) s.heap.objs.size X.env = cenv
  have kp : ∀ b o, s.heap.get? b = some o → (pushCells (s.heap.push { cls := .type "dict", data := .dict #[] }) scope.names).get? b = some o := fun b o e => pushCells_keeps _ _ _ _ (Heap.get?_push_of_some _ e)
  have hL : cenv.locals = s.heap.objs.size := by rw [← hcenv]; rfl
  have hcl : cenv.cells = cellsFrom (s.heap.objs.size + 1) scope.names (cloFrom X.env.cells scope.names []) := by rw [← hcenv]; rfl
  have hsc : cenv.scope = relS scope X.env.scope := by rw [← hcenv]; rfl
  rw [← Heap.size_push s.heap { cls := .type "dict", data := .dict #[] }] at hcl
  have cm : ∀ {y c}, (y, c) ∈ cloFrom X.env.cells scope.names [] → X.env.cells.lookup y = some c ∧ c < s.heap.objs.size := fun {y c} hm => by
    rcases cloFrom_mem hm with hm | ⟨h1, rfl⟩
    · cases hm
    · obtain ⟨c, hc⟩ := hfree _ h1 rfl
      rw [hc]
      obtain ⟨w, z⟩ := I.cell _ _ hc
      exact ⟨rfl, z.lt⟩
  have mem : ∀ {y c}, cenv.cells.lookup y = some c → (X.env.cells.lookup y = some c ∧ c < s.heap.objs.size) ∨ (s.heap.objs.size + 1 ≤ c ∧ CellAt (pushCells (s.heap.push { cls := .type "dict", data := .dict #[] }) scope.names) c none) := fun {y c} e => by
    rw [hcl] at e
    rcases cells_mem (PySem.mem_of_lookup e) with hm | ⟨_, h2, h3⟩
    · exact .inl (cm hm)
    · rw [Heap.size_push] at h2; exact .inr ⟨h2, h3⟩
  have look : ∀ {y}, scope.names.lookup y = some .free → ∃ c, cenv.cells.lookup y = some c ∧ X.env.cells.lookup y = some c := fun {y} hl => by
    have hy : (y, NameKind.free) ∈ scope.names := PySem.mem_of_lookup hl
    obtain ⟨c', e'⟩ := mem_lookup (cells_acc (names := scope.names) (n := (s.heap.push { cls := .type "dict", data := .dict #[] }).objs.size) (cloFrom_has (cells := X.env.cells) (acc := []) hy))
    rw [← hcl] at e'
    refine ⟨c', e', ?_⟩
    rw [hcl] at e'
    rcases cells_mem (PySem.mem_of_lookup e') with hm | ⟨h1, _, _⟩
    · exact (cm hm).1
    · have := ok.uniq _ h1
      rw [hl] at this; cases this
  have okB : (X.blk s H scope cenv fp).Ok := by
    refine ⟨I.ok.mod, by show cenv.scope.kind = _; rw [hsc]; exact ok.kind, by show cenv.globals = _; rw [← hcenv]; exact I.ok.glob, by show cenv.builtins = _; rw [← hcenv]; exact I.ok.blt, by show s.heap.objs.size ≤ cenv.locals; rw [hL]; exact Nat.le_refl _,
      fun y z c e1 e2 => ?_, fun y hy => ?_, fun y c z e => ?_, I.ok.hd, I.ok.frames, .inl rfl, fun b hb => ⟨?_, fun y c e z => ?_⟩, I.bs, Nat.le_trans I.ok.bsz I.sz, fun b o e hb => ?_, fun b hb z => ?_, I.stack, I.stkFree⟩
    · have e1 : cenv.cells.lookup y = some c := e1
      have e2 : cenv.cells.lookup z = some c := e2
      rw [hcl] at e1 e2
      refine cells_inj (fun p hp => ?_) (fun y z c a b => I.ok.inj y z c (cm a).1 (cm b).1) (PySem.mem_of_lookup e1) (PySem.mem_of_lookup e2)
      rw [Heap.size_push]
      exact Nat.lt_succ_of_lt (cm (y := p.1) (c := p.2) hp).2
    · show ∃ c, cenv.cells.lookup y = some c
      have key : ∀ k, cenv.kindOf y = some k → (k = .cell ∨ k = .free) → ∃ c, cenv.cells.lookup y = some c := fun k hk hk' => by
        unfold Env.kindOf at hk
        rw [hsc] at hk
        obtain ⟨k', e, r⟩ := lookup_relS hk
        have : k' = .cell ∨ k' = .free := by
          rcases r with rfl | ⟨rfl, _⟩
          · exact hk'
          · exact .inr rfl
        rcases this with rfl | rfl
        · obtain ⟨c, hm⟩ := cells_has (n := (s.heap.push { cls := .type "dict", data := .dict #[] }).objs.size) (acc := cloFrom X.env.cells scope.names []) (PySem.mem_of_lookup e)
          obtain ⟨c', e'⟩ := mem_lookup hm
          exact ⟨c', by rw [hcl]; exact e'⟩
        · obtain ⟨c, h1, _⟩ := look e
          exact ⟨c, h1⟩
      rcases hy with hy | hy
      · exact key _ hy (.inl rfl)
      · exact key _ hy (.inr rfl)
    · have z : (scope.names.lookup y == some NameKind.cell) = true := z
      have z : scope.names.lookup y = some .cell := by simpa using z
      have e : cenv.cells.lookup y = some c := e
      rw [hcl] at e
      rcases cells_mem (PySem.mem_of_lookup e) with hm | ⟨_, h2, _⟩
      · rcases cloFrom_mem hm with hm | ⟨h1, _⟩
        · cases hm
        · have q := ok.uniq _ h1
          rw [z] at q; cases q
      · rw [Heap.size_push] at h2
        exact Nat.le_of_succ_le h2
    · show b ≠ cenv.locals
      rw [hL]; exact Nat.ne_of_lt (hfp b hb).2
    · have e : cenv.cells.lookup y = some c := e
      rcases mem e with ⟨h1, _⟩ | ⟨h1, _⟩
      · exact (hfp b hb).1.2.2.2.2.1 y c h1 z
      · have h2 : s.heap.objs.size + 1 ≤ b := by rw [← z]; exact h1
        exact absurd (Nat.lt_of_lt_of_le (hfp b hb).2 (Nat.le_of_succ_le h2)) (Nat.lt_irrefl _)
    · rcases (hfp b hb).1.2.2.2.1 with z | z
      · exact I.ok.noex b o e z
      · exact absurd (Nat.lt_of_lt_of_le (Heap.lt_size e) (Nat.le_trans I.ok.bsz z)) (Nat.lt_irrefl _)
    · rcases List.mem_cons.mp (I.stkSub b z) with z | z
      · exact (hfp b hb).1.2.1 z
      · exact (hfp b hb).1.2.2.1 z
  refine ⟨okB, rfl, I.bare, Un.kept kp, ⟨fun _ => none, ?_, fun i y av e1 e2 e3 => ?_⟩, fun y c e => ?_, ?_, fun y c e => ?_, fun p hp => ?_, I.hok.kept kp, by rw [wipe_length]; exact I.len⟩
  · show Heap.Ns _ cenv.locals _
    rw [hL]
    exact Heap.Ns.keeps (Heap.Ns.new ..) fun b o e => pushCells_keeps _ _ _ _ e
  · obtain ⟨e2, hne⟩ := wipe_some e2
    have hfr : scope.names.lookup y = some .free ∧ (cenv.kindOf y = some .cell ∨ cenv.kindOf y = some .free) := by
      have key : ∀ k, cenv.scope.names.lookup y = some k → k = .local ∨ k = .cell ∨ k = .free → scope.names.lookup y = some .free ∧ (cenv.kindOf y = some .cell ∨ cenv.kindOf y = some .free) := fun k hk hk' => by
        have hk0 := hk
        rw [hsc] at hk
        obtain ⟨k', e, r⟩ := lookup_relS hk
        have no : ¬ (k' = .local ∨ k' = .cell) := fun hh => by
          rcases ok.own _ (PySem.mem_of_lookup e) hh with e' | e'
          · obtain ⟨p, hp, hpy⟩ := List.mem_map.mp e'
            have e3 := ok.ix p hp
            have : p.1 = y := hpy
            rw [this] at e3
            exact hne (List.mem_map.mpr ⟨p, hp, nodup_ix hN e3 e1⟩)
          · exact e' (List.mem_of_getElem? e1)
        rcases r with rfl | ⟨rfl, rfl⟩
        · rcases hk' with rfl | rfl | rfl
          · exact absurd (.inl rfl) no
          · exact absurd (.inr rfl) no
          · exact ⟨e, .inr hk0⟩
        · exact ⟨e, .inl hk0⟩
      have e3 : Vis cenv.scope y := e3
      rcases e3 with e3 | e3 | e3
      · exact key _ e3 (.inl rfl)
      · exact key _ e3 (.inr (.inl rfl))
      · exact key _ e3 (.inr (.inr rfl))
    obtain ⟨m, hn, hl⟩ := I.loc
    have hvis : Vis X.env.scope y := (ok.free _ (PySem.mem_of_lookup hfr.1) rfl).elim (fun k => .inr (.inl k)) (fun k => .inr (.inr k))
    obtain ⟨w, r, q⟩ := hl i y av e1 e2 hvis
    refine ⟨w, r, .inr ⟨hfr.2, ?_⟩⟩
    obtain ⟨c, h1, h2⟩ := look hfr.1
    rcases q with ⟨k, _⟩ | ⟨_, c', e', z⟩
    · have k : X.env.scope.names.lookup y = some .local := k
      rcases ok.free _ (PySem.mem_of_lookup hfr.1) rfl with k' | k' <;> rw [show X.env.scope.names.lookup y = _ from k'] at k <;> cases k
    · rw [h2] at e'; cases e'
      exact ⟨c, h1, z.keeps kp⟩
  · have e : cenv.cells.lookup y = some c := e
    rcases mem e with ⟨h1, _⟩ | ⟨_, z⟩
    · obtain ⟨w, z⟩ := I.cell y c h1
      exact ⟨w, z.keeps kp⟩
    · exact ⟨_, z⟩
  · show H cenv.locals = none
    rw [hL]; exact I.hok.fresh (Nat.le_refl _)
  · have e : cenv.cells.lookup y = some c := e
    rcases mem e with ⟨h1, _⟩ | ⟨h1, _⟩
    · exact I.freeC y c h1
    · exact I.hok.fresh (Nat.le_of_succ_le h1)
  · exact absurd (show p ∈ ([] : List (Addr × Obj)) ++ [] from hp) (by simp)
theorem app_ok {E : Value → Shared → Prop} {D : Addr} {xs : List V} {y : V} {v : Value} {Q : Value → Shared → Prop} (I : Inv X pins σ H s) (hD : H D = some (.lst xs)) (hz : xs.length < sizeLine) (r : RelV y v)
    (h : ∀ s', Inv X pins σ (upd H D (.lst (xs ++ [y]))) s' → Q .none s') : wpAny (model X.prog X.w) X.A (call (.builtin "list.append") [.ref D, v]) Q E s := by
  obtain ⟨hz', its, n, ri, e⟩ := I.hok D _ hD
  have hl := ri.length
  refine append_at (hsz := by rw [List.size_toArray]; omega) e fun h' sb ho' => ?_
  refine h { s with heap := h' } (I.write (t' := s.toks) (by rw [hD]; trivial) (.inl rfl) (fun b u hb q => (sb.2 b hb).trans q) ⟨_, ho'⟩ ⟨by rw [List.length_append]; exact hz, its ++ [v], n + 1, ri.append (.cons r .nil), ?_⟩)
  rw [ho']
  simp
def PTs (X : Cx) (ifs : List Expr) (t : TT) : Prop :=
  ∀ (pins : List (Addr × Obj)) (s : Shared) (σ : St) (H : Hp) (Q : Bool → Hp → Prop), Inv X pins σ H s → t σ H Q →
    wpAny (model X.prog X.w) X.A (forIn ifs true fun c r => if r = true then do let ok ← isTrue c X.env (eval c X.env); pure (ForInStep.yield ok) else pure (ForInStep.yield r)) (TP X pins σ Q) X.xe s
def tYes : TT := fun _ H Q => Q true H
theorem pts_nil : PTs X [] tYes := fun _ _ _ H _ I h => wpAny_tests_nil ⟨H, I, h⟩
theorem pts_one {c : Expr} {t : TT} (h : PT X c t) : PTs X [c] t := fun pins s σ H Q I hw => wpAny_tests_one (h pins s σ H Q I hw)
end
theorem thnF {α : Type} {t : Sem α} {Q Q' : α → Shared → Prop} {M : Model} {A : Around} {E : Value → Shared → Prop} {s : Shared} (h : wpAny M A t Q (fun _ _ => False) s) (hQ : ∀ a s, Q a s → Q' a s) : wpAny M A t Q' E s := wpAny_mono h hQ fun _ _ z => False.elim z
theorem compLoop_any {prog : Program} {w : World} {A : Around} {R : Result → Shared → Prop} {s : Shared} {elt target iter : Expr} {ifs : List Expr} {scope : Scope} {pos : Pos} {it acc : Value} {env : Env} (I : Nat → Shared → Prop)
    (turn : ∀ n s, I n s → wpAny (model prog w) A (pyNext it) (fun r s₁ => match r with
      | none => R (.ok .next) s₁
      | some v => wpAny (model prog w) A (letOwnedTupleGo target it v) (fun _ s₁' => wpAny (model prog w) A (assign target env v) (fun _ s₂ =>
          wpAny (model prog w) A (forIn ifs true fun c r => if r = true then do let ok ← isTrue c env (eval c env); pure (ForInStep.yield ok) else pure (ForInStep.yield r)) (fun ok s₃ =>
            if ok = true then wpAny (model prog w) A (eval elt env) (fun x s₄ =>
              wpAny (model prog w) A (call (.builtin "list.append") [acc, x]) (fun _ s₅ => ∃ m, m < n ∧ I m s₅) (notedBy (model prog w) A env fun e s' => R (.error e) s') s₄) (notedBy (model prog w) A env fun e s' => R (.error e) s') s₃
            else ∃ m, m < n ∧ I m s₃) (notedBy (model prog w) A env fun e s' => R (.error e) s') s₂) (notedBy (model prog w) A env fun e s' => R (.error e) s') s₁') (notedBy (model prog w) A env fun e s' => R (.error e) s') s₁) (notedBy (model prog w) A env fun e s' => R (.error e) s') s)
    (n : Nat) (h : I n s) :
    codeAny (model prog w) A (.compLoop (.ListComp elt [⟨target, iter, ifs, 0⟩] scope pos) 0 it acc env) R s := by
  refine codeAny_loop rfl I (fun n s hI => ?_) n h
  show wpAny _ A ((compTurn (.ListComp elt [⟨target, iter, ifs, 0⟩] scope pos) 0 it acc env).onRaise (fun x => do noteFrame x env; theTreesLotGoes x)) _ _ s
  refine wpAny_noted ?_
  rw [compTurn_list]
  refine wpAny_bind (wpAny_standAt (wpAny_bind (wpAny_mono (turn n s hI) (fun r s₁ h₁ => ?_) fun _ _ h' => h')))
  cases r with
  | none => exact wpAny_pure h₁
  | some v =>
    refine wpAny_bind (wpAny_mono h₁ (fun _ s₁' h₁' => ?_) fun _ _ h' => h')
    refine wpAny_bind (wpAny_mono h₁' (fun _ s₂ h₂ => wpAny_bind (wpAny_mono h₂ (fun ok s₃ h₃ => ?_) fun _ _ h' => h')) fun _ _ h' => h')
    cases ok with
    | false => exact wpAny_pure ⟨rfl, h₃⟩
    | true =>
      exact wpAny_bind (wpAny_bind (wpAny_mono h₃ (fun x s₄ h₄ => wpAny_bind (wpAny_mono h₄ (fun _ s₅ h₅ => wpAny_pure (wpAny_pure ⟨rfl, h₅⟩)) fun _ _ h' => h')) fun _ _ h' => h'))
section
variable {X : Cx}
def tLc (wi : TI) (g : TG) (tt : TT) (te : TE) (vs : List Nat) : TE := fun σ H Q => wi σ H fun J H1 => ∀ D, H1 D = none → ∃ W : Nat → Nat → Hp → Prop, (∃ m, W 0 m (upd H1 D (.lst []))) ∧ ∀ i m H, W i m H →
  (J.stop i H ∧ Q (.ref D) H) ∨ (J.go i H ∧ ∃ Nx : Hp → Prop, (∀ H', Nx H' → ∃ m', m' < m ∧ W (i + 1) m' H') ∧ ∀ x H', J.yld i H x H' → g x (wipe σ vs) H' fun σ2 H2 => wipe σ2 vs = wipe σ vs ∧ tt σ2 H2 fun b H3 =>
    if b = true then te σ2 H3 fun y H4 => ∃ acc, H4 D = some (.lst acc) ∧ acc.length < sizeLine ∧ Nx (upd H4 D (.lst (acc ++ [y]))) else Nx H3)
theorem lc_core {pins : List (Addr × Obj)} {s : Shared} {σ : St} {H : Hp} {Q : VK} {elt tg iter : Expr} {ifs : List Expr} {scope : Scope} {own : List (Str × Nat)} {pos pos' : Pos} {wi : TI} {g : TG} {tt : TT} {te : TE} {use : Option (Value → Sem Unit)} {Qf : Value → Shared → Prop}
    (hc : X.calm = true) (hN : X.N.Nodup) (I : Inv X pins σ H s) (hi : PI X tg iter wi) (ok : BlkOk X.N X.env.scope scope own)
    (hg : ∀ (s : Shared) (H : Hp) (C : Addr) (cl : List (Str × Addr)) (fp : List Addr), PG (X.blk s H scope (compEnvC scope cl C X.env) fp) tg g) (ht : ∀ (s : Shared) (H : Hp) (C : Addr) (cl : List (Str × Addr)) (fp : List Addr), PTs (X.blk s H scope (compEnvC scope cl C X.env) fp) ifs tt)
    (he : ∀ (s : Shared) (H : Hp) (C : Addr) (cl : List (Str × Addr)) (fp : List Addr), PE (X.blk s H scope (compEnvC scope cl C X.env) fp) elt te) (hs : ∀ x, foldedSetIterable iter X.env x = pure x)
    (h : tLc wi g tt te (own.map (·.2)) σ H Q)
    (hRR : ∀ D C s' m H', Inv X pins σ H' s' → Q (.ref D) H' → s'.heap.Ns C m → FpOk X pins H' C → compPost (model X.prog X.w) X.A X.xe use Qf (.ref D) C (.ok .next) s') :
    wpAny (model X.prog X.w) X.A (comprehension (.ListComp elt [⟨tg, iter, ifs, 0⟩] scope pos) scope X.env pos' (newList []) false (eval iter X.env) use) Qf X.xe s := by
  have hfree : ∀ y ∈ scope.names, y.2 = .free → ∃ c, X.env.cells.lookup y.1 = some c := fun y hy e => by
    rcases ok.free y hy e with k | k
    · exact I.ok.has _ (.inl k)
    · exact I.ok.has _ (.inr k)
  refine wpAny_comprehension_free (use := use) rfl hs (closure_ok hfree) ok.kind (fun y hy e => by rw [ok.uniq y hy, e])
    (thn (hi pins s σ H _ I h) fun xv s1 hx => thn hx fun itv s2 h2 => ?_)
  obtain ⟨it, fp, tn, J, H2, e, I2, T, st2, f2, q⟩ := h2
  subst e
  refine wpAny_newObj_type (newEnv_comp ?_) (by show 0 ≤ sizeLine; decide)
  generalize hD : s2.heap.objs.size = D
  have hDn : H2 D = none := I2.hok.fresh (Nat.le_of_eq hD)
  obtain ⟨W, ⟨m0, w0⟩, turn⟩ := q D hDn
  generalize hs3 : ({ s2 with heap := s2.heap.push { cls := .type "list", data := .seq ([] : List Value).toArray } } : Shared) = s3
  have I3 : Inv X pins σ (upd H2 D (.lst [])) s3 := by
    rw [← hs3]
    refine I2.laid (t' := s2.toks) (fun b o e => Heap.get?_push_of_some _ e) (Nat.le_of_eq hD) ⟨Nat.zero_le _, [], 0, .nil, ?_⟩
    rw [← hD]
    exact Heap.get?_push_size _ rfl
  have h3 : s3.heap = s2.heap.push { cls := .type "list", data := .seq ([] : List Value).toArray } := by rw [← hs3]
  have sz : ∀ b ∈ fp, b < s2.heap.objs.size := fun b hb => by
    obtain ⟨o, e, _⟩ := T.obj _ _ st2 b hb
    exact Heap.lt_size e
  have f3 : ∀ b ∈ fp, FpOk X pins (upd H2 D (.lst [])) b ∧ b < s3.heap.objs.size := fun b hb => by
    have hlt := sz b hb
    refine ⟨⟨?_, (f2 b hb).2⟩, by rw [h3, Heap.size_push]; exact Nat.lt_succ_of_lt hlt⟩
    rw [upd_ne (by rw [← hD]; exact Nat.ne_of_lt hlt)]
    exact (f2 b hb).1
  have st3 : tn 0 s3.heap := T.keep _ _ _ st2 fun b _ o e => by rw [h3]; exact Heap.get?_push_of_some _ e
  have I4 := block_start I3 ok hN f3
  have pg := hg s3 (upd H2 D (.lst [])) s3.heap.objs.size (cellsFrom (s3.heap.objs.size + 1) scope.names (cloFrom X.env.cells scope.names [])) fp
  have pt := ht s3 (upd H2 D (.lst [])) s3.heap.objs.size (cellsFrom (s3.heap.objs.size + 1) scope.names (cloFrom X.env.cells scope.names [])) fp
  have pe := he s3 (upd H2 D (.lst [])) s3.heap.objs.size (cellsFrom (s3.heap.objs.size + 1) scope.names (cloFrom X.env.cells scope.names [])) fp
  show codeAny _ _ (.compStart (.ListComp elt [⟨tg, iter, ifs, 0⟩] scope pos) 0 (.ref it) (.ref D) (compEnvC scope (cellsFrom (s3.heap.objs.size + 1) scope.names (cloFrom X.env.cells scope.names [])) s3.heap.objs.size X.env)) (compPost (model X.prog X.w) X.A X.xe use Qf (.ref D) s3.heap.objs.size) { s3 with heap := pushCells (s3.heap.push { cls := .type "dict", data := .dict #[] }) scope.names }
  have nfp : ∀ b ∈ fp, (upd H2 D (.lst [])) b = none := fun b hb => (f3 b hb).1.1
  generalize hce : compEnvC scope (cellsFrom (s3.heap.objs.size + 1) scope.names (cloFrom X.env.cells scope.names [])) s3.heap.objs.size X.env = ce at I4 pg pt pe ⊢
  have cL : ce.locals = s3.heap.objs.size := by subst hce; rfl
  generalize hH3 : upd H2 D (.lst []) = H3 at I3 I4 pg pt pe w0 nfp f3
  generalize hs4 : ({ s3 with heap := pushCells (s3.heap.push { cls := .type "dict", data := .dict #[] }) scope.names } : Shared) = s4 at I4 ⊢
  have st4 : tn 0 s4.heap := T.keep _ _ _ st3 fun b _ o e => by rw [← hs4]; exact pushCells_keeps _ _ _ _ (Heap.get?_push_of_some _ e)
  have stat : ∀ {σ' : St} {H' : Hp} {s' : Shared}, Inv (X.blk s3 H3 scope ce fp) [] σ' H' s' → (∀ b ∈ fp, H' b = none) → ∀ b ∈ fp, FpOk (X.blk s3 H3 scope ce fp) [] H' b := fun {σ' H' s'} I' hn b hb =>
    ⟨hn b hb, (I'.ok.exf b hb).1, I'.ok.exfs b hb, .inl hb, fun x c e => (I'.ok.exf b hb).2 x c e, fun p hp => absurd (show p ∈ ([] : List (Addr × Obj)) ++ [] from hp) (by simp)⟩
  have loop : codeAny (model X.prog X.w) X.A (.compLoop (.ListComp elt [⟨tg, iter, ifs, 0⟩] scope pos) 0 (.ref it) (.ref D) ce) (compPost (model X.prog X.w) X.A X.xe use Qf (.ref D) s3.heap.objs.size) s4 := by
    refine compLoop_any (fun n s' => ∃ i H', Inv (X.blk s3 H3 scope ce fp) [] (wipe σ (own.map (·.2))) H' s' ∧ tn i s'.heap ∧ (∀ b ∈ fp, H' b = none) ∧ W i n H') ?_ m0 ⟨0, H3, I4, st4, nfp, w0⟩
    rintro n s5 ⟨i, H5, I5, st5, n5, w5⟩
    rcases turn i n H5 w5 with ⟨stop, qq⟩ | ⟨go, Nx, hNx, step⟩
    · have td := T.done (X.blk s3 H3 scope ce fp) rfl rfl rfl hc i [] s5 _ H5 (fun _ _ => False) I5 (stat I5 n5) st5 stop
      refine thnF td fun r s6 ⟨hr, I6⟩ => ?_
      subst hr
      have I7 : Inv X pins σ H5 s6 := I3.call' (ch := fp) I6.os I6.base I6.hok I6.bare fun b hb => ⟨(f3 b hb).1.2.2.2.1, (f3 b hb).1.2.1, (f3 b hb).1.2.2.2.2.1, (f3 b hb).1.2.2.2.2.2⟩
      have nC : H5 s3.heap.objs.size = none := by
        have z : H5 ce.locals = none := I6.free
        rw [cL] at z
        exact z
      obtain ⟨m, hn, _⟩ := I6.loc
      have hn : s6.heap.Ns ce.locals m := hn
      rw [cL] at hn
      exact hRR D s3.heap.objs.size s6 m H5 I7 qq hn (I3.fpOk (Nat.le_refl _) nC)
    · have ti := T.item (X.blk s3 H3 scope ce fp) rfl rfl rfl hc i [] s5 _ H5 (fun _ _ => False) I5 (stat I5 n5) st5 go
      refine thnF ti fun r s6 ⟨u, hr, h6⟩ => ?_
      subst hr
      refine thnF h6 fun _ s7 ⟨x, H7, I7, r7, y7, st7, n7⟩ => ?_
      have I7' := I7.pinned (stat I7 n7) (T.obj _ _ st7)
      refine thnF (pg _ s7 _ H7 x u _ I7' r7 (step x H7 y7)) fun _ s8 ⟨σ8, H8, I8, hw8, q8⟩ => ?_
      refine thnF (pt _ s8 σ8 H8 _ I8 q8) fun b s9 ⟨H9, I9, q9⟩ => ?_
      have fin : ∀ {s' : Shared} {H' : Hp}, Inv (X.blk s3 H3 scope ce fp) ([] ++ pinsAt fp s7.heap) σ8 H' s' → Nx H' → ∃ m, m < n ∧ ∃ i H', Inv (X.blk s3 H3 scope ce fp) [] (wipe σ (own.map (·.2))) H' s' ∧ tn i s'.heap ∧ (∀ b ∈ fp, H' b = none) ∧ W i m H' := fun {s' H'} I' nx => by
        obtain ⟨m', hm, w'⟩ := hNx H' nx
        have pin' : ∀ b ∈ fp, ∀ o, s7.heap.get? b = some o → s'.heap.get? b = some o ∧ H' b = none := fun b hb o e =>
          let z := I'.pin (b, o) (List.mem_append_right _ (List.mem_append_right _ (mem_pinsAt hb e)))
          ⟨z.1, z.2.1⟩
        have hl : (wipe σ (own.map (·.2))).length = σ8.length := by rw [← hw8, wipe_length]
        refine ⟨m', hm, i + 1, H', (I'.unpinned (pins := [])).weak hl (fun j v e => ?_), T.keep _ _ _ st7 fun b hb o e => (pin' b hb o e).1, fun b hb => ?_, w'⟩
        · rw [← hw8] at e
          exact (wipe_some e).1
        · obtain ⟨o, e, _⟩ := T.obj _ _ st7 b hb
          exact (pin' b hb o e).2
      cases b with
      | false =>
        simp only [Bool.false_eq_true, if_false] at q9 ⊢
        exact fin I9 q9
      | true =>
        simp only [if_true] at q9 ⊢
        refine thnF (pe _ s9 σ8 H9 _ I9 q9) fun z s10 ⟨yv, H10, I10, r10, acc, hD10, hz10, nx⟩ => ?_
        exact app_ok (X := X.blk s3 H3 scope ce fp) I10 hD10 hz10 r10 fun s11 I11 => fin I11 nx
  exact codeAny_compStart_list loop (T.self X.A 0 _ _ _ st4 loop)
theorem pe_lc {elt tg iter : Expr} {ifs : List Expr} {scope : Scope} {own : List (Str × Nat)} {pos : Pos} {wi : TI} {g : TG} {tt : TT} {te : TE} (hc : X.calm = true) (hN : X.N.Nodup) (hi : PI X tg iter wi) (ok : BlkOk X.N X.env.scope scope own)
    (hg : ∀ (s : Shared) (H : Hp) (C : Addr) (cl : List (Str × Addr)) (fp : List Addr), PG (X.blk s H scope (compEnvC scope cl C X.env) fp) tg g) (ht : ∀ (s : Shared) (H : Hp) (C : Addr) (cl : List (Str × Addr)) (fp : List Addr), PTs (X.blk s H scope (compEnvC scope cl C X.env) fp) ifs tt)
    (he : ∀ (s : Shared) (H : Hp) (C : Addr) (cl : List (Str × Addr)) (fp : List Addr), PE (X.blk s H scope (compEnvC scope cl C X.env) fp) elt te) (hs : ∀ x, foldedSetIterable iter X.env x = pure x := by intro _; rfl) :
    PE X (.ListComp elt [⟨tg, iter, ifs, 0⟩] scope pos) (tLc wi g tt te (own.map (·.2))) := by
  intro pins s σ H Q I h
  rw [eval_ListComp]
  refine lc_core hc hN I hi ok hg ht he hs h fun D C s' m H' I' q hn f => ⟨m, hn, fun h'' sb => ?_⟩
  obtain ⟨f0, f1, f2, f3, f4, f5⟩ := f
  exact ⟨.ref D, H', I'.turned (t' := s'.toks) (fun b o hb e => (sb.2 b hb).trans e) f0 f1 f3 f4 f5, rfl, q⟩
theorem ps_setLc {i : Nat} {y : Str} {py : Pos} {elt tg iter : Expr} {ifs : List Expr} {scope : Scope} {own : List (Str × Nat)} {pos spos : Pos} {wi : TI} {g : TG} {tt : TT} {te : TE} (hc : X.calm = true) (hN : X.N.Nodup) (hy : X.N[i]? = some y) (hyl : X.env.scope.names.lookup y = some .local)
    (hsw : swapsWith (.ListComp elt [⟨tg, iter, ifs, 0⟩] scope pos) (some (.Name y py)) spos.line X.env = pure true) (hi : PI X tg iter wi) (ok : BlkOk X.N X.env.scope scope own)
    (hg : ∀ (s : Shared) (H : Hp) (C : Addr) (cl : List (Str × Addr)) (fp : List Addr), PG (X.blk s H scope (compEnvC scope cl C X.env) fp) tg g) (ht : ∀ (s : Shared) (H : Hp) (C : Addr) (cl : List (Str × Addr)) (fp : List Addr), PTs (X.blk s H scope (compEnvC scope cl C X.env) fp) ifs tt)
    (he : ∀ (s : Shared) (H : Hp) (C : Addr) (cl : List (Str × Addr)) (fp : List Addr), PE (X.blk s H scope (compEnvC scope cl C X.env) fp) elt te) (hs : ∀ x, foldedSetIterable iter X.env x = pure x := by intro _; rfl) :
    PS X (.Assign [.Name y py] (.ListComp elt [⟨tg, iter, ifs, 0⟩] scope pos) spos) (tAsg (tLc wi g tt te (own.map (·.2))) (gName i)) := by
  intro pins s σ H D I h
  rw [exec_Assign_Name_used _ _ _ _ hsw]
  refine wpAny_bind (wpAny_standAt (wpAny_bind ?_))
  show wpAny _ X.A (do let _ ← comprehension (.ListComp elt [⟨tg, iter, ifs, 0⟩] scope pos) scope X.env (firstIterPos [⟨tg, iter, ifs, 0⟩] pos) (newList []) false (eval iter X.env) (some (assign (.Name y py) X.env))) _ _ s
  have h : tLc wi g tt te (own.map (·.2)) σ H (fun x H1 => gName i x σ H1 D.nx) := h
  refine wpAny_bind (thn (lc_core (Qf := fun _ s' => SP X pins D .next s') hc hN I hi ok hg ht he hs h fun L C s' m H' I' q hn f => ?_) fun _ s' hq => wpAny_pure (wpAny_pure hq))
  show wpAny _ _ (assign (.Name y py) X.env (.ref L)) _ _ _
  refine wpAny_assign_Name (store_ok2 (v := V.ref L) I' hN hy (.inl hyl) rfl (fun s2 I2 ⟨a, sb, ha⟩ => ?_) (.inr hyl))
  obtain ⟨f0, f1, f2, f3, f4, f5⟩ := f
  have haC : C ≠ a := by
    rcases ha with z | z
    · rw [z]; exact f1
    · exact fun e => f4 y a z e.symm
  refine ⟨m, hn.sameBut sb haC, fun h3 sb3 => ?_⟩
  exact ⟨_, H', I2.turned (t' := s2.toks) (fun b o hb e => (sb3.2 b hb).trans e) f0 f1 f3 f4 f5, q⟩
theorem sw_true {elt : Expr} {gs : List Comprehension} {scope : Scope} {pos py : Pos} {y : Str} {l : Nat} {env : Env} (hk : env.scope.kind = .function) (hy : env.scope.names.lookup y = some .local) (hl : (py.line == pos.line) = true)
    (ha : (scope.names.any fun (n, k) => n == y && (k == .local || k == .cell)) = false) : swapsWith (.ListComp elt gs scope pos) (some (.Name y py)) l env = pure true := by
  have ky : env.kindOf y = some .local := hy
  have hb : env.blockKind = .function := by unfold Env.blockKind; rw [hk]; rfl
  unfold swapsWith
  simp only [hb, ky, ha, Expr.pos, hl]
  rfl
end
def blkC (N : List Str) (sc scope : Scope) (own : List (Str × Nat)) : Bool :=
  (match scope.kind with | .function => true | _ => false) && (scope.names.all fun y => decide (scope.names.lookup y.1 = some y.2)) && (own.all fun p => decide (N[p.2]? = some p.1)) &&
    (scope.names.all fun y => match y.2 with
      | .free => (match sc.names.lookup y.1 with | some .cell => true | some .free => true | _ => false)
      | .local => decide (y.1 ∈ own.map (·.1)) || decide (y.1 ∉ N)
      | .cell => decide (y.1 ∈ own.map (·.1)) || decide (y.1 ∉ N)
      | _ => true)
theorem blkOk_by {N : List Str} {sc scope : Scope} {own : List (Str × Nat)} (h : blkC N sc scope own = true) : BlkOk N sc scope own := by
  unfold blkC at h
  simp only [Bool.and_eq_true, List.all_eq_true, decide_eq_true_eq] at h
  obtain ⟨⟨⟨h1, h2⟩, h3⟩, h4⟩ := h
  refine ⟨?_, h2, h3, fun y hy e => ?_, fun y hy e => ?_⟩
  · split at h1
    · assumption
    · cases h1
  · have q := h4 y hy
    simp only [e] at q
    split at q <;> first | exact .inl (by assumption) | exact .inr (by assumption) | cases q
  · have q := h4 y hy
    rcases e with e | e <;> (simp only [e, Bool.or_eq_true, decide_eq_true_eq] at q; exact q)
end L2
namespace L2
open PySem PySem.Spec PyProof.Rows
section
variable {prog : Program} {w : World} {A : Around} {R : Result → Shared → Prop} {s : Shared} {elt t0 i0 t1 i1 : Expr} {ifs0 ifs1 : List Expr} {scope : Scope} {pos : Pos} {it acc : Value} {env : Env}
end
theorem wipe_out {σ : St} {i : Nat} : ∀ {vs : List Nat}, i ∉ vs → (wipe σ vs)[i]? = σ[i]?
  | [], _ => rfl
  | v :: vs, h => by
    have h1 : v ≠ i := fun e => h (by rw [e]; exact List.mem_cons_self)
    have h2 : i ∉ vs := fun m => h (List.mem_cons_of_mem _ m)
    unfold wipe
    rw [List.getElem?_set_ne h1]
    exact wipe_out h2
section
variable {X : Cx}
end
end L2
namespace L2
open PySem PySem.Spec PyProof.Rows
section
variable {κ : Type} [DecidableEq κ]
def valV (kvs : List (κ × V)) (k : κ) : Option V := (kvs.find? fun kv => decide (kv.1 = k)).map (·.2)
def putK (kvs : List (κ × V)) (k : κ) (v : V) : List (κ × V) :=
  if (kvs.any fun kv => decide (kv.1 = k)) = true then kvs.map (fun kv => if kv.1 = k then (kv.1, v) else kv) else kvs ++ [(k, v)]
def dropK (kvs : List (κ × V)) (k : κ) : List (κ × V) := kvs.filter fun kv => decide (kv.1 ≠ k)
theorem valV_pos {p : κ × V} {r : List (κ × V)} {k : κ} (e : p.1 = k) : valV (p :: r) k = some p.2 := by simp [valV, List.find?_cons, e]
theorem valV_neg {p : κ × V} {r : List (κ × V)} {k : κ} (e : ¬ p.1 = k) : valV (p :: r) k = valV r k := by simp [valV, List.find?_cons, e]
theorem valV_any (k : κ) : ∀ kvs : List (κ × V), (kvs.any fun kv => decide (kv.1 = k)) = (valV kvs k).isSome
  | [] => rfl
  | p :: r => by
    rw [List.any_cons]
    by_cases e : p.1 = k
    · simp only [valV_pos e, decide_eq_true e, Bool.true_or, Option.isSome_some]
    · rw [valV_neg e, decide_eq_false e, Bool.false_or]; exact valV_any k r
theorem RelO.isSome_eq {o : Option V} {u : Option Value} (r : RelO o u) : o.isSome = u.isSome := by
  cases o with
  | none => cases u with
    | none => rfl
    | some _ => exact (show False from r).elim
  | some _ => cases u with
    | none => exact (show False from r).elim
    | some _ => rfl
theorem RelO.getD {o : Option V} {u : Option Value} {d : V} {d' : Value} (r : RelO o u) (rd : RelV d d') : RelV (o.getD d) (u.getD d') := by
  cases o with
  | none => cases u with
    | none => exact rd
    | some _ => exact (show False from r).elim
  | some _ => cases u with
    | none => exact (show False from r).elim
    | some _ => exact r
theorem KV.val {kvs : List (κ × V)} {vs : List (κ × Value)} (r : KV kvs vs) (k : κ) : RelO (valV kvs k) (valueAt vs k) := by
  unfold KV at r
  induction r with
  | nil => exact True.intro
  | @cons p q ps qs h t ih =>
    obtain ⟨h1, h2⟩ := h
    by_cases e : p.1 = k
    · have e' : q.1 = k := h1.symm.trans e
      have b : valueAt (q :: qs) k = some q.2 := by simp [valueAt, List.find?_cons, e']
      rw [valV_pos e, b]; exact h2
    · have e' : ¬ q.1 = k := fun z => e (h1.trans z)
      have b : valueAt (q :: qs) k = valueAt qs k := by simp [valueAt, List.find?_cons, e']
      rw [valV_neg e, b]; exact ih
theorem KV.any {kvs : List (κ × V)} {vs : List (κ × Value)} (r : KV kvs vs) (k : κ) : (kvs.any fun kv => decide (kv.1 = k)) = vs.any fun kv => decide (kv.1 = k) := by
  unfold KV at r
  induction r with
  | nil => rfl
  | cons h t ih => rw [List.any_cons, List.any_cons, ih, h.1]
theorem KV.repl {kvs : List (κ × V)} {vs : List (κ × Value)} (r : KV kvs vs) (k : κ) {y : V} {u : Value} (ry : RelV y u) :
    KV (kvs.map fun kv => if kv.1 = k then (kv.1, y) else kv) (vs.map fun kv => if kv.1 = k then (kv.1, u) else kv) := by
  unfold KV at r ⊢
  induction r with
  | nil => exact .nil
  | @cons p q ps qs h t ih =>
    rw [List.map_cons, List.map_cons]
    refine .cons ?_ ih
    obtain ⟨h1, h2⟩ := h
    by_cases e : p.1 = k
    · rw [if_pos e, if_pos (h1.symm.trans e)]; exact ⟨h1, ry⟩
    · rw [if_neg e, if_neg (fun z => e (h1.trans z))]; exact ⟨h1, h2⟩
theorem KV.put {kvs : List (κ × V)} {vs : List (κ × Value)} (r : KV kvs vs) (k : κ) {y : V} {u : Value} (ry : RelV y u) : KV (putK kvs k y) (stored vs k u) := by
  unfold putK stored
  rw [r.any k]
  by_cases e : (vs.any fun kv => decide (kv.1 = k)) = true
  · rw [if_pos e, if_pos e]; exact r.repl k ry
  · rw [if_neg e, if_neg e]; exact Paired.snoc r ⟨rfl, ry⟩
theorem KV.drop {kvs : List (κ × V)} {vs : List (κ × Value)} (r : KV kvs vs) (k : κ) : KV (dropK kvs k) (without vs k) := by
  unfold KV at r ⊢
  unfold dropK without
  induction r with
  | nil => exact .nil
  | @cons p q ps qs h t ih =>
    obtain ⟨h1, h2⟩ := h
    rw [List.filter_cons, List.filter_cons]
    by_cases e : p.1 = k
    · have a : ¬ decide (p.1 ≠ k) = true := by simp [e]
      have b : ¬ decide (q.1 ≠ k) = true := by simp [h1.symm.trans e]
      rw [if_neg a, if_neg b]; exact ih
    · have e' : ¬ q.1 = k := fun z => e (h1.trans z)
      have a : decide (p.1 ≠ k) = true := by simp [e]
      have b : decide (q.1 ≠ k) = true := by simp [e']
      rw [if_pos a, if_pos b]; exact .cons ⟨h1, h2⟩ ih
theorem KV.length {kvs : List (κ × V)} {vs : List (κ × Value)} (r : KV kvs vs) : kvs.length = vs.length := Paired.length r
end
abbrev KT (H : Hp) : List (List Key × V) → List (List Key × Addr × Value) → Prop := Paired fun p q => p.1 = q.1 ∧ H q.2.1 = some (.tup (p.1.map kV)) ∧ RelV p.2 q.2.2
theorem KT.val {H : Hp} {kvs : List (List Key × V)} {xs : List (List Key × Addr × Value)} (r : KT H kvs xs) (k : List Key) : RelO (valV kvs k) ((atKey xs k).map (·.2)) := by
  induction r with
  | nil => exact True.intro
  | @cons p q ps qs h t ih =>
    obtain ⟨h1, _, h2⟩ := h
    by_cases e : p.1 = k
    · have e' : q.1 = k := h1.symm.trans e
      have b : atKey (q :: qs) k = some q.2 := by simp [atKey, List.find?_cons, e']
      rw [valV_pos e, b]; exact h2
    · have e' : ¬ q.1 = k := fun z => e (h1.trans z)
      have b : atKey (q :: qs) k = atKey qs k := by simp [atKey, List.find?_cons, e']
      rw [valV_neg e, b]; exact ih
theorem KT.repl {H : Hp} {kvs : List (List Key × V)} {xs : List (List Key × Addr × Value)} (r : KT H kvs xs) (k : List Key) {y : V} {u : Value} (ry : RelV y u) :
    KT H (kvs.map fun kv => if kv.1 = k then (kv.1, y) else kv) (xs.map (putAt k u)) := by
  induction r with
  | nil => exact .nil
  | @cons p q ps qs h t ih =>
    rw [List.map_cons, List.map_cons]
    refine .cons ?_ ih
    obtain ⟨h1, h2, h3⟩ := h
    unfold putAt
    by_cases e : p.1 = k
    · rw [if_pos e, if_pos (h1.symm.trans e)]; exact ⟨h1, h2, ry⟩
    · rw [if_neg e, if_neg (fun z => e (h1.trans z))]; exact ⟨h1, h2, h3⟩
theorem KT.put {H : Hp} {kvs : List (List Key × V)} {xs : List (List Key × Addr × Value)} (r : KT H kvs xs) (k : List Key) {b : Addr} {y : V} {u : Value} (hb : H b = some (.tup (k.map kV))) (ry : RelV y u) :
    KT H (putK kvs k y) (storedH xs k b u) := by
  have e : (kvs.any fun kv => decide (kv.1 = k)) = (atKey xs k).isSome := by
    rw [valV_any, (r.val k).isSome_eq, Option.isSome_map]
  unfold putK storedH
  rw [e]
  by_cases q : (atKey xs k).isSome = true
  · rw [if_pos q, if_pos q]; exact r.repl k ry
  · rw [if_neg q, if_neg q]; exact Paired.snoc r ⟨rfl, hb, ry⟩
theorem KT.keeps {H H' : Hp} {kvs : List (List Key × V)} {xs : List (List Key × Addr × Value)} (r : KT H kvs xs) (ht : ∀ b ys, H b = some (.tup ys) → H' b = some (.tup ys)) : KT H' kvs xs :=
  Paired.mapP r fun _ _ z => ⟨z.1, ht _ _ z.2.1, z.2.2⟩
section
variable {P : Program} {w : World} {H : Hp} {h : Heap} {a : Addr}
end
def DGet (H : Hp) (a : Addr) (y : V) (r : Option V) : Prop :=
  (∃ kvs k, Rd H a (.dK kvs) ∧ y = kV k ∧ r = valV kvs k) ∨ ∃ kvs k b, Rd H a (.dT kvs) ∧ y = .ref b ∧ H b = some (.tup (k.map kV)) ∧ r = valV kvs k
def DPut (H : Hp) (a : Addr) (y v : V) (H' : Hp) : Prop :=
  (∃ kvs k, H a = some (.dK kvs) ∧ y = kV k ∧ kvs.length < sizeLine ∧ H' = upd H a (.dK (putK kvs k v))) ∨
  ∃ kvs k b, H a = some (.dT kvs) ∧ y = .ref b ∧ H b = some (.tup (k.map kV)) ∧ kvs.length < sizeLine ∧ H' = upd H a (.dT (putK kvs k v))
theorem DGet.k {H : Hp} {a : Addr} {kvs : List (Key × V)} {k : Key} (e : H a = some (.dK kvs)) : DGet H a (kV k) (valV kvs k) := .inl ⟨kvs, k, .inl e, rfl, rfl⟩
theorem DGet.t {H : Hp} {a b : Addr} {kvs : List (List Key × V)} {k : List Key} (e : H a = some (.dT kvs)) (eb : H b = some (.tup (k.map kV))) : DGet H a (.ref b) (valV kvs k) := .inr ⟨kvs, k, b, .inl e, rfl, eb, rfl⟩
theorem DPut.k {H : Hp} {a : Addr} {kvs : List (Key × V)} {k : Key} {v : V} (e : H a = some (.dK kvs)) (hl : kvs.length < sizeLine) : DPut H a (kV k) v (upd H a (.dK (putK kvs k v))) := .inl ⟨kvs, k, e, rfl, hl, rfl⟩
theorem DPut.t {H : Hp} {a b : Addr} {kvs : List (List Key × V)} {k : List Key} {v : V} (e : H a = some (.dT kvs)) (eb : H b = some (.tup (k.map kV))) (hl : kvs.length < sizeLine) :
    DPut H a (.ref b) v (upd H a (.dT (putK kvs k v))) := .inr ⟨kvs, k, b, e, rfl, eb, hl, rfl⟩
section
variable {X : Cx} {pins : List (Addr × Obj)} {σ : St} {H : Hp} {s : Shared} {a : Addr} {y v : V} {u r : Value} {o : Option V} {A : Around} {E : Value → Shared → Prop}
theorem Inv.big (I : Inv X pins σ H s) : sysModules < s.heap.objs.size := by
  have h : mainGlobals < s.heap.objs.size := (I.mod.glob.keeps I.bk).lt
  exact Nat.lt_trans (by decide) h
end
section
variable {X : Cx} {pins : List (Addr × Obj)} {σ : St} {H : Hp} {s : Shared} {a : Addr} {kvs : List (Key × V)} {k : Key} {u : Value} {A : Around} {E : Value → Shared → Prop}
end
section
variable {X : Cx} {o i e value : Expr} {pos pos' tpos : Pos} {td ty tv : TE}
end
theorem dk_empty {P : Program} {w : World} {H : Hp} (h : Heap) (hb : sysModules < h.objs.size) : ObjOk P w H (h.push { cls := .type "dict", data := .dict #[] }) h.objs.size (.dK []) :=
  ⟨Nat.zero_le _, beq_eq_false_iff_ne.mpr (Ne.symm (Nat.ne_of_lt hb)), [], .nil, Heap.DictOf.new h⟩
def tDNewK : TE := fun _ H Q => ∀ p, H p = none → Q (.ref p) (upd H p (.dK []))
section
variable {X : Cx} {pos : Pos}
theorem pe_dnewK : PE X (.Dict [] [] pos) tDNewK := fun pins s σ H Q I h =>
  wpAny_Dict_empty ⟨.ref s.heap.objs.size, _, I.laid (a := s.heap.objs.size) (o := .dK []) (t' := s.toks) (fun _ _ q => Heap.get?_push_of_some _ q) (Nat.le_refl _) (dk_empty s.heap I.big), rfl, h _ (I.hok.fresh (Nat.le_refl _))⟩
end
structure M1 (X : Cx) (o : Expr) (m : Str) (apos : Pos) (e : Expr) (cpos : Pos) : Prop where
  base : attributeBase o m X.env (eval o X.env) = eval o X.env
  few : ((backTo cpos (starEach [e] X.env)).all (fun x => !x.1) && (backToKw cpos (keywordEach [] X.env)).all (fun x => x.1.isSome)
    && decide (([e] : List Expr).length + ([] : List Keyword).length + (if ([] : List Keyword).isEmpty then 0 else 1) < 30)) = true
  line : (apos.endLine == cpos.line) = true
  trees : backTo cpos (starEach [e] X.env) = [(false, eval e X.env)]
structure M2 (X : Cx) (o : Expr) (m : Str) (apos : Pos) (e f : Expr) (cpos : Pos) : Prop where
  base : attributeBase o m X.env (eval o X.env) = eval o X.env
  few : ((backTo cpos (starEach [e, f] X.env)).all (fun x => !x.1) && (backToKw cpos (keywordEach [] X.env)).all (fun x => x.1.isSome)
    && decide (([e, f] : List Expr).length + ([] : List Keyword).length + (if ([] : List Keyword).isEmpty then 0 else 1) < 30)) = true
  line : (apos.endLine == cpos.line) = true
  trees : backTo cpos (starEach [e, f] X.env) = [(false, eval e X.env), (false, eval f X.env)]
section
variable {X : Cx} {pins : List (Addr × Obj)} {σ : St} {H : Hp} {s : Shared} {a : Addr} {y d : V} {u r : Value} {o : Option V} {A : Around} {E : Value → Shared → Prop}
end
section
variable {X : Cx} {o e f : Expr} {apos cpos : Pos} {td ty tx : TE}
end
section
variable {X : Cx} {pins : List (Addr × Obj)} {σ : St} {H : Hp} {s : Shared} {a : Addr} {kvs : List (Key × V)} {A : Around} {E : Value → Shared → Prop}
end
section
variable {X : Cx} {pins : List (Addr × Obj)} {σ : St} {H : Hp} {s : Shared} {a : Addr} {y : V} {u : Value} {A : Around} {E : Value → Shared → Prop}
end
end L2
namespace L2
open PySem PySem.Spec PyProof.Rows
section
variable {prog : Program} {w : World} {A : Around} {E : Value → Shared → Prop}
end
section
variable {X : Cx}
end
end L2
namespace L2
open PySem PySem.Spec PyProof.Rows
section
variable {X : Cx} {pins : List (Addr × Obj)} {σ : St} {H : Hp} {s : Shared} {h' : Heap}
theorem Inv.turnedL {t' : Nat} {ch : List Addr} (I : Inv X pins σ H s) (k : ∀ b o, b ∉ ch → s.heap.get? b = some o → h'.get? b = some o) (hf : ∀ b ∈ ch, FpOk X pins H b) : Inv X pins σ H { s with heap := h', toks := t' } := by
  have nit : ∀ b u, H b = some u → b ∉ ch := fun b u e z => by
    have q := (hf b z).1
    rw [q] at e; cases e
  refine I.step (g' := s.gens) (d' := s.drawn) (ch := ch) (fun b hb => ⟨(hf b hb).2.2.2.1, (hf b hb).2.1, (hf b hb).2.2.2.2.1, (hf b hb).2.2.2.2.2⟩) (fun b o _ _ hc e _ => k b o hc e) (fun b o _ _ hc e _ => ⟨o.slots, k b o hc e⟩)
    (fun _ _ _ _ n => n) (fun b o hc e => ⟨o, k b o hc e⟩) (fun _ _ e => e) (fun _ _ _ e => e) (fun b ps e => ⟨#[], by rw [e]; simp⟩) (fun m hm => ?_) (fun b u e => ?_) I.bare
  · obtain ⟨o, es, ep, ho, r⟩ := hm
    exact ⟨o, es, ep, k _ o (fun z => (hf _ z).2.1 rfl) ho, r⟩
  · refine (I.hok b u e).stay (fun c v hc q => k c v ?_ q) (fun _ q => q) fun _ _ q => q
    rcases hc with z | z
    · rw [z]; exact nit b u e
    · exact nit c _ z
theorem Inv.turnedNew {t' : Nat} {ch : List Addr} {T : Addr} {ob : HO} (I : Inv X pins σ H s) (k : ∀ b o, b ∉ ch → s.heap.get? b = some o → h'.get? b = some o) (hf : ∀ b ∈ ch, FpOk X pins H b) (hT : s.heap.objs.size ≤ T)
    (new : ObjOk X.prog X.w (upd H T ob) h' T ob) : Inv X pins σ (upd H T ob) { s with heap := h', toks := t' } := by
  have hn : H T = none := I.hok.fresh hT
  have nit : ∀ b u, H b = some u → b ∉ ch := fun b u e z => by
    have q := (hf b z).1
    rw [q] at e; cases e
  refine I.step (g' := s.gens) (d' := s.drawn) (ch := ch) (fun b hb => ⟨(hf b hb).2.2.2.1, (hf b hb).2.1, (hf b hb).2.2.2.2.1, (hf b hb).2.2.2.2.2⟩) (fun b o _ _ hc e _ => k b o hc e) (fun b o _ _ hc e _ => ⟨o.slots, k b o hc e⟩)
    (fun b o _ e n => ?_) (fun b o hc e => ⟨o, k b o hc e⟩) (fun b xs e => ?_) (fun b o u e => ?_) (fun b ps e => ⟨#[], ?_⟩) (fun m hm => ?_) (fun b u e => ?_) I.bare
  · rw [upd_ne (Nat.ne_of_lt (Nat.lt_of_lt_of_le (Heap.lt_size e) hT))]; exact n
  · rw [upd_ne (ne_of_none e hn)]; exact e
  · rw [upd_ne (ne_of_none e hn)]; exact e
  · rw [upd_ne (ne_of_none e hn), e]; simp
  · obtain ⟨o, es, ep, ho, r⟩ := hm
    exact ⟨o, es, ep, k _ o (fun z => (hf _ z).2.1 rfl) ho, r⟩
  · by_cases hb : b = T
    · subst hb
      rw [upd_same] at e
      cases e
      exact new
    · rw [upd_ne hb] at e
      refine (I.hok b u e).stay (fun c v hc q => k c v ?_ q) (fun c q => by rw [upd_ne (ne_of_none q hn)]; exact q) fun c xs q => by rw [upd_ne (ne_of_none q hn)]; exact q
      rcases hc with z | z
      · rw [z]; exact nit b u e
      · exact nit c _ z
end
section
variable {X : Cx}
end
def RgC (i j c : Int) (n : Nat) : Prop := c ≠ 0 ∧ c.natAbs < 1073741824 ∧ Builtin.Range.small i j c = true ∧ Builtin.Range.rangeSize i j c = n
theorem RgC.neg {i j : Int} (ha : -(2 ^ 62) ≤ i) (ha' : i < 2 ^ 62) (hb : -(2 ^ 62) ≤ j) (hb' : j < 2 ^ 62) : RgC i j (-1) (i - j).toNat :=
  ⟨by decide, by decide, PySem.W.small_down ha ha' hb hb', PySem.W.rangeSize_downNat i j⟩
section
variable {X : Cx} {tg : Expr}
end
section
variable {X : Cx} {tg : Expr}
end
section
variable {prog : Program} {w : World} {A : Around} {E : Value → Shared → Prop} {s : Shared}
end
section
variable {X : Cx} {pins : List (Addr × Obj)} {σ : St} {H : Hp} {s : Shared} {d : Addr} {o : Obj}
end
section
variable {P : Program} {w : World} {K : PySem.W.Frag} {tg : Expr} {d : Addr} {o : Obj} {es : Array DictEntry} {ep : Nat}
end
section
variable {X : Cx} {tg e : Expr} {td : TE} {apos cpos : Pos}
end
theorem boot_zip5 : bootBuiltins "zip" = some (.type "zip") := by decide +kernel
def Itz (K : PySem.W.Frag) (a b : Addr) : It :=
  ⟨fun i H => ∃ (xs ys : List V) (x y : V), SqL K H a xs ∧ SqL K H b ys ∧ xs[i]? = some x ∧ ys[i]? = some y,
    fun i H v H' => ∃ T x y, v = .ref T ∧ H T = none ∧ H' = upd H T (.tup [x, y]) ∧ (∀ xs, SqL K H a xs → xs[i]? = some x) ∧ ∀ ys, SqL K H b ys → ys[i]? = some y,
    fun i H => ∃ xs ys : List V, SqL K H a xs ∧ SqL K H b ys ∧ (xs.length ≤ i ∨ ys.length ≤ i)⟩
theorem turn_zip {P : Program} {w : World} {K : PySem.W.Frag} {elts : List Expr} {kk : Nat} {tpos : Pos} {a b z TI TO i1 i2 : Addr} (D : ZipApart z TI TO i1 i2 a b) :
    Turn P w K (.Tuple elts kk tpos) (Itz K a b) [z, TI, TO, i1, i2] z (fun i h => IsZip h z TI TO .none ∧ IsPair h TI (.ref i1) (.ref i2) ∧ (∃ x y, IsPair h TO x y) ∧ h.IsListIter i1 a i ∧ h.IsListIter i2 b i) where
  mem := by simp
  obj := fun i h st c hc => by
    obtain ⟨hz, hTI, ⟨x, y, hTO⟩, ⟨o1, e1, _, d1⟩, ⟨o2, e2, _, d2⟩⟩ := st
    have e' : c = z ∨ c = TI ∨ c = TO ∨ c = i1 ∨ c = i2 := by simpa using hc
    rcases e' with q | q | q | q | q
    · rw [q]; exact ⟨_, hz, fun v q => nomatch q⟩
    · rw [q]; exact ⟨_, hTI, fun v q => nomatch q⟩
    · rw [q]; exact ⟨_, hTO, fun v q => nomatch q⟩
    · rw [q]; exact ⟨o1, e1, fun v q => by rw [d1] at q; cases q⟩
    · rw [q]; exact ⟨o2, e2, fun v q => by rw [d2] at q; cases q⟩
  keep := fun i h h' st k => by
    obtain ⟨hz, hTI, ⟨x, y, hTO⟩, h1, h2⟩ := st
    exact ⟨k z (by simp) _ hz, k TI (by simp) _ hTI, ⟨x, y, k TO (by simp) _ hTO⟩, h1.at fun o q => k i1 (by simp) o q, h2.at fun o q => k i2 (by simp) o q⟩
  item := by
    intro X hP hw hK hc i pins s σ H E I hf st hg
    subst hP hw hK
    obtain ⟨hz, hTI, ⟨x0, y0, hTO⟩, h1, h2⟩ := st
    obtain ⟨xs, ys, x, y, hqx, hqy, hx, hy⟩ := hg
    obtain ⟨its, rv, p, _⟩ := I.list hqx
    obtain ⟨its2, rv2, p2, _⟩ := I.list hqy
    obtain ⟨u, hu, ru⟩ := rv.get hx
    obtain ⟨u2, hu2, ru2⟩ := rv2.get hy
    have hzl : z < s.heap.objs.size := Heap.lt_size hz
    refine wpAny_pyNext_zip_item D hz hTI hTO h1 h2 p.isList p2.isList (x := u) (y := u2) (by simpa using hu) (by simpa using hu2) fun h' z' TO' h1' h2' hT hsz hk => ?_
    refine ⟨_, rfl, wpAny_letOwnedTupleGo_zip (s := { s with heap := h' }) z' fun h'' z'' sb => ?_⟩
    have hT2 : h''.get? s.heap.objs.size = some { cls := .type "tuple", data := .seq #[u, u2] } := (sb.2 _ (Nat.ne_of_gt hzl)).trans hT
    have new : ObjOk X.prog X.w (upd H s.heap.objs.size (.tup [x, y])) h'' s.heap.objs.size (.tup [x, y]) :=
      ⟨by show 2 ≤ sizeLine; decide, [u, u2], .cons ru (.cons ru2 .nil), ⟨_, hT2, rfl, _, rfl⟩⟩
    have I1 : Inv X pins σ (upd H s.heap.objs.size (.tup [x, y])) { s with heap := h'' } :=
      I.turnedNew (t' := s.toks) (ch := [z, TI, TO, i1, i2]) (fun c o hb q => (sb.2 c (fun q' => hb (by simp [q']))).trans (hk c o (fun q' => hb (by simp [q'])) (fun q' => hb (by simp [q'])) (fun q' => hb (by simp [q'])) (fun q' => hb (by simp [q'])) q)) hf (Nat.le_refl _) new
    refine ⟨.ref s.heap.objs.size, _, I1, rfl, ⟨_, x, y, rfl, I.hok.fresh (Nat.le_refl _), rfl, fun l hl => by rw [I.list_inj hl hqx]; exact hx, fun l hl => by rw [I.list_inj hl hqy]; exact hy⟩, ⟨z'', ?_, ⟨u, u2, ?_⟩, ?_, ?_⟩, fun c hcm => ?_⟩
    · exact (sb.2 _ D.TIz).trans (hk _ _ D.TIz D.TITO D.TIi1 D.TIi2 hTI)
    · exact (sb.2 _ D.TOz).trans TO'
    · exact h1'.at fun o q => (sb.2 _ D.i1z).trans q
    · exact h2'.at fun o q => (sb.2 _ D.i2z).trans q
    · have hlt : c < s.heap.objs.size := by
        have e' : c = z ∨ c = TI ∨ c = TO ∨ c = i1 ∨ c = i2 := by simpa using hcm
        rcases e' with q | q | q | q | q
        · rw [q]; exact hzl
        · rw [q]; exact Heap.lt_size hTI
        · rw [q]; exact Heap.lt_size hTO
        · rw [q]; obtain ⟨_, e1, _⟩ := h1; exact Heap.lt_size e1
        · rw [q]; obtain ⟨_, e2, _⟩ := h2; exact Heap.lt_size e2
      rw [upd_ne (Nat.ne_of_lt hlt)]
      exact (hf c hcm).1
  done := by
    intro X hP hw hK hc i pins s σ H E I hf st hg
    subst hP hw hK
    obtain ⟨hz, hTI, ⟨x0, y0, hTO⟩, h1, h2⟩ := st
    obtain ⟨xs, ys, hqx, hqy, hend⟩ := hg
    obtain ⟨its, rv, p, _⟩ := I.list hqx
    obtain ⟨its2, rv2, p2, _⟩ := I.list hqy
    have l1 := rv.length
    have l2 := rv2.length
    have he : its.toArray[i]? = none ∨ its2.toArray[i]? = none := by
      rcases hend with q | q
      · exact .inl (by simp; omega)
      · exact .inr (by simp; omega)
    exact wpAny_pyNext_zip_end (I.ok.hd hc) D hz hTI hTO h1 h2 p.isList p2.isList he fun h' hk => ⟨rfl, I.turnedL (t' := s.toks) (ch := [z, TI, TO, i1, i2]) (fun c o hb q =>
      hk c o (fun q' => hb (by simp [q'])) (fun q' => hb (by simp [q'])) (fun q' => hb (by simp [q'])) (fun q' => hb (by simp [q'])) q) hf⟩
  self := fun A i s Q E st h => wpAny_pyIter_zip st.1 h
end L2
section
namespace Bits
open PySem PyProof.Rows
end Bits
end
section
namespace TL
open PySem PySem.Builtin PySem.Builtin.Str PySem.StrLaws
abbrev tl (x : Str) : List Nat := x.cps.toList
def pre (S l : List Nat) : Bool := l.take S.length == S
def par (S : List Nat) : List Nat → List Nat → Option (List Nat × List Nat)
  | _, [] => none
  | acc, c :: r => if pre S (c :: r) = true then some (acc, (c :: r).drop S.length) else par S (acc ++ [c]) r
end TL
end
namespace L2
open PySem PySem.Spec PyProof.Rows
theorem vals_strs : ∀ l : List (Str × Tok), Vals ((l.map (·.1)).map V.str) (strValues l)
  | [] => .nil
  | p :: r => .cons ⟨p.2, rfl⟩ (vals_strs r)
section
variable {X : Cx} {pins : List (Addr × Obj)} {σ : St} {H : Hp} {s : Shared} {Q : VK}
end
section
variable {X : Cx}
end
section
variable {X : Cx} {o e : Expr} {to te : TE}
end
end L2
namespace L2
open PySem PySem.Spec PyProof.Rows
section
variable {X : Cx}
end
end L2
namespace Att
open PySem PySem.W PySem.Calls PyProof.Rows
theorem ints_of_wellAll {P : Params} {h : Heap} : ∀ (ns : List Int) (vs : List Value), WellAll P h vs (ns.map WData.int) → IntsAre vs ns := by
  intro ns
  induction ns with
  | nil =>
    intro vs w
    rw [List.map_nil] at w
    cases w
    exact .nil
  | cons n ns ih =>
    intro vs w
    rw [List.map_cons] at w
    cases w with
    | cons a b =>
      cases a
      exact .cons _ _ (ih _ b)
theorem script_of {l : OpenLaw} {n : Nat} (hn : l.most = some n) {P : Params} {h : Heap} {args : List WData} {vals : List Value}
    (hpre : l.row.toRowW.claim.pre args = true) (hwl : WellAll P h vals args) :
    ∃ a vs ns, vals = [Value.ref a] ∧ args = [WData.list (ns.map WData.int)] ∧ h.get? a = some { cls := .type "list", data := .seq vs.toArray } ∧ IntsAre vs ns ∧ ns.length ≤ n := by
  have hsh : WShape.hasAll [] args [.list .int] = true := (pre_splitW hpre).1
  have hc : l.pre.holds [] { args := args } = true := (pre_splitW hpre).2
  obtain ⟨d, r, rfl, h1, h2⟩ := hasAllW_cons hsh
  obtain rfl := hasAllW_nil h2
  obtain ⟨xs, rfl, h3⟩ := hasW_list h1
  obtain ⟨ns, rfl⟩ := items_int h3
  have hlen : ns.length ≤ n := by
    unfold OpenLaw.pre at hc
    have h4 : (WTm.not (.lt (.lit (.int (n : Int))) (.len (.arg 0)))).holds [] { args := [.list (ns.map .int)] } = true := by
      have h4 := (holds_andW hc).1
      rw [hn] at h4
      exact h4
    have h5 := condW_of h4 (w_not (w_lt w_lit (w_len_list (w_arg rfl))))
    rw [List.length_map] at h5
    refine Nat.le_of_not_lt fun q => ?_
    have q' : (n : Int) < ((ns.length : Nat) : Int) := by omega
    first
      | (rw [decide_eq_true q'] at h5; exact absurd h5 (by decide))
      | (simp at h5; omega)
  cases hwl with
  | cons w1 w2 =>
    cases w2
    cases w1 with
    | list ho hall => exact ⟨_, _, ns, rfl, rfl, ho, ints_of_wellAll ns _ hall, hlen⟩
theorem post_true (l : OpenLaw) (args : List WData) : l.row.toRowW.claim.post args (.bool true) args = true :=
  postW_of (r := l.row.toRowW) (X := (true == true))
    (show WShape.has [] (.bool true) .bool = true by first | rfl | decide | simp [WShape.has, WShape.arms, WShape.armsAll])
    (show (WTm.eq .res (.lit (.bool true))).value [] { args := args, res := some (.bool true), after := args } = some (.bool (true == true)) from w_eq_bool (w_res rfl) w_lit) rfl
theorem attach_call {l : OpenLaw} {n : Nat} {q : Program} {loose : List Str} {XP : (Str → Option Value) → Heap → Prop} {YP : World → Heap → Prop} {d : DefRec}
    (hn : l.most = some n) (hdf : d.params.defaults = [])
    (call : ∀ (w : World) (s₀ s₁ : Shared) (mg mb : Str → Option Value) (fa : Addr) (o : Obj) (pm cd doc : Value) (a : Addr) (vs : List Value) (ns : List Int),
      Ground q loose [] XP w s₀ mg mb s₁.heap → YP w s₁.heap →
      s₁.heap.get? fa = some o → o.data = .func (docDef d.name d.params d.body d.scope pm cd doc) → s₁.heap.CodeRec cd d.name → mg d.name = some (.ref fa) →
      s₁.heap.get? a = some { cls := .type "list", data := .seq vs.toArray } → IntsAre vs ns → ns.length ≤ n → s₁.gens = #[] →
      codeAny (model l.prog w) callerA (.call (.ref fa) ⟨[.ref a], []⟩) (fun r s' => r = .ok (.ret (.bool true)) ∧ OldK s₁.heap s'.heap ∧ s'.os = s₁.os ∧ AllBare s'.gens) s₁) :
    WalkO q loose XP YP l.row.toRowW d [] (fun f vs => PySem.call f vs) := by
  intro w s₀ s₁ mg mb G Y fa o pm cd doc dV kV ho hd hcd hD hmg hg args vals as hpre hlay hrd hwl hlo
  obtain rfl : dV = .none := Dflts.none hD hdf
  obtain rfl : kV = .none := Dflts.noKw hD
  obtain ⟨a, vs, ns, rfl, rfl, hobj, hints, hlen⟩ := script_of hn hpre hwl
  refine enter_call (codeAny_mono (call w s₀ s₁ mg mb fa o pm cd doc a vs ns G Y ho (fd_plain hd) hcd hmg hobj hints hlen hg) fun r s' hq => ?_)
  obtain ⟨rfl, h2, h3, h4⟩ := hq
  exact ⟨.inl ⟨.bool true, .bool true, [], rfl, fun _ => rfl, .bool true, post_true l _, fun _ => ⟨List.Pairwise.nil, fun _ hm => (nomatch hm)⟩⟩, h2, h3, h4⟩
section
variable {prog : Program} {w : World} {A : Around} {E : Value → Shared → Prop} {s : Shared} {K : Frag}
end
end Att
namespace L2
open PySem PySem.Spec PyProof.Rows
theorem vals_ints : ∀ {vs : List Value} {ns : List Int}, IntsAre vs ns → Vals (ns.map V.int) vs
  | _, _, .nil => .nil
  | _, _, .cons n t h => .cons ⟨t, rfl⟩ (vals_ints h)
def Only (H : Hp) : Prop := ∀ b, H b = none ∨ ∃ o xs, H b = some (.frz o (.lst xs))
theorem law_call {P : Program} {w : World} {K : PySem.W.Frag} {mg mb : Str → Option Value} {CX : CXT} {k : Nat} {fa a : Addr} {fd : FuncData} {x : Str} {sp : Sp} {s₁ : Shared} {vs : List Value} {ns : List Int}
    (KX : K.In s₁.heap) (hns : s₁.heap.Ns mainGlobals mg) (hb : s₁.heap.Ns builtinsNs mb) (hbb : ∀ x : Str, x ≠ "__name__" → mb x = bootBuiltins x) (hlim : s₁.heap.NoLimit) (hg : s₁.gens = #[])
    (ha : s₁.heap.get? a = some { cls := .type "list", data := .seq vs.toArray }) (hi : IntsAre vs ns) (hl : ns.length ≤ sizeLine) (hr : Room k callerA)
    (F : ∀ base : Heap, K.In base → base.Ns mainGlobals mg → FnOk P w K mg base CX k fa fd [x] sp) (hbind : ∀ (s : Shared) (u : Value), BindsTo s fd ⟨[u], []⟩ [(x, u)])
    (hsp : ∀ H : Hp, Only H → SqL K H a (ns.map V.int) → sp [.ref a] H (fun v _ => v = .bl true) fun _ _ _ => False)
    (hCX : ∀ H e s', CX [] H s₁ (fun _ _ _ => False) e s' → False) :
    codeAny (model P w) callerA (.call (.ref fa) ⟨[.ref a], []⟩) (fun r s' => r = .ok (.ret (.bool true)) ∧ OldK s₁.heap s'.heap ∧ s'.os = s₁.os ∧ AllBare s'.gens) s₁ := by
  have rv := vals_ints hi
  have lenV := hi.length
  have core : ∀ H : Hp, Only H → SqL K H a (ns.map V.int) → HOk P w H s₁.heap → (∀ b, H b ≠ none → b = a) → (H a ≠ none → K.lookup a = none) →
      codeAny (model P w) callerA (.call (.ref fa) ⟨[.ref a], []⟩) (fun r s' => r = .ok (.ret (.bool true)) ∧ OldK s₁.heap s'.heap ∧ s'.os = s₁.os ∧ AllBare s'.gens) s₁ := by
    intro H hO hS hok hA hK
    have base_of : ∀ {b : Addr} {o : Obj}, s₁.heap.get? b = some o → H b = none → (hidT s₁.heap H).get? b = some o := fun e n => hidT_get e n
    have noA : ∀ {b : Addr} {o : Obj} {es : Array DictEntry} {ep : Nat}, s₁.heap.get? b = some o → o.data = .dict es ep → H b = none := fun {b o es ep} e d => by
      cases q : H b with
      | none => rfl
      | some u =>
        have e' : b = a := hA b (by rw [q]; simp)
        subst e'
        rw [ha] at e; cases e
        have d' : Data.seq vs.toArray _ = Data.dict es ep := d
        cases d'
    have nsK : ∀ {b : Addr} {m : Str → Option Value}, s₁.heap.Ns b m → (hidT s₁.heap H).Ns b m := fun {b m} ⟨o, es, ep, e, d, r⟩ => ⟨o, es, ep, base_of e (noA e d), d, r⟩
    have hKb : K.In (hidT s₁.heap H) := fun b o e => base_of (KX b o e) (by
      cases q : H b with
      | none => rfl
      | some u =>
        have e' : b = a := hA b (by rw [q]; simp)
        subst e'
        rw [hK (by rw [q]; simp)] at e; cases e)
    have hM : Mod K mg (hidT s₁.heap H) := ⟨hKb, nsK hns, ⟨mb, nsK hb, hbb⟩, let ⟨mc, h1, h2⟩ := hlim; ⟨mc, nsK h1, h2⟩⟩
    have e0 : Env0 P w K mg (hidT s₁.heap H) callerA [] s₁ H := ⟨rfl, hM, fun b o e => of_hidT e, Nat.le_of_eq (hidT_size _ _), trivial, fun b hb => absurd (show b ∈ ([] : List Addr) from hb) (by simp), hok, .of_eq hg⟩
    refine codeAny_mono ((F _ hKb (nsK hns)).run callerA [] s₁ H ⟨[.ref a], []⟩ [.ref a] [.ref a] _ _ hr e0 (hbind s₁ (.ref a)) (.cons rfl .nil) (hsp H hO hS)) fun r s' h => ?_
    cases r with
    | error e => exact (hCX H e s' h).elim
    | ok fl =>
      cases fl with
      | next => exact False.elim h
      | brk => exact False.elim h
      | cont => exact False.elim h
      | ret u =>
        obtain ⟨v, H', os, bare, un, hok', r', q⟩ := h
        have q' : v = .bl true := q
        subst q'
        obtain rfl : u = Value.bool true := r'
        refine ⟨rfl, OldK.of_keep fun b o e => ?_, os, bare⟩
        cases q : H b with
        | none => exact un.keep b o e q (by intro z; exact absurd (show b ∈ ([] : List Addr) from z) (by simp)) (by simp)
        | some u =>
          rcases hO b with z | ⟨ob, xs, z⟩
          · rw [q] at z; cases z
          · have z2 := un.frzs b ob _ z
            obtain ⟨e1, _⟩ := hok b _ z
            obtain ⟨e2, _⟩ := hok' b _ z2
            rw [e] at e1; cases e1
            exact e2
  cases hk : K.lookup a with
  | some o =>
    have e := KX a o hk
    rw [ha] at e
    cases e
    refine core (fun _ => none) (fun _ => .inl rfl) (.inr ⟨_, vs.toArray, _, hk, rfl, rfl, rfl, by rw [List.size_toArray, lenV]; exact hl, by simpa using rv⟩) (fun b u z => by have z' : (none : Option HO) = some u := z; cases z') (fun b z => absurd rfl z) fun z => absurd rfl z
  | none =>
    refine core (fun b => if b = a then some (.frz { cls := .type "list", data := .seq vs.toArray } (.lst (ns.map V.int))) else none) (fun b => ?_) (.inl (.inr ⟨{ cls := .type "list", data := .seq vs.toArray }, if_pos rfl⟩)) (fun b u z => ?_) (fun b z => ?_) fun _ => hk
    · by_cases hb : b = a
      · exact .inr ⟨_, _, if_pos hb⟩
      · exact .inl (if_neg hb)
    · by_cases hb : b = a
      · have z' := (if_pos hb).symm.trans z
        cases z'
        subst hb
        exact ⟨ha, by rw [List.length_map]; exact hl, vs, _, rv, ha⟩
      · have z' := (if_neg hb).symm.trans z
        cases z'
    · by_cases hb : b = a
      · exact hb
      · exact absurd (if_neg hb) z
end L2
namespace L2
open PySem PySem.Spec PyProof.Rows
theorem walk_of {l : PySem.W.OpenLaw} {n k : Nat} {q : Program} {loose : List Str} {XP : (Str → Option Value) → Heap → Prop} {YP : World → Heap → Prop} {d : DefRec} {K : Params → PySem.W.Frag} {CX : World → CXT} {sp : World → Sp} {x : Str}
    (hn : l.most = some n) (hn2 : n ≤ sizeLine) (hdf : d.params.defaults = []) (hr : Room k callerA)
    (hY : ∀ (w : World) (h : Heap), YP w h → (K w.params).In h)
    (F : ∀ (w : World) (mg : Str → Option Value) (fa : Addr) (h : Heap), (K w.params).In h → h.Ns mainGlobals mg → mg d.name = some (.ref fa) →
      ∃ fd : FuncData, (∀ (s : Shared) (u : Value), BindsTo s fd ⟨[u], []⟩ [(x, u)]) ∧
        ∀ base : Heap, (K w.params).In base → base.Ns mainGlobals mg → FnOk l.prog w (K w.params) mg base (CX w) k fa fd [x] (sp w))
    (hsp : ∀ (w : World) (H : Hp) (a : Addr) (ns : List Int), ns.length ≤ n → Only H → SqL (K w.params) H a (ns.map V.int) → sp w [.ref a] H (fun v _ => v = .bl true) fun _ _ _ => False)
    (hCX : ∀ (w : World) (H : Hp) (s : Shared) (e : Value) (s' : Shared), CX w [] H s (fun _ _ _ => False) e s' → False) :
    PySem.W.WalkO q loose XP YP l.row.toRowW d [] (fun f vs => PySem.call f vs) := by
  refine Att.attach_call hn hdf fun w s₀ s₁ mg mb fa o pm cd doc a vs ns G Y ho hd hcd hmg hobj hints hlen hg => ?_
  have KX := hY w _ Y
  obtain ⟨fd, hb, hF⟩ := F w mg fa _ KX G.T.g hmg
  exact law_call KX G.T.g G.T.b G.T.builtins G.T.nolimit hg hobj hints (Nat.le_trans hlen hn2) hr hF hb (fun H hO hS => hsp w H a ns hlen hO hS) fun H e s' => hCX w H s₁ e s'
end L2
namespace L2
open PySem PySem.Spec PyProof.Rows
def defArgs (s : Stmt) : Arguments := match s with
  | .FunctionDef _ a _ _ _ _ _ _ _ _ => a
  | _ => { posonlyargs := [], args := [], vararg := none, kwonlyargs := [], kw_defaults := [], kwarg := none, defaults := [] }
def defBody (s : Stmt) : List Stmt := match s with
  | .FunctionDef _ _ b _ _ _ _ _ _ _ => b
  | _ => []
def defScope (s : Stmt) : Scope := match s with
  | .FunctionDef _ _ _ _ _ _ sc _ _ _ => sc
  | _ => { kind := .function, names := [], isGenerator := false, isCoroutine := false }
abbrev CX0 : CXT := fun _ _ _ _ _ _ => False
abbrev E0 : XK := fun _ _ _ => False
theorem pass0 {X : Cx} : Passes CX0 X E0 := fun _ _ _ _ _ _ _ h => h.elim
structure Fun (K : PySem.W.Frag) (x qual : Str) (st : Stmt) (f : Addr) (fd : FuncData) : Prop where
  ex : ∃ (oc : Value) (od : Option Addr) (kV doc pm : Value) (an : Option Addr) (cdv ct : Value) (osl : Array (Option Value)),
    fd = PySem.W.fnOf x qual (defArgs st) (defBody st) (defScope st) .none kV doc pm an cdv ct ∧ K.lookup f = some ⟨oc, od, .func fd, osl⟩ ∧ PySem.W.codeIn K cdv qual = true
  kp : PySem.W.keepIn K (.ref f) = true
section
variable {P : Program} {w : World} {K : PySem.W.Frag} {mg : Str → Option Value} {base : Heap}
theorem Fun.ok {x qual : Str} {st : Stmt} {f : Addr} {fd : FuncData} {N ps : List Str} {k : Nat} {sp : Sp} (F : Fun K x qual st f fd) (S : FnScope N ps (defScope st)) (len : ∀ vs H Q E, sp vs H Q E → vs.length = ps.length)
    (hbody : ∀ (cdv : Value) (A : Around) (outer : List Env) (s : Shared) (H : Hp) (vs : List V) (Q : VK) (E : XK), Room k (A.deeper (envOfC qual (defScope st) s.heap.objs.size f cdv)) → sp vs H Q E →
      ∃ t, PSs (cxOf CX0 P w K mg base N qual (defScope st) f cdv A outer s H E).nox (defBody st) t ∧ t { nx := fun _ H' => Q .non H', rt := Q } (start N vs) H) : FnOk P w K mg base CX0 (k + 1) f fd ps sp := by
  obtain ⟨oc, od, kV, doc, pm, an, cdv, ct, osl, rfl, lk, hcd⟩ := F.ex
  refine fn_of lk hcd S len fun A outer s H vs Q E hr hsp => ?_
  obtain ⟨t, h, q⟩ := hbody cdv A outer s H vs Q E hr hsp
  exact ⟨t, h.nox, q⟩
theorem Fun.binds {x qual : Str} {st : Stmt} {f : Addr} {fd : FuncData} {ps : List Str} (F : Fun K x qual st f fd)
    (h : ∀ (kV doc pm : Value) (an : Option Addr) (cdv ct : Value) (us : List Value), us.length = ps.length → bindArgs (PySem.W.fnOf x qual (defArgs st) (defBody st) (defScope st) .none kV doc pm an cdv ct) ⟨us, []⟩ = pure (ps.zip us)) : Binds K fd ps [] := by
  obtain ⟨oc, od, kV, doc, pm, an, cdv, ct, osl, rfl, lk, hcd⟩ := F.ex
  exact .all (h kV doc pm an cdv ct)
theorem fun_mk {x qual : Str} {st : Stmt} {f : Addr} {oc : Value} {od an : Option Addr} {osl : Array (Option Value)} {kV doc pm cdv ct : Value} (l : K.lookup f = some ⟨oc, od, .func (PySem.W.fnOf x qual (defArgs st) (defBody st) (defScope st) .none kV doc pm an cdv ct), osl⟩)
    (c : PySem.W.codeIn K cdv qual = true) (k : PySem.W.keepIn K (.ref f) = true) : Fun K x qual st f (PySem.W.fnOf x qual (defArgs st) (defBody st) (defScope st) .none kV doc pm an cdv ct) := ⟨⟨oc, od, kV, doc, pm, an, cdv, ct, osl, rfl, l, c⟩, k⟩
end
section
variable {X : Cx}
end
def Same (H H' : Hp) : Prop := ∀ b o, H b = some o → H' b = some o
theorem Same.refl (H : Hp) : Same H H := fun _ _ h => h
theorem Same.trans {H H1 H2 : Hp} (a : Same H H1) (b : Same H1 H2) : Same H H2 := fun c o h => b c o (a c o h)
theorem Same.free {H H' : Hp} (e : Same H H') {l : Addr} (h : H' l = Option.none) : H l = Option.none := by
  cases q : H l with
  | none => rfl
  | some o =>
    rw [e l o q] at h
    cases h
theorem Same.seq {K : PySem.W.Frag} {H H' : Hp} {a : Addr} {xs : List V} (e : Same H H') (h : SqL K H a xs) : SqL K H' a xs := by
  rcases h with (h | ⟨o, h⟩) | h
  · exact .inl (.inl (e _ _ h))
  · exact .inl (.inr ⟨o, e _ _ h⟩)
  · exact .inr h
section
variable {κ : Type} [DecidableEq κ]
end
end L2
set_option maxHeartbeats 4000000
set_option linter.all false
namespace F
open PySem L2
inductive A where
  | non | bl (b : Bool) | int (i : Int) | str (x : Str) | tup (xs : List A) | ref (n : Nat) | ty (n : String) | dic
inductive SO where
  | lst (xs : List A)
  | fz (xs : List A)
abbrev Sto := List SO
abbrev En := List (Option A)
abbrev FE := En → Sto → Option (A × Sto)
abbrev FT := En → Sto → Option (Bool × Sto)
abbrev FA := En → Sto → Option (List A × Sto)
inductive Fl where
  | nx (e : En) | rt (v : A) | bk (e : En) | ct (e : En)
abbrev FS := En → Sto → Option (Fl × Sto)
abbrev FN := List A → Sto → Option (A × Sto)
mutual
inductive RA (H : Hp) (r : Nat → Addr) (n : Nat) : A → V → Prop
  | non : RA H r n .non .non
  | bl (b : Bool) : RA H r n (.bl b) (.bl b)
  | int (i : Int) : RA H r n (.int i) (.int i)
  | str (x : Str) : RA H r n (.str x) (.str x)
  | tup {a : Addr} {xs : List A} {vs : List V} : H a = some (.tup vs) → RAs H r n xs vs → RA H r n (.tup xs) (.ref a)
  | ref {k : Nat} : k < n → RA H r n (.ref k) (.ref (r k))
  | ty (x : String) : RA H r n (.ty x) (.ty x)
  | dic {a : Addr} : H a = some (.dK []) → RA H r n .dic (.ref a)
inductive RAs (H : Hp) (r : Nat → Addr) (n : Nat) : List A → List V → Prop
  | nil : RAs H r n [] []
  | cons {x : A} {v : V} {xs : List A} {vs : List V} : RA H r n x v → RAs H r n xs vs → RAs H r n (x :: xs) (v :: vs)
end
structure Ext (H : Hp) (r : Nat → Addr) (n : Nat) (H' : Hp) (r' : Nat → Addr) (n' : Nat) : Prop where
  tup : ∀ a vs, H a = some (.tup vs) → H' a = some (.tup vs)
  dk : ∀ a, H a = some (.dK []) → H' a = some (.dK [])
  le : n ≤ n'
  eq : ∀ i, i < n → r' i = r i
theorem Ext.refl (H : Hp) (r : Nat → Addr) (n : Nat) : Ext H r n H r n := ⟨fun _ _ h => h, fun _ h => h, Nat.le_refl _, fun _ _ => rfl⟩
theorem Ext.trans {H H1 H2 : Hp} {r r1 r2 : Nat → Addr} {n n1 n2 : Nat} (a : Ext H r n H1 r1 n1) (b : Ext H1 r1 n1 H2 r2 n2) : Ext H r n H2 r2 n2 :=
  ⟨fun x vs h => b.tup x vs (a.tup x vs h), fun x h => b.dk x (a.dk x h), Nat.le_trans a.le b.le, fun i hi => (b.eq i (Nat.lt_of_lt_of_le hi a.le)).trans (a.eq i hi)⟩
mutual
theorem RA.ext {H H' : Hp} {r r' : Nat → Addr} {n n' : Nat} (e : Ext H r n H' r' n') : ∀ {x : A} {v : V}, RA H r n x v → RA H' r' n' x v
  | _, _, .non => .non
  | _, _, .bl b => .bl b
  | _, _, .int i => .int i
  | _, _, .str x => .str x
  | _, _, .ty x => .ty x
  | _, _, .dic h => .dic (e.dk _ h)
  | _, _, .tup h hs => .tup (e.tup _ _ h) (RAs.ext e hs)
  | _, _, .ref (k := k) h => by
    have q := e.eq k h
    rw [← q]
    exact .ref (Nat.lt_of_lt_of_le h e.le)
theorem RAs.ext {H H' : Hp} {r r' : Nat → Addr} {n n' : Nat} (e : Ext H r n H' r' n') : ∀ {xs : List A} {vs : List V}, RAs H r n xs vs → RAs H' r' n' xs vs
  | _, _, .nil => .nil
  | _, _, .cons h t => .cons (RA.ext e h) (RAs.ext e t)
end
theorem RAs.length {H : Hp} {r : Nat → Addr} {n : Nat} : ∀ {xs : List A} {vs : List V}, RAs H r n xs vs → xs.length = vs.length
  | _, _, .nil => rfl
  | _, _, .cons _ t => by simp [RAs.length t]
theorem RAs.get {H : Hp} {r : Nat → Addr} {n : Nat} : ∀ {xs : List A} {vs : List V} {i : Nat} {x : A}, RAs H r n xs vs → xs[i]? = some x → ∃ v, vs[i]? = some v ∧ RA H r n x v
  | _, _, _, _, .nil, e => by simp at e
  | _, _, 0, _, .cons h _, e => by simp at e; subst e; exact ⟨_, rfl, h⟩
  | _, _, i + 1, x, .cons _ t, e => by
    obtain ⟨v, h1, h2⟩ := RAs.get (i := i) (x := x) t (by simpa using e)
    exact ⟨v, by simpa using h1, h2⟩
theorem RAs.set {H : Hp} {r : Nat → Addr} {n : Nat} {x : A} {v : V} (q : RA H r n x v) : ∀ {xs : List A} {vs : List V} (i : Nat), RAs H r n xs vs → RAs H r n (xs.set i x) (vs.set i v)
  | _, _, _, .nil => .nil
  | _, _, 0, .cons _ t => .cons q t
  | _, _, i + 1, .cons h t => .cons h (RAs.set q i t)
theorem RAs.append {H : Hp} {r : Nat → Addr} {n : Nat} : ∀ {xs ys : List A} {vs us : List V}, RAs H r n xs vs → RAs H r n ys us → RAs H r n (xs ++ ys) (vs ++ us)
  | _, _, _, _, .nil, s => s
  | _, _, _, _, .cons h t, s => .cons h (RAs.append t s)
theorem RAs.ints {H : Hp} {r : Nat → Addr} {n : Nat} : ∀ (ns : List Int), RAs H r n (ns.map A.int) (ns.map V.int)
  | [] => .nil
  | i :: ns => .cons (.int i) (RAs.ints ns)
def RO (K : PySem.W.Frag) (H : Hp) (r : Nat → Addr) (n : Nat) (a : Addr) : SO → Prop
  | .lst xs => ∃ vs, H a = some (.lst vs) ∧ RAs H r n xs vs
  | .fz xs => ∃ vs, ((∃ o, H a = some (.frz o (.lst vs))) ∨ (SqL K (fun _ => none) a vs)) ∧ RAs H r n xs vs
structure SR (K : PySem.W.Frag) (H : Hp) (r : Nat → Addr) (S : Sto) : Prop where
  obj : ∀ (i : Nat) (o : SO), S[i]? = some o → RO K H r S.length (r i) o
  inj : ∀ (i j : Nat) (xs ys : List A), S[i]? = some (.lst xs) → S[j]? = some (.lst ys) → r i = r j → i = j
structure RE (H : Hp) (r : Nat → Addr) (n : Nat) (e : En) (sg : St) : Prop where
  len : e.length = sg.length
  get : ∀ (i : Nat) (a : A), e[i]? = some (some a) → ∃ v, sg[i]? = some (some v) ∧ RA H r n a v
theorem RE.ext {H H' : Hp} {r r' : Nat → Addr} {n n' : Nat} {e : En} {sg : St} (x : Ext H r n H' r' n') (h : RE H r n e sg) : RE H' r' n' e sg :=
  ⟨h.len, fun i a q => let ⟨v, h1, h2⟩ := h.get i a q; ⟨v, h1, h2.ext x⟩⟩
theorem RE.set {H : Hp} {r : Nat → Addr} {n : Nat} {e : En} {sg : St} {i : Nat} {a : A} {v : V} (h : RE H r n e sg) (q : RA H r n a v) : RE H r n (e.set i (some a)) (sg.set i (some v)) :=
  ⟨by simp [h.len], fun j b hb => by
    by_cases hij : i = j
    · subst hij
      by_cases hl : i < e.length
      · rw [List.getElem?_set_self hl] at hb
        cases hb
        exact ⟨v, by rw [List.getElem?_set_self (by rw [← h.len]; exact hl)], q⟩
      · rw [List.getElem?_eq_none (by simpa using hl)] at hb
        cases hb
    · rw [List.getElem?_set_ne hij] at hb
      obtain ⟨w, h1, h2⟩ := h.get j b hb
      exact ⟨w, by rw [List.getElem?_set_ne hij]; exact h1, h2⟩⟩
theorem RO.ext {K : PySem.W.Frag} {H : Hp} {r r' : Nat → Addr} {n n' : Nat} {a : Addr} {o : SO} (e : Ext H r n H r' n') (h : RO K H r n a o) : RO K H r' n' a o := by
  cases o with
  | lst xs => obtain ⟨vs, h1, h2⟩ := h; exact ⟨vs, h1, h2.ext e⟩
  | fz xs => obtain ⟨vs, h1, h2⟩ := h; exact ⟨vs, h1, h2.ext e⟩
theorem RO.keep {K : PySem.W.Frag} {H H' : Hp} {r r' : Nat → Addr} {n n' : Nat} {a : Addr} {o : SO} (e : Ext H r n H' r' n') (k : ∀ u, H a = some u → H' a = some u) (h : RO K H r n a o) : RO K H' r' n' a o := by
  cases o with
  | lst xs => obtain ⟨vs, h1, h2⟩ := h; exact ⟨vs, k _ h1, h2.ext e⟩
  | fz xs =>
    obtain ⟨vs, h1, h2⟩ := h
    refine ⟨vs, ?_, h2.ext e⟩
    rcases h1 with ⟨o, h1⟩ | h1
    · exact .inl ⟨o, k _ h1⟩
    · exact .inr h1
theorem getElem_lt {α : Type} {l : List α} {i : Nat} {x : α} (h : l[i]? = some x) : i < l.length := (List.getElem?_eq_some_iff.mp h).1
theorem ext_new {H : Hp} {r : Nat → Addr} {n : Nat} {p : Addr} {u : HO} (hp : H p = none) : Ext H r n (upd H p u) r n :=
  ⟨fun a vs h => by rw [upd_ne (ne_of_none h hp)]; exact h, fun a h => by rw [upd_ne (ne_of_none h hp)]; exact h, Nat.le_refl _, fun _ _ => rfl⟩
theorem SR.new {K : PySem.W.Frag} {H : Hp} {r : Nat → Addr} {S : Sto} {p : Addr} {u : HO} (h : SR K H r S) (hp : H p = none) : SR K (upd H p u) r S :=
  ⟨fun i o q => (h.obj i o q).keep (ext_new hp) fun w hw => by rw [upd_ne (ne_of_none hw hp)]; exact hw, h.inj⟩
def put (r : Nat → Addr) (n : Nat) (p : Addr) : Nat → Addr := fun i => if i = n then p else r i
theorem put_at {r : Nat → Addr} {n : Nat} {p : Addr} : put r n p n = p := if_pos rfl
theorem put_ne {r : Nat → Addr} {n i : Nat} {p : Addr} (h : i ≠ n) : put r n p i = r i := if_neg h
theorem ext_lst {H : Hp} {r : Nat → Addr} {n : Nat} {p : Addr} {u : HO} (hp : H p = none) : Ext H r n (upd H p u) (put r n p) (n + 1) :=
  ⟨fun a vs h => by rw [upd_ne (ne_of_none h hp)]; exact h, fun a h => by rw [upd_ne (ne_of_none h hp)]; exact h, Nat.le_succ _, fun i hi => put_ne (Nat.ne_of_lt hi)⟩
theorem SR.newLst {K : PySem.W.Frag} {H : Hp} {r : Nat → Addr} {S : Sto} {p : Addr} {xs : List A} {vs : List V} (h : SR K H r S) (hp : H p = none) (q : RAs H r S.length xs vs) :
    SR K (upd H p (.lst vs)) (put r S.length p) (S ++ [.lst xs]) := by
  have len : (S ++ [SO.lst xs]).length = S.length + 1 := by simp
  have at_ : ∀ {i o}, (S ++ [SO.lst xs])[i]? = some o → (i < S.length ∧ S[i]? = some o) ∨ (i = S.length ∧ o = .lst xs) := fun {i o} hq => by
    by_cases hi : i < S.length
    · rw [List.getElem?_append_left hi] at hq
      exact .inl ⟨hi, hq⟩
    · have hl := getElem_lt hq
      rw [len] at hl
      have e : i = S.length := by omega
      subst e
      rw [List.getElem?_append_right (Nat.le_refl _)] at hq
      simp at hq
      exact .inr ⟨rfl, hq.symm⟩
  refine ⟨fun i o hq => ?_, fun i j xs' ys' h1 h2 hr => ?_⟩
  · rw [len]
    rcases at_ hq with ⟨hi, ho⟩ | ⟨rfl, rfl⟩
    · rw [put_ne (Nat.ne_of_lt hi)]
      exact (h.obj i o ho).keep (ext_lst hp) fun w hw => by rw [upd_ne (ne_of_none hw hp)]; exact hw
    · rw [put_at]
      exact ⟨vs, upd_same, q.ext (ext_lst hp)⟩
  · rcases at_ h1 with ⟨hi, ho⟩ | ⟨rfl, _⟩
    · rcases at_ h2 with ⟨hj, ho'⟩ | ⟨rfl, _⟩
      · rw [put_ne (Nat.ne_of_lt hi), put_ne (Nat.ne_of_lt hj)] at hr
        exact h.inj i j _ _ ho ho' hr
      · rw [put_ne (Nat.ne_of_lt hi), put_at] at hr
        obtain ⟨vs', e, _⟩ := h.obj i _ ho
        exact absurd hr (ne_of_none e hp)
    · rcases at_ h2 with ⟨hj, ho'⟩ | ⟨rfl, _⟩
      · rw [put_ne (Nat.ne_of_lt hj), put_at] at hr
        obtain ⟨vs', e, _⟩ := h.obj j _ ho'
        exact absurd hr.symm (ne_of_none e hp)
      · rfl
theorem ext_upd {H : Hp} {r : Nat → Addr} {n : Nat} {p : Addr} {us : List V} {u : HO} (hp : H p = some (.lst us)) : Ext H r n (upd H p u) r n :=
  ⟨fun a vs h => by rw [upd_ne (ne_of h hp (by intro z; cases z))]; exact h, fun a h => by rw [upd_ne (ne_of h hp (by intro z; cases z))]; exact h, Nat.le_refl _, fun _ _ => rfl⟩
theorem SR.write {K : PySem.W.Frag} {H : Hp} {r : Nat → Addr} {S : Sto} {k : Nat} {xs ys : List A} {us vs : List V} (h : SR K H r S) (hk : S[k]? = some (.lst xs)) (hp : H (r k) = some (.lst us)) (q : RAs H r S.length ys vs) :
    SR K (upd H (r k) (.lst vs)) r (S.set k (.lst ys)) := by
  have hkl := getElem_lt hk
  have at_ : ∀ {i o}, (S.set k (SO.lst ys))[i]? = some o → (i ≠ k ∧ S[i]? = some o) ∨ (i = k ∧ o = .lst ys) := fun {i o} hq => by
    by_cases hi : k = i
    · subst hi
      rw [List.getElem?_set_self hkl] at hq
      cases hq
      exact .inr ⟨rfl, rfl⟩
    · rw [List.getElem?_set_ne hi] at hq
      exact .inl ⟨fun e => hi e.symm, hq⟩
  refine ⟨fun i o hq => ?_, fun i j xs' ys' h1 h2 hr => ?_⟩
  · rw [List.length_set]
    rcases at_ hq with ⟨hi, ho⟩ | ⟨rfl, rfl⟩
    · have x := h.obj i o ho
      cases o with
      | lst zs =>
        obtain ⟨ws, h1, h2⟩ := x
        exact ⟨ws, by rw [upd_ne (fun e => hi (h.inj i k _ _ ho hk e))]; exact h1, h2.ext (ext_upd hp)⟩
      | fz zs =>
        obtain ⟨ws, h1, h2⟩ := x
        refine ⟨ws, ?_, h2.ext (ext_upd hp)⟩
        rcases h1 with ⟨o, h1⟩ | h1
        · exact .inl ⟨o, by rw [upd_ne (ne_of h1 hp (by intro z; cases z))]; exact h1⟩
        · exact .inr h1
    · exact ⟨vs, upd_same, q.ext (ext_upd hp)⟩
  · rcases at_ h1 with ⟨hi, ho⟩ | ⟨rfl, _⟩
    · rcases at_ h2 with ⟨hj, ho'⟩ | ⟨rfl, _⟩
      · exact h.inj i j _ _ ho ho' hr
      · exact h.inj i j _ _ ho hk hr
    · rcases at_ h2 with ⟨hj, ho'⟩ | ⟨rfl, _⟩
      · exact h.inj i j _ _ hk ho' hr
      · rfl
def SndE (K : PySem.W.Frag) (t : TE) (f : FE) : Prop :=
  ∀ (e : En) (S : Sto) (v : A) (S' : Sto), f e S = some (v, S') → ∀ (H : Hp) (r : Nat → Addr) (sg : St) (Q : VK), SR K H r S → RE H r S.length e sg →
    (∀ H' r' v', Ext H r S.length H' r' S'.length → SR K H' r' S' → RA H' r' S'.length v v' → Q v' H') → t sg H Q
def SndT (K : PySem.W.Frag) (t : TT) (f : FT) : Prop :=
  ∀ (e : En) (S : Sto) (b : Bool) (S' : Sto), f e S = some (b, S') → ∀ (H : Hp) (r : Nat → Addr) (sg : St) (Q : Bool → Hp → Prop), SR K H r S → RE H r S.length e sg →
    (∀ H' r', Ext H r S.length H' r' S'.length → SR K H' r' S' → Q b H') → t sg H Q
def SndA (K : PySem.W.Frag) (t : TA) (f : FA) : Prop :=
  ∀ (e : En) (S : Sto) (vs : List A) (S' : Sto), f e S = some (vs, S') → ∀ (H : Hp) (r : Nat → Addr) (sg : St) (Q : List V → Hp → Prop), SR K H r S → RE H r S.length e sg →
    (∀ H' r' vs', Ext H r S.length H' r' S'.length → SR K H' r' S' → RAs H' r' S'.length vs vs' → Q vs' H') → t sg H Q
def PostS (K : PySem.W.Frag) (H : Hp) (r : Nat → Addr) (n : Nat) (S' : Sto) (D : Ends) : Fl → Prop
  | .nx e => ∀ H' r' sg', Ext H r n H' r' S'.length → SR K H' r' S' → RE H' r' S'.length e sg' → D.nx sg' H'
  | .rt v => ∀ H' r' v', Ext H r n H' r' S'.length → SR K H' r' S' → RA H' r' S'.length v v' → D.rt v' H'
  | .bk e => ∀ H' r' sg', Ext H r n H' r' S'.length → SR K H' r' S' → RE H' r' S'.length e sg' → D.bk sg' H'
  | .ct e => ∀ H' r' sg', Ext H r n H' r' S'.length → SR K H' r' S' → RE H' r' S'.length e sg' → D.ct sg' H'
def SndS (K : PySem.W.Frag) (t : TS) (f : FS) : Prop :=
  ∀ (e : En) (S : Sto) (fl : Fl) (S' : Sto), f e S = some (fl, S') → ∀ (H : Hp) (r : Nat → Addr) (sg : St) (D : Ends), SR K H r S → RE H r S.length e sg →
    PostS K H r S.length S' D fl → t D sg H
abbrev FO := A → A → Sto → Option (A × Sto)
def SndO (K : PySem.W.Frag) (t : R2) (g : FO) : Prop :=
  ∀ (x y : A) (S : Sto) (z : A) (S' : Sto), g x y S = some (z, S') → ∀ (H : Hp) (r : Nat → Addr) (x' y' : V) (Q : VK), SR K H r S → RA H r S.length x x' → RA H r S.length y y' →
    (∀ H' r' v', Ext H r S.length H' r' S'.length → SR K H' r' S' → RA H' r' S'.length z v' → Q v' H') → t x' y' H Q
def SndC (K : PySem.W.Frag) (t : List V → Hp → VK → Prop) (g : FN) : Prop :=
  ∀ (xs : List A) (S : Sto) (z : A) (S' : Sto), g xs S = some (z, S') → ∀ (H : Hp) (r : Nat → Addr) (vs : List V) (Q : VK), SR K H r S → RAs H r S.length xs vs →
    (∀ H' r' v', Ext H r S.length H' r' S'.length → SR K H' r' S' → RA H' r' S'.length z v' → Q v' H') → t vs H Q
def cE (K : PySem.W.Frag) (f : FE) : TE := fun sg H Q => ∃ e S v S' r, f e S = some (v, S') ∧ SR K H r S ∧ RE H r S.length e sg ∧ ∀ H' r' v', Ext H r S.length H' r' S'.length → SR K H' r' S' → RA H' r' S'.length v v' → Q v' H'
def cT (K : PySem.W.Frag) (f : FT) : TT := fun sg H Q => ∃ e S b S' r, f e S = some (b, S') ∧ SR K H r S ∧ RE H r S.length e sg ∧ ∀ H' r', Ext H r S.length H' r' S'.length → SR K H' r' S' → Q b H'
def cA (K : PySem.W.Frag) (f : FA) : TA := fun sg H Q => ∃ e S vs S' r, f e S = some (vs, S') ∧ SR K H r S ∧ RE H r S.length e sg ∧ ∀ H' r' vs', Ext H r S.length H' r' S'.length → SR K H' r' S' → RAs H' r' S'.length vs vs' → Q vs' H'
def cS (K : PySem.W.Frag) (f : FS) : TS := fun D sg H => ∃ e S fl S' r, f e S = some (fl, S') ∧ SR K H r S ∧ RE H r S.length e sg ∧ PostS K H r S.length S' D fl
theorem snd_cE {K : PySem.W.Frag} {f : FE} : SndE K (cE K f) f := fun e S v S' h H r sg Q hS hE k => ⟨e, S, v, S', r, h, hS, hE, k⟩
theorem snd_cT {K : PySem.W.Frag} {f : FT} : SndT K (cT K f) f := fun e S v S' h H r sg Q hS hE k => ⟨e, S, v, S', r, h, hS, hE, k⟩
theorem snd_cA {K : PySem.W.Frag} {f : FA} : SndA K (cA K f) f := fun e S v S' h H r sg Q hS hE k => ⟨e, S, v, S', r, h, hS, hE, k⟩
theorem snd_cS {K : PySem.W.Frag} {f : FS} : SndS K (cS K f) f := fun e S v S' h H r sg D hS hE k => ⟨e, S, v, S', r, h, hS, hE, k⟩
def SE (X : Cx) (e : Expr) (f : FE) : Prop := ∃ t, PE X e t ∧ SndE X.K t f
def ST (X : Cx) (e : Expr) (f : FT) : Prop := ∃ t, PT X e t ∧ SndT X.K t f
def SW (X : Cx) (e : Expr) (f : FT) : Prop := ∃ t, PW X e t ∧ SndT X.K t f
def SA (X : Cx) (es : List Expr) (f : FA) : Prop := ∃ t, PA X es t ∧ SndA X.K t f
def SS (X : Cx) (st : Stmt) (f : FS) : Prop := ∃ t, PS X st t ∧ SndS X.K t f
def SSs (X : Cx) (st : List Stmt) (f : FS) : Prop := ∃ t, PSs X st t ∧ SndS X.K t f
section
variable {X : Cx} {e : Expr} {es : List Expr} {st : Stmt} {sts : List Stmt}
theorem SE.p {f : FE} : SE X e f → PE X e (cE X.K f) := fun ⟨t, h, s⟩ pins s0 sg H Q I ⟨e, S, v, S', r, h1, h2, h3, h4⟩ => h pins s0 sg H Q I (s e S v S' h1 H r sg Q h2 h3 h4)
theorem ST.p {f : FT} : ST X e f → PT X e (cT X.K f) := fun ⟨t, h, s⟩ pins s0 sg H Q I ⟨e, S, v, S', r, h1, h2, h3, h4⟩ => h pins s0 sg H Q I (s e S v S' h1 H r sg Q h2 h3 h4)
theorem SW.p {f : FT} : SW X e f → PW X e (cT X.K f) := fun ⟨t, h, s⟩ wh pins s0 sg H Q I ⟨e, S, v, S', r, h1, h2, h3, h4⟩ => h wh pins s0 sg H Q I (s e S v S' h1 H r sg Q h2 h3 h4)
theorem SA.p {f : FA} : SA X es f → PA X es (cA X.K f) := fun ⟨t, h, s⟩ pos pins s0 sg H Q I ⟨e, S, v, S', r, h1, h2, h3, h4⟩ => h pos pins s0 sg H Q I (s e S v S' h1 H r sg Q h2 h3 h4)
theorem SS.p {f : FS} : SS X st f → PS X st (cS X.K f) := fun ⟨t, h, s⟩ pins s0 sg H D I ⟨e, S, v, S', r, h1, h2, h3, h4⟩ => h pins s0 sg H D I (s e S v S' h1 H r sg D h2 h3 h4)
theorem SSs.p {f : FS} : SSs X sts f → PSs X sts (cS X.K f) := fun ⟨t, h, s⟩ pins s0 sg H D I ⟨e, S, v, S', r, h1, h2, h3, h4⟩ => h pins s0 sg H D I (s e S v S' h1 H r sg D h2 h3 h4)
theorem SE.s {f : FE} (_ : SE X e f) : SndE X.K (cE X.K f) f := snd_cE
theorem ST.s {f : FT} (_ : ST X e f) : SndT X.K (cT X.K f) f := snd_cT
theorem SW.s {f : FT} (_ : SW X e f) : SndT X.K (cT X.K f) f := snd_cT
theorem SA.s {f : FA} (_ : SA X es f) : SndA X.K (cA X.K f) f := snd_cA
theorem SS.s {f : FS} (_ : SS X st f) : SndS X.K (cS X.K f) f := snd_cS
theorem SSs.s {f : FS} (_ : SSs X sts f) : SndS X.K (cS X.K f) f := snd_cS
end
def fVar (i : Nat) : FE := fun e S => match e[i]? with | some (some a) => some (a, S) | _ => none
def fC (a : A) : FE := fun _ S => some (a, S)
theorem snd_var {K : PySem.W.Frag} (i : Nat) : SndE K (tVar i) (fVar i) := by
  intro e S v S' h H r sg Q hS hE k
  unfold fVar at h
  split at h
  · rename_i a q
    cases h
    obtain ⟨w, h1, h2⟩ := hE.get i _ q
    exact ⟨w, h1, k H r w (Ext.refl _ _ _) hS h2⟩
  · cases h
theorem snd_c {K : PySem.W.Frag} {a : A} {v : V} (q : ∀ H r n, RA H r n a v) : SndE K (tC v) (fC a) := by
  intro e S w S' h H r sg Q hS hE k
  cases h
  exact k H r v (Ext.refl _ _ _) hS (q _ _ _)
theorem snd_two {K : PySem.W.Frag} {fa fb : FE} (ha : SndE K ta fa) (hb : SndE K tb fb) {e : En} {S S1 S2 : Sto} {x y : A} (h1 : fa e S = some (x, S1)) (h2 : fb e S1 = some (y, S2))
    {H : Hp} {r : Nat → Addr} {sg : St} {R : V → V → Hp → Prop} (hS : SR K H r S) (hE : RE H r S.length e sg)
    (k : ∀ H' r' x' y', Ext H r S.length H' r' S2.length → SR K H' r' S2 → RA H' r' S2.length x x' → RA H' r' S2.length y y' → R x' y' H') : ta sg H fun u H1 => tb sg H1 fun w H2 => R u w H2 := by
  refine ha _ _ _ _ h1 _ _ _ _ hS hE fun H1 r1 x' e1 s1 q1 => ?_
  refine hb _ _ _ _ h2 _ _ _ _ s1 (hE.ext e1) fun H2 r2 y' e2 s2 q2 => ?_
  exact k H2 r2 x' y' (e1.trans e2) s2 (q1.ext e2) q2
def fOp (g : FO) (fa fb : FE) : FE := fun e S => match fa e S with
  | some (x, S1) => (match fb e S1 with | some (y, S2) => g x y S2 | none => none)
  | none => none
theorem fOp_some {g : FO} {fa fb : FE} {e : En} {S S' : Sto} {v : A} (h : fOp g fa fb e S = some (v, S')) : ∃ x S1 y S2, fa e S = some (x, S1) ∧ fb e S1 = some (y, S2) ∧ g x y S2 = some (v, S') := by
  unfold fOp at h
  split at h
  · rename_i x S1 q
    split at h
    · rename_i y S2 q2
      exact ⟨x, S1, y, S2, q, q2, h⟩
    · cases h
  · cases h
theorem snd_op {K : PySem.W.Frag} {t : R2} {g : FO} {fa fb : FE} (ho : SndO K t g) (ha : SndE K ta fa) (hb : SndE K tb fb) : SndE K (tOp t ta tb) (fOp g fa fb) := by
  intro e S v S' h H r sg Q hS hE k
  obtain ⟨x, S1, y, S2, h1, h2, h3⟩ := fOp_some h
  refine snd_two ha hb h1 h2 hS hE fun H' r' x' y' e1 s1 q1 q2 => ?_
  exact ho _ _ _ _ _ h3 _ _ _ _ _ s1 q1 q2 fun H3 r3 v' e3 s3 q3 => k H3 r3 v' (e1.trans e3) s3 q3
section
variable {X : Cx} {a b c : Expr} {fa fb fc : FE} {pos : Pos}
theorem se_var (i : Nat) {x : Str} (hN : X.N[i]? = some x := by rfl) (hv : Vis X.env.scope x := by first | exact Or.inl rfl | exact Or.inr (Or.inl rfl) | exact Or.inr (Or.inr rfl)) (hd : (x == ("__debug__" : Str)) = false := by decide)
    (hcd : (x == ("__classdict__" : Str)) = false := by decide) : SE X (.Name x pos) (fVar i) := ⟨_, pe_var hN hv hd hcd, snd_var i⟩
theorem se_int {i : Int} {j} : SE X (.Constant (.int i) j pos) (fC (.int i)) := ⟨_, pe_int, snd_c fun _ _ _ => .int i⟩
theorem se_bl {i : Bool} {j} : SE X (.Constant (.bool i) j pos) (fC (.bl i)) := ⟨_, pe_bl, snd_c fun _ _ _ => .bl i⟩
theorem se_non {j} : SE X (.Constant .none j pos) (fC .non) := ⟨_, pe_non, snd_c fun _ _ _ => .non⟩
theorem se_str {i : Str} {j} : SE X (.Constant (.str i) j pos) (fC (.str i)) := ⟨_, pe_str, snd_c fun _ _ _ => .str i⟩
theorem se_op {op : Operator} {t : R2} {g : FO} (ho : OpR X (binaryOp op) t) (hs : SndO X.K t g) (ha : SE X a fa) (hb : SE X b fb) : SE X (.BinOp a op b pos) (fOp g fa fb) := ⟨_, pe_op ho ha.p hb.p, snd_op hs ha.s hb.s⟩
theorem se_cmp {op : CmpOp} {t : R2} {g : FO} (ho : OpR X (compareOp op) t) (hs : SndO X.K t g) (ha : SE X a fa) (hb : SE X b fb) (hm : behindInMarks op b = false := by first | exact nomark _ | rfl | (with_unfolding_all rfl)) : SE X (.Compare a [op] [b] pos) (fOp g fa fb) :=
  ⟨_, pe_cmpR ho ha.p hb.p hm, snd_op hs ha.s hb.s⟩
theorem se_ix {t : R2} {g : FO} (hr : IxR X t) (hs : SndO X.K t g) (ha : SE X a fa) (hb : SE X b fb) (hp : PlainIx b := by exact fun _ _ => rfl) : SE X (.Subscript a b pos) (fOp g fa fb) := ⟨_, pe_ix hr ha.p hb.p hp, snd_op hs ha.s hb.s⟩
end
def gI (C : Int → Int → Bool) (f : Int → Int → A) : FO := fun x y S => match x, y with
  | .int i, .int j => if C i j = true then some (f i j, S) else none
  | _, _ => none
theorem gI_some {C : Int → Int → Bool} {f : Int → Int → A} {x y z : A} {S S' : Sto} (h : gI C f x y S = some (z, S')) : ∃ i j, x = .int i ∧ y = .int j ∧ C i j = true ∧ z = f i j ∧ S' = S := by
  unfold gI at h
  split at h
  · split at h
    · rename_i hc
      cases h
      exact ⟨_, _, rfl, rfl, hc, rfl, rfl⟩
    · cases h
  · cases h
theorem RA.int_eq {H : Hp} {r : Nat → Addr} {n : Nat} {i : Int} {v : V} (h : RA H r n (.int i) v) : v = .int i := by cases h; rfl
theorem RA.bl_eq {H : Hp} {r : Nat → Addr} {n : Nat} {i : Bool} {v : V} (h : RA H r n (.bl i) v) : v = .bl i := by cases h; rfl
theorem snd_rI {K : PySem.W.Frag} {C' : Int → Int → Prop} {C : Int → Int → Bool} {f : Int → Int → A} {f' : Int → Int → V} (hC : ∀ i j, C i j = true → C' i j) (hf : ∀ i j H r n, RA H r n (f i j) (f' i j)) : SndO K (rI C' f') (gI C f) := by
  intro x y S z S' h H r x' y' Q hS qx qy k
  obtain ⟨i, j, rfl, rfl, hc, rfl, rfl⟩ := gI_some h
  cases qx.int_eq
  cases qy.int_eq
  exact ⟨i, j, rfl, rfl, hC i j hc, k H r _ (Ext.refl _ _ _) hS (hf _ _ _ _ _)⟩
theorem snd_rI0 {K : PySem.W.Frag} {f : Int → Int → A} {f' : Int → Int → V} (hf : ∀ i j H r n, RA H r n (f i j) (f' i j)) : SndO K (rI0 f') (gI (fun _ _ => true) f) := by
  intro x y S z S' h H r x' y' Q hS qx qy k
  obtain ⟨i, j, rfl, rfl, hc, rfl, rfl⟩ := gI_some h
  cases qx.int_eq
  cases qy.int_eq
  exact ⟨i, j, rfl, rfl, k H r _ (Ext.refl _ _ _) hS (hf _ _ _ _ _)⟩
def mulOk (i j : Int) : Bool := !((decide (Builtin.Int.intBits i > shortFactorBits) && decide (Builtin.Int.intBits j > shortFactorBits) && Builtin.Int.intTooBig (Builtin.Int.intBits i + Builtin.Int.intBits j)))
def divOk (i j : Int) : Bool := decide (0 < j) && !(Builtin.divisionGoesByPylong i j)
def powOk (i j : Int) : Bool := decide (0 ≤ j) && decide (j ≤ 1000000) && decide (i.natAbs < 2 ^ 64)
section
variable {X : Cx}
theorem opm_mul : OpR X (binaryOp .Mult) (rI (fun i j => mulOk i j = true) fun i j => .int (i * j)) := opI fun i j _ _ _ _ _ hc q => PyProof.Rows.mul_int q (by
  unfold IntMulOk
  unfold mulOk at hc
  intro z
  rw [z] at hc
  cases hc)
theorem opm_div : OpR X (binaryOp .FloorDiv) (rI (fun i j => divOk i j = true) fun i j => .int (i / j)) := opI fun i j _ _ _ _ _ hc q => by
  unfold divOk at hc
  rw [Bool.and_eq_true, decide_eq_true_eq, Bool.not_eq_true'] at hc
  have h1 : (0 : Int) < j := hc.1
  exact PyProof.Rows.floordiv_int (by omega) (by rw [Int.fdiv_eq_ediv_of_nonneg i (by omega)]; exact q) (.inl hc.2)
end
def gAdd : FO := gI (fun _ _ => true) fun i j => .int (i + j)
def gSub' : FO := gI (fun _ _ => true) fun i j => .int (i - j)
def gMul : FO := gI mulOk fun i j => .int (i * j)
def gDiv : FO := gI divOk fun i j => .int (i / j)
def gMod : FO := gI (fun _ j => decide (0 < j)) fun i j => .int (i % j)
def gPow : FO := gI powOk fun i j => .int (i ^ j.toNat)
def gLt : FO := gI (fun _ _ => true) fun i j => .bl (decide (i < j))
def gLe : FO := gI (fun _ _ => true) fun i j => .bl (decide (i ≤ j))
def gGt : FO := gI (fun _ _ => true) fun i j => .bl (decide (j < i))
def gGe : FO := gI (fun _ _ => true) fun i j => .bl (decide (j ≤ i))
section
variable {X : Cx} {a b : Expr} {fa fb : FE} {pos : Pos}
theorem se_add (ha : SE X a fa) (hb : SE X b fb) : SE X (.BinOp a .Add b pos) (fOp gAdd fa fb) := se_op op_add (snd_rI0 fun _ _ _ _ _ => .int _) ha hb
theorem se_sub (ha : SE X a fa) (hb : SE X b fb) : SE X (.BinOp a .Sub b pos) (fOp gSub' fa fb) := se_op op_sub (snd_rI0 fun _ _ _ _ _ => .int _) ha hb
theorem se_mul (ha : SE X a fa) (hb : SE X b fb) : SE X (.BinOp a .Mult b pos) (fOp gMul fa fb) := se_op opm_mul (snd_rI (fun _ _ h => h) fun _ _ _ _ _ => .int _) ha hb
theorem se_div (ha : SE X a fa) (hb : SE X b fb) : SE X (.BinOp a .FloorDiv b pos) (fOp gDiv fa fb) := se_op opm_div (snd_rI (fun _ _ h => h) fun _ _ _ _ _ => .int _) ha hb
theorem se_mod (ha : SE X a fa) (hb : SE X b fb) : SE X (.BinOp a .Mod b pos) (fOp gMod fa fb) := se_op op_mod (snd_rI (fun _ _ h => of_decide_eq_true h) fun _ _ _ _ _ => .int _) ha hb
theorem se_pow (ha : SE X a fa) (hb : SE X b fb) : SE X (.BinOp a .Pow b pos) (fOp gPow fa fb) := se_op op_pow (snd_rI (fun _ _ h => by
  unfold powOk at h
  rw [Bool.and_eq_true, Bool.and_eq_true, decide_eq_true_eq, decide_eq_true_eq, decide_eq_true_eq] at h
  exact ⟨h.1.1, h.1.2, h.2⟩) fun _ _ _ _ _ => .int _) ha hb
theorem se_lt (ha : SE X a fa) (hb : SE X b fb) : SE X (.Compare a [.Lt] [b] pos) (fOp gLt fa fb) := se_cmp op_lt (snd_rI0 fun _ _ _ _ _ => .bl _) ha hb
end
end F
namespace F
open PySem L2
def fB (f : FE) : FT := fun e S => match f e S with | some (.bl b, S') => some (b, S') | _ => none
theorem fB_some {f : FE} {e : En} {S S' : Sto} {b : Bool} (h : fB f e S = some (b, S')) : f e S = some (.bl b, S') := by
  unfold fB at h
  split at h
  · rename_i q
    cases h
    exact q
  · cases h
theorem snd_tB {K : PySem.W.Frag} {t : TE} {f : FE} (h : SndE K t f) : SndT K (tB t) (fB f) := by
  intro e S b S' q H r sg Q hS hE k
  refine h _ _ _ _ (fB_some q) _ _ _ _ hS hE fun H' r' v' e' s' qv => ?_
  exact ⟨b, qv.bl_eq, k H' r' e' s'⟩
theorem snd_tTest {K : PySem.W.Frag} {t : TE} {f : FE} (h : SndE K t f) : SndT K (tTest t) (fB f) := by
  intro e S b S' q H r sg Q hS hE k
  refine h _ _ _ _ (fB_some q) _ _ _ _ hS hE fun H' r' v' e' s' qv => ?_
  exact ⟨b, qv.bl_eq, k H' r' e' s'⟩
def fAndT (f g : FT) : FT := fun e S => match f e S with | some (true, S1) => g e S1 | some (false, S1) => some (false, S1) | none => none
def fOrT (f g : FT) : FT := fun e S => match f e S with | some (true, S1) => some (true, S1) | some (false, S1) => g e S1 | none => none
def fNotT (f : FT) : FT := fun e S => match f e S with | some (b, S1) => some (!b, S1) | none => none
theorem snd_and {K : PySem.W.Frag} {t u : TT} {f g : FT} (h1 : SndT K t f) (h2 : SndT K u g) : SndT K (tAnd t u) (fAndT f g) := by
  intro e S b S' q H r sg Q hS hE k
  unfold fAndT at q
  split at q
  · rename_i S1 q1
    refine h1 _ _ _ _ q1 _ _ _ _ hS hE fun H1 r1 e1 s1 => ?_
    rw [if_pos rfl]
    exact h2 _ _ _ _ q _ _ _ _ s1 (hE.ext e1) fun H2 r2 e2 s2 => k H2 r2 (e1.trans e2) s2
  · rename_i S1 q1
    cases q
    refine h1 _ _ _ _ q1 _ _ _ _ hS hE fun H1 r1 e1 s1 => ?_
    rw [if_neg Bool.false_ne_true]
    exact k H1 r1 e1 s1
  · cases q
theorem snd_or {K : PySem.W.Frag} {t u : TT} {f g : FT} (h1 : SndT K t f) (h2 : SndT K u g) : SndT K (tOr t u) (fOrT f g) := by
  intro e S b S' q H r sg Q hS hE k
  unfold fOrT at q
  split at q
  · rename_i S1 q1
    cases q
    refine h1 _ _ _ _ q1 _ _ _ _ hS hE fun H1 r1 e1 s1 => ?_
    rw [if_pos rfl]
    exact k H1 r1 e1 s1
  · rename_i S1 q1
    refine h1 _ _ _ _ q1 _ _ _ _ hS hE fun H1 r1 e1 s1 => ?_
    rw [if_neg Bool.false_ne_true]
    exact h2 _ _ _ _ q _ _ _ _ s1 (hE.ext e1) fun H2 r2 e2 s2 => k H2 r2 (e1.trans e2) s2
  · cases q
theorem snd_not {K : PySem.W.Frag} {t : TT} {f : FT} (h1 : SndT K t f) : SndT K (tNot t) (fNotT f) := by
  intro e S b S' q H r sg Q hS hE k
  unfold fNotT at q
  split at q
  · rename_i c S1 q1
    cases q
    exact h1 _ _ _ _ q1 _ _ _ _ hS hE fun H1 r1 e1 s1 => k H1 r1 e1 s1
  · cases q
def fAndV (f g : FE) : FE := fun e S => match f e S with | some (.bl true, S1) => g e S1 | some (.bl false, S1) => some (.bl false, S1) | _ => none
def fOrV (f g : FE) : FE := fun e S => match f e S with | some (.bl true, S1) => some (.bl true, S1) | some (.bl false, S1) => g e S1 | _ => none
def fNotV (f : FE) : FE := fun e S => match f e S with | some (.bl b, S1) => some (.bl (!b), S1) | _ => none
theorem snd_andV {K : PySem.W.Frag} {t u : TE} {f g : FE} (h1 : SndE K t f) (h2 : SndE K u g) : SndE K (tAndV t u) (fAndV f g) := by
  intro e S b S' q H r sg Q hS hE k
  unfold fAndV at q
  split at q
  · rename_i S1 q1
    refine h1 _ _ _ _ q1 _ _ _ _ hS hE fun H1 r1 v e1 s1 qv => ⟨true, qv.bl_eq, ?_⟩
    rw [if_pos rfl]
    exact h2 _ _ _ _ q _ _ _ _ s1 (hE.ext e1) fun H2 r2 v' e2 s2 => k H2 r2 v' (e1.trans e2) s2
  · rename_i S1 q1
    cases q
    refine h1 _ _ _ _ q1 _ _ _ _ hS hE fun H1 r1 v e1 s1 qv => ⟨false, qv.bl_eq, ?_⟩
    rw [if_neg Bool.false_ne_true]
    exact k H1 r1 _ e1 s1 (.bl _)
  · cases q
theorem snd_notV {K : PySem.W.Frag} {t : TE} {f : FE} (h1 : SndE K t f) : SndE K (tNotV t) (fNotV f) := by
  intro e S b S' q H r sg Q hS hE k
  unfold fNotV at q
  split at q
  · rename_i c S1 q1
    cases q
    exact h1 _ _ _ _ q1 _ _ _ _ hS hE fun H1 r1 v e1 s1 qv => ⟨c, qv.bl_eq, k H1 r1 _ e1 s1 (.bl _)⟩
  · cases q
def fIfE (c : FT) (f g : FE) : FE := fun e S => match c e S with | some (true, S1) => f e S1 | some (false, S1) => g e S1 | none => none
section
variable {X : Cx} {a b c : Expr} {ta tb : TE} {fa fb : FE} {tA tB' : TT} {fA fB' : FT} {rest : List Expr} {pos : Pos}
theorem st_val (h : SE X a fa) (he : ∀ whole, isTrue a X.env whole = (do let v ← whole; standAt a.pos; holding [v] (truthy v)) := by intro _; rfl) : ST X a (fB fa) := ⟨_, pt_val h.p he, snd_tB h.s⟩
theorem sw_and1 (ha : ST X a fA) : SW X (.BoolOp .And [a] pos) fA := ⟨_, pw_and1 ha.p, ha.s⟩
theorem sw_or1 (ha : ST X a fA) : SW X (.BoolOp .Or [a] pos) fA := ⟨_, pw_or1 ha.p, ha.s⟩
theorem sw_and (ha : ST X a fA) (hb : SW X (.BoolOp .And (b :: rest) pos) fB') : SW X (.BoolOp .And (a :: b :: rest) pos) (fAndT fA fB') := ⟨_, pw_and ha.p hb.p, snd_and ha.s hb.s⟩
theorem sw_or (ha : ST X a fA) (hb : SW X (.BoolOp .Or (b :: rest) pos) fB') : SW X (.BoolOp .Or (a :: b :: rest) pos) (fOrT fA fB') := ⟨_, pw_or ha.p hb.p, snd_or ha.s hb.s⟩
theorem SW.st (h : SW X a fA) : ST X a fA := ⟨_, h.p.pt, h.s⟩
theorem st_not (ha : ST X a fA) : ST X (.UnaryOp .Not a pos) (fNotT fA) := ⟨_, pt_not ha.p, snd_not ha.s⟩
theorem se_one {op} (ha : SE X a fa) : SE X (.BoolOp op [a] pos) fa := ⟨_, pe_one ha.p, ha.s⟩
theorem se_and (ha : SE X a fa) (hb : SE X (.BoolOp .And (b :: rest) pos) fb) : SE X (.BoolOp .And (a :: b :: rest) pos) (fAndV fa fb) := ⟨_, pe_and ha.p hb.p, snd_andV ha.s hb.s⟩
theorem se_not (ha : SE X a fa) : SE X (.UnaryOp .Not a pos) (fNotV fa) := ⟨_, pe_not ha.p, snd_notV ha.s⟩
end
def fNil : FA := fun _ S => some ([], S)
def fCons (f : FE) (g : FA) : FA := fun e S => match f e S with
  | some (x, S1) => (match g e S1 with | some (xs, S2) => some (x :: xs, S2) | none => none)
  | none => none
theorem snd_nil {K : PySem.W.Frag} : SndA K tNil fNil := by
  intro e S vs S' h H r sg Q hS hE k
  cases h
  exact k H r [] (Ext.refl _ _ _) hS .nil
theorem snd_cons {K : PySem.W.Frag} {t : TE} {f : FE} {u : TA} {g : FA} (h1 : SndE K t f) (h2 : SndA K u g) : SndA K (tCons t u) (fCons f g) := by
  intro e S vs S' h H r sg Q hS hE k
  unfold fCons at h
  split at h
  · rename_i x S1 q1
    split at h
    · rename_i xs S2 q2
      cases h
      refine h1 _ _ _ _ q1 _ _ _ _ hS hE fun H1 r1 x' e1 s1 qx => ?_
      refine h2 _ _ _ _ q2 _ _ _ _ s1 (hE.ext e1) fun H2 r2 xs' e2 s2 qxs => ?_
      exact k H2 r2 _ (e1.trans e2) s2 (.cons (qx.ext e2) qxs)
    · cases h
  · cases h
def fTup (f : FA) : FE := fun e S => match f e S with | some (xs, S1) => if xs.length ≤ sizeLine then some (.tup xs, S1) else none | none => none
def fLst (f : FA) : FE := fun e S => match f e S with | some (xs, S1) => if xs.length ≤ sizeLine then some (.ref S1.length, S1 ++ [.lst xs]) else none | none => none
theorem snd_tup {K : PySem.W.Frag} {t : TA} {f : FA} (h : SndA K t f) : SndE K (tTup t) (fTup f) := by
  intro e S v S' q H r sg Q hS hE k
  unfold fTup at q
  split at q
  · rename_i xs S1 q1
    split at q
    · rename_i hl
      cases q
      refine h _ _ _ _ q1 _ _ _ _ hS hE fun H1 r1 xs' e1 s1 qx => ⟨by rw [← qx.length]; exact hl, fun p hp => ?_⟩
      exact k _ r1 _ (e1.trans (ext_new hp)) (s1.new hp) (.tup upd_same (qx.ext (ext_new hp)))
    · cases q
  · cases q
theorem snd_lst {K : PySem.W.Frag} {t : TA} {f : FA} (h : SndA K t f) : SndE K (tLst t) (fLst f) := by
  intro e S v S' q H r sg Q hS hE k
  unfold fLst at q
  split at q
  · rename_i xs S1 q1
    split at q
    · rename_i hl
      cases q
      refine h _ _ _ _ q1 _ _ _ _ hS hE fun H1 r1 xs' e1 s1 qx => ⟨by rw [← qx.length]; exact hl, fun p hp => ?_⟩
      have len : (S1 ++ [SO.lst xs]).length = S1.length + 1 := by simp
      refine k _ (put r1 S1.length p) _ (e1.trans (by rw [len]; exact ext_lst hp)) (s1.newLst hp qx) ?_
      have z : RA (upd H1 p (.lst xs')) (put r1 S1.length p) (S1 ++ [SO.lst xs]).length (.ref S1.length) (.ref (put r1 S1.length p S1.length)) := .ref (by rw [len]; exact Nat.lt_succ_self _)
      rw [put_at] at z
      exact z
    · cases q
  · cases q
def fCall (g : FN) (f : FA) : FE := fun e S => match f e S with | some (xs, S1) => g xs S1 | none => none
theorem snd_cb {K : PySem.W.Frag} {r : List V → Hp → VK → Prop} {g : FN} {t : TA} {f : FA} (h0 : SndC K r g) (h : SndA K t f) : SndE K (tCB r t) (fCall g f) := by
  intro e S v S' q H r sg Q hS hE k
  unfold fCall at q
  split at q
  · rename_i xs S1 q1
    refine h _ _ _ _ q1 _ _ _ _ hS hE fun H1 r1 xs' e1 s1 qx => ?_
    exact h0 _ _ _ _ q _ _ _ _ s1 qx fun H2 r2 v' e2 s2 => k H2 r2 v' (e1.trans e2) s2
  · cases q
def spF (K : PySem.W.Frag) (np : Nat) (g : FN) : Sp := fun vs H Q _ => vs.length = np ∧ ∃ xs S z S' r, g xs S = some (z, S') ∧ SR K H r S ∧ RAs H r S.length xs vs ∧
  ∀ H' r' v', Ext H r S.length H' r' S'.length → SR K H' r' S' → RA H' r' S'.length z v' → Q v' H'
theorem snd_call {K : PySem.W.Frag} {np : Nat} {g : FN} {t : TA} {f : FA} (hn : ∀ xs S z, g xs S = some z → xs.length = np) (h : SndA K t f) : SndE K (tCall (spF K np g) [] E0 t) (fCall g f) := by
  intro e S v S' q H r sg Q hS hE k
  unfold fCall at q
  split at q
  · rename_i xs S1 q1
    refine h _ _ _ _ q1 _ _ _ _ hS hE fun H1 r1 xs' e1 s1 qx => ?_
    rw [List.append_nil]
    exact ⟨by rw [← qx.length]; exact hn _ _ _ q, xs, S1, v, S', r1, q, s1, qx, fun H2 r2 v' e2 s2 => k H2 r2 v' (e1.trans e2) s2⟩
  · cases q
section
variable {X : Cx} {e : Expr} {es : List Expr} {te : TE} {fe : FE} {t : TA} {fa : FA} {pos p : Pos} {x : Str}
theorem sa_nil : SA X [] fNil := ⟨_, pa_nil, snd_nil⟩
theorem sa_cons (ha : SE X e fe) (hr : SA X es fa) (hs : starEach (e :: es) X.env = (false, eval e X.env) :: starEach es X.env := by rfl) : SA X (e :: es) (fCons fe fa) := ⟨_, pa_cons ha.p hr.p hs, snd_cons ha.s hr.s⟩
theorem se_tup {x1} (h : SA X es fa) : SE X (.Tuple es x1 pos) (fTup fa) := ⟨_, pe_tup h.p, snd_tup h.s⟩
theorem se_lst (h : SA X es fa) : SE X (.List es pos) (fLst fa) := ⟨_, pe_lst h.p, snd_lst h.s⟩
theorem se_callB {id : String} {r : List V → Hp → VK → Prop} {g : FN} (hc : CallR X (.builtin id) r) (hs : SndC X.K r g) (hg : Gl X x) (hm : X.mg x = none) (hv : bootBuiltins x = some (.builtin id)) (ha : SA X (e :: es) fa) (hn : x ≠ "__name__" := by decide) (hdb : (x == ("__debug__" : Str)) = false := by decide)
    (he : starEach (e :: es) X.env = (false, eval e X.env) :: starEach es X.env := by rfl) (hpl : (backTo pos (starEach es X.env)).any (·.1) = false := by rfl) : SE X (.Call (.Name x p) (e :: es) [] pos) (fCall g fa) := ⟨_, pe_callB hc hg hm hv ha.p hn hdb he hpl, snd_cb hs ha.s⟩
theorem se_callTy {id : String} {r : List V → Hp → VK → Prop} {g : FN} (hc : CallR X (.type id) r) (hs : SndC X.K r g) (hg : Gl X x) (hm : X.mg x = none) (hv : bootBuiltins x = some (.type id)) (ha : SA X (e :: es) fa) (hn : x ≠ "__name__" := by decide) (hdb : (x == ("__debug__" : Str)) = false := by decide)
    (he : starEach (e :: es) X.env = (false, eval e X.env) :: starEach es X.env := by rfl) (hpl : (backTo pos (starEach es X.env)).any (·.1) = false := by rfl) : SE X (.Call (.Name x p) (e :: es) [] pos) (fCall g fa) := ⟨_, pe_callTy hc hg hm hv ha.p hn hdb he hpl, snd_cb hs ha.s⟩
end
structure FnF (P : Program) (w : World) (K : PySem.W.Frag) (mg : Str → Option Value) (base : Heap) (k : Nat) (x : Str) (ps : List Str) (g : FN) : Prop where
  ex : ∃ (f : Addr) (fd : FuncData), FnOk P w K mg base CX0 k f fd ps (spF K ps.length g) ∧ mg x = some (.ref f) ∧ PySem.W.keepIn K (.ref f) = true ∧ Binds K fd ps []
  ar : ∀ xs S z, g xs S = some z → xs.length = ps.length
section
variable {X : Cx} {e : Expr} {es : List Expr} {t : TA} {fa : FA} {pos p : Pos} {x : Str} {k : Nat} {ps : List Str} {g : FN}
theorem se_call (G : FnF X.prog X.w X.K X.mg X.base k x ps g) (hr : Room k X.A) (ha : SA X (e :: es) fa) (hg : Gl X x := by rfl) (hdb : (x == ("__debug__" : Str)) = false := by decide)
    (he : starEach (e :: es) X.env = (false, eval e X.env) :: starEach es X.env := by rfl) (hpl : (backTo pos (starEach es X.env)).any (·.1) = false := by rfl) : SE X (.Call (.Name x p) (e :: es) [] pos) (fCall g fa) := by
  obtain ⟨f, fd, G1, G2, G3, G4⟩ := G.ex
  exact ⟨_, pe_call G1 hr hg G2 G3 G4 .nil pass0 ha.p hdb he hpl, snd_call G.ar ha.s⟩
end
def fNext : FS := fun e S => some (.nx e, S)
def fSeq (f g : FS) : FS := fun e S => match f e S with
  | some (.nx e1, S1) => g e1 S1
  | some (.rt v, S1) => some (.rt v, S1)
  | some (.bk e1, S1) => some (.bk e1, S1)
  | some (.ct e1, S1) => some (.ct e1, S1)
  | none => none
theorem PostS.mono {K : PySem.W.Frag} {H H1 : Hp} {r r1 : Nat → Addr} {n n1 : Nat} {S' : Sto} {D : Ends} {fl : Fl} (e : Ext H r n H1 r1 n1) (h : PostS K H r n S' D fl) : PostS K H1 r1 n1 S' D fl := by
  cases fl with
  | nx e1 => exact fun H' r' sg' e' => h H' r' sg' (e.trans e')
  | rt v => exact fun H' r' sg' e' => h H' r' sg' (e.trans e')
  | bk e1 => exact fun H' r' sg' e' => h H' r' sg' (e.trans e')
  | ct e1 => exact fun H' r' sg' e' => h H' r' sg' (e.trans e')
theorem snd_next {K : PySem.W.Frag} : SndS K tNext fNext := by
  intro e S fl S' h H r sg D hS hE k
  cases h
  exact k H r sg (Ext.refl _ _ _) hS hE
theorem snd_seq {K : PySem.W.Frag} {t u : TS} {f g : FS} (h1 : SndS K t f) (h2 : SndS K u g) : SndS K (tSeq t u) (fSeq f g) := by
  intro e S fl S' h H r sg D hS hE k
  unfold fSeq at h
  split at h
  · rename_i e1 S1 q1
    refine h1 _ _ _ _ q1 _ _ _ { D with nx := u D } hS hE fun H1 r1 sg1 x1 s1 re1 => ?_
    exact h2 _ _ _ _ h _ _ _ D s1 re1 (k.mono x1)
  · rename_i v S1 q1
    cases h
    exact h1 _ _ _ _ q1 _ _ _ { D with nx := u D } hS hE k
  · rename_i e1 S1 q1
    cases h
    exact h1 _ _ _ _ q1 _ _ _ { D with nx := u D } hS hE k
  · rename_i e1 S1 q1
    cases h
    exact h1 _ _ _ _ q1 _ _ _ { D with nx := u D } hS hE k
  · cases h
def fBreak : FS := fun e S => some (.bk e, S)
def fCont : FS := fun e S => some (.ct e, S)
theorem snd_break {K : PySem.W.Frag} : SndS K tBreak fBreak := by
  intro e S fl S' h H r sg D hS hE k
  cases h
  exact k H r sg (Ext.refl _ _ _) hS hE
def fDrop (f : FE) : FS := fun e S => match f e S with | some (_, S1) => some (.nx e, S1) | none => none
theorem snd_drop {K : PySem.W.Frag} {t : TE} {f : FE} (h1 : SndE K t f) : SndS K (tDrop t) (fDrop f) := by
  intro e S fl S' h H r sg D hS hE k
  unfold fDrop at h
  split at h
  · rename_i v S1 q
    cases h
    exact h1 _ _ _ _ q _ _ _ _ hS hE fun H1 r1 v1 e1 s1 _ => k H1 r1 sg e1 s1 (hE.ext e1)
  · cases h
def fRet (f : FE) : FS := fun e S => match f e S with | some (v, S1) => some (.rt v, S1) | none => none
theorem snd_ret {K : PySem.W.Frag} {t : TE} {f : FE} (h1 : SndE K t f) : SndS K (tRet t) (fRet f) := by
  intro e S fl S' h H r sg D hS hE k
  unfold fRet at h
  split at h
  · rename_i v S1 q
    cases h
    exact h1 _ _ _ _ q _ _ _ _ hS hE fun H1 r1 v1 e1 s1 q1 => k H1 r1 v1 e1 s1 q1
  · cases h
def fRetN : FS := fun e S => some (.rt .non, S)
def fIf (c : FT) (f g : FS) : FS := fun e S => match c e S with | some (true, S1) => f e S1 | some (false, S1) => g e S1 | none => none
theorem snd_if {K : PySem.W.Frag} {c : TT} {t u : TS} {fc : FT} {f g : FS} (h0 : SndT K c fc) (h1 : SndS K t f) (h2 : SndS K u g) : SndS K (tIfS c t u) (fIf fc f g) := by
  intro e S fl S' h H r sg D hS hE k
  unfold fIf at h
  split at h
  · rename_i S1 q1
    refine h0 _ _ _ _ q1 _ _ _ _ hS hE fun H1 r1 e1 s1 => ?_
    rw [if_pos rfl]
    exact h1 _ _ _ _ h _ _ _ _ s1 (hE.ext e1) (k.mono e1)
  · rename_i S1 q1
    refine h0 _ _ _ _ q1 _ _ _ _ hS hE fun H1 r1 e1 s1 => ?_
    rw [if_neg Bool.false_ne_true]
    exact h2 _ _ _ _ h _ _ _ _ s1 (hE.ext e1) (k.mono e1)
  · cases h
section
variable {X : Cx} {st : Stmt} {rest : List Stmt} {t u : TS} {f g : FS} {e c : Expr} {te : TE} {fe : FE} {pos : Pos}
theorem sss_nil : SSs X [] fNext := ⟨_, pss_nil, snd_next⟩
theorem sss_cons (h1 : SS X st f) (h2 : SSs X rest g) : SSs X (st :: rest) (fSeq f g) := ⟨_, pss_cons h1.p h2.p, snd_seq h1.s h2.s⟩
theorem sss_one (h1 : SS X st f) : SSs X [st] f := ⟨_, pss_one h1.p, h1.s⟩
theorem ss_break : SS X (.Break pos) fBreak := ⟨_, ps_break, snd_break⟩
theorem ss_expr (he : SE X e fe) (hs : swapsWith e none pos.line X.env = pure false := by rfl) : SS X (.Expr e pos) (fDrop fe) := ⟨_, ps_expr he.p hs, snd_drop he.s⟩
theorem ss_ret (he : SE X e fe) : SS X (.Return (some e) pos) (fRet fe) := ⟨_, ps_ret he.p, snd_ret he.s⟩
theorem ss_if {a b : List Stmt} {fc : FT} (hc : ST X c fc) (ha : SSs X a f) (hb : SSs X b g) : SS X (.If c a b pos) (fIf fc f g) := ⟨_, ps_if hc.p ha.p hb.p, snd_if hc.s ha.s hb.s⟩
end
abbrev FG := A → En → Sto → Option (En × Sto)
abbrev FGs := List A → En → Sto → Option (En × Sto)
structure Chg (ws : List Nat) (a b : St) : Prop where
  len : a.length = b.length
  out : ∀ (i : Nat), i ∉ ws → a[i]? = b[i]?
def SndG (K : PySem.W.Frag) (ws : List Nat) (t : TG) (f : FG) : Prop :=
  ∀ (x : A) (e : En) (S : Sto) (e' : En) (S' : Sto), f x e S = some (e', S') → ∀ (H : Hp) (r : Nat → Addr) (sg : St) (x' : V) (Q : St → Hp → Prop), SR K H r S → RE H r S.length e sg → RA H r S.length x x' →
    (∀ H' r' sg', Ext H r S.length H' r' S'.length → SR K H' r' S' → RE H' r' S'.length e' sg' → Chg ws sg sg' → Q sg' H') → t x' sg H Q
def SndGs (K : PySem.W.Frag) (ws : List Nat) (t : TGs) (f : FGs) : Prop :=
  ∀ (xs : List A) (e : En) (S : Sto) (e' : En) (S' : Sto), f xs e S = some (e', S') → ∀ (H : Hp) (r : Nat → Addr) (sg : St) (xs' : List V) (Q : St → Hp → Prop), SR K H r S → RE H r S.length e sg → RAs H r S.length xs xs' →
    (∀ H' r' sg', Ext H r S.length H' r' S'.length → SR K H' r' S' → RE H' r' S'.length e' sg' → Chg ws sg sg' → Q sg' H') → t xs' sg H Q
def cG (K : PySem.W.Frag) (ws : List Nat) (f : FG) : TG := fun x' sg H Q => ∃ x e S e' S' r, f x e S = some (e', S') ∧ SR K H r S ∧ RE H r S.length e sg ∧ RA H r S.length x x' ∧
  ∀ H' r' sg', Ext H r S.length H' r' S'.length → SR K H' r' S' → RE H' r' S'.length e' sg' → Chg ws sg sg' → Q sg' H'
def cGs (K : PySem.W.Frag) (ws : List Nat) (f : FGs) : TGs := fun x' sg H Q => ∃ x e S e' S' r, f x e S = some (e', S') ∧ SR K H r S ∧ RE H r S.length e sg ∧ RAs H r S.length x x' ∧
  ∀ H' r' sg', Ext H r S.length H' r' S'.length → SR K H' r' S' → RE H' r' S'.length e' sg' → Chg ws sg sg' → Q sg' H'
theorem snd_cG {K : PySem.W.Frag} {ws : List Nat} {f : FG} : SndG K ws (cG K ws f) f := fun x e S e' S' h H r sg x' Q hS hE hx k => ⟨x, e, S, e', S', r, h, hS, hE, hx, k⟩
theorem snd_cGs {K : PySem.W.Frag} {ws : List Nat} {f : FGs} : SndGs K ws (cGs K ws f) f := fun x e S e' S' h H r sg x' Q hS hE hx k => ⟨x, e, S, e', S', r, h, hS, hE, hx, k⟩
def SG (X : Cx) (tg : Expr) (ws : List Nat) (f : FG) : Prop := ∃ t, PG X tg t ∧ SndG X.K ws t f
def SGs (X : Cx) (tg : List Expr) (ws : List Nat) (f : FGs) : Prop := ∃ t, PGs X tg t ∧ SndGs X.K ws t f
theorem SG.p {X : Cx} {tg : Expr} {ws : List Nat} {f : FG} : SG X tg ws f → PG X tg (cG X.K ws f) := fun ⟨t, h, s⟩ pins s0 sg H v u Q I rv ⟨x, e, S, e', S', r, h1, h2, h3, h4, h5⟩ => h pins s0 sg H v u Q I rv (s x e S e' S' h1 H r sg v Q h2 h3 h4 h5)
theorem SGs.p {X : Cx} {tg : List Expr} {ws : List Nat} {f : FGs} : SGs X tg ws f → PGs X tg (cGs X.K ws f) := fun ⟨t, h, s⟩ pins s0 sg H v u Q I rv ⟨x, e, S, e', S', r, h1, h2, h3, h4, h5⟩ => h pins s0 sg H v u Q I rv (s x e S e' S' h1 H r sg v Q h2 h3 h4 h5)
theorem SG.s {X : Cx} {tg : Expr} {ws : List Nat} {f : FG} (_ : SG X tg ws f) : SndG X.K ws (cG X.K ws f) f := snd_cG
theorem SGs.s {X : Cx} {tg : List Expr} {ws : List Nat} {f : FGs} (_ : SGs X tg ws f) : SndGs X.K ws (cGs X.K ws f) f := snd_cGs
theorem Chg.refl (ws : List Nat) (a : St) : Chg ws a a := ⟨rfl, fun _ _ => rfl⟩
theorem Chg.set (i : Nat) (a : St) (v : Option V) : Chg [i] a (a.set i v) := ⟨by simp, fun j hj => by rw [List.getElem?_set_ne (fun e => hj (by simp [e]))]⟩
theorem Chg.trans {ws us : List Nat} {a b c : St} (h : Chg ws a b) (k : Chg us b c) : Chg (ws ++ us) a c :=
  ⟨h.len.trans k.len, fun i hi => (h.out i fun z => hi (List.mem_append_left _ z)).trans (k.out i fun z => hi (List.mem_append_right _ z))⟩
def fName (i : Nat) : FG := fun x e S => some (e.set i (some x), S)
theorem snd_name {K : PySem.W.Frag} (i : Nat) : SndG K [i] (gName i) (fName i) := by
  intro x e S e' S' h H r sg x' Q hS hE q k
  cases h
  exact k H r _ (Ext.refl _ _ _) hS (hE.set q) (Chg.set _ _ _)
def fgNil : FGs := fun xs e S => match xs with | [] => some (e, S) | _ => none
def fgCons (f : FG) (g : FGs) : FGs := fun xs e S => match xs with
  | x :: xs => (match f x e S with | some (e1, S1) => g xs e1 S1 | none => none)
  | [] => none
theorem snd_gnil {K : PySem.W.Frag} : SndGs K [] gNil fgNil := by
  intro xs e S e' S' h H r sg xs' Q hS hE q k
  cases q with
  | nil =>
    cases h
    exact ⟨rfl, k H r _ (Ext.refl _ _ _) hS hE (Chg.refl _ _)⟩
  | cons _ _ => cases h
theorem snd_gcons {K : PySem.W.Frag} {ws us : List Nat} {t : TG} {f : FG} {u : TGs} {g : FGs} (h1 : SndG K ws t f) (h2 : SndGs K us u g) : SndGs K (ws ++ us) (gCons t u) (fgCons f g) := by
  intro xs e S e' S' h H r sg xs' Q hS hE q k
  cases q with
  | nil => cases h
  | @cons x v xs vs qx qs =>
    unfold fgCons at h
    dsimp only at h
    split at h
    · rename_i e1 S1 q1
      refine ⟨v, vs, rfl, h1 _ _ _ _ _ q1 _ _ _ _ _ hS hE qx fun H1 r1 sg1 x1 s1 re1 c1 => ?_⟩
      exact h2 _ _ _ _ _ h _ _ _ _ _ s1 re1 (qs.ext x1) fun H2 r2 sg2 x2 s2 re2 c2 => k H2 r2 sg2 (x1.trans x2) s2 re2 (c1.trans c2)
    · cases h
section
variable {X : Cx} {pos : Pos} {e : Expr} {es : List Expr} {ws us : List Nat} {t : TG} {f : FG} {u : TGs} {g : FGs}
theorem sg_name (i : Nat) {x : Str} (hN : X.N.Nodup) (hi : X.N[i]? = some x := by rfl) (hx : Loc X.env.scope x := by first | exact Or.inl rfl | exact Or.inr rfl) (hf : X.fn x = true ∨ X.env.scope.names.lookup x = some .local := by first | exact .inl rfl | exact .inr rfl | assumption) : SG X (.Name x pos) [i] (fName i) :=
  ⟨_, pg_name hN hi hx hf, snd_name i⟩
theorem sgs_nil : SGs X [] [] fgNil := ⟨_, pgs_nil, snd_gnil⟩
theorem sgs_cons (h1 : SG X e ws f) (h2 : SGs X es us g) (hs : (assignEach (e :: es) X.env).map (·.2) = assign e X.env :: (assignEach es X.env).map (·.2) := by rfl) : SGs X (e :: es) (ws ++ us) (fgCons f g) := ⟨_, pgs_cons h1.p h2.p hs, snd_gcons h1.s h2.s⟩
end
def fAsg (f : FE) (g : FG) : FS := fun e S => match f e S with
  | some (x, S1) => (match g x e S1 with | some (e1, S2) => some (.nx e1, S2) | none => none)
  | none => none
theorem snd_asg {K : PySem.W.Frag} {ws : List Nat} {t : TE} {f : FE} {u : TG} {g : FG} (h1 : SndE K t f) (h2 : SndG K ws u g) : SndS K (tAsg t u) (fAsg f g) := by
  intro e S fl S' h H r sg D hS hE k
  unfold fAsg at h
  split at h
  · rename_i x S1 q1
    split at h
    · rename_i e1 S2 q2
      cases h
      refine h1 _ _ _ _ q1 _ _ _ _ hS hE fun H1 r1 v x1 s1 qv => ?_
      exact h2 _ _ _ _ _ q2 _ _ _ _ _ s1 (hE.ext x1) qv fun H2 r2 sg2 x2 s2 re2 _ => k H2 r2 sg2 (x1.trans x2) s2 re2
    · cases h
  · cases h
def fgSub (fo fi : FE) : FG := fun x e S => match fo e S with
  | some (.ref k, S1) => (match fi e S1 with
    | some (.int i, S2) => (match S2[k]? with
      | some (.lst xs) => (match ixN xs.length i with | some j => some (e, S2.set k (.lst (xs.set j x))) | none => none)
      | _ => none)
    | _ => none)
  | _ => none
theorem snd_gsub {K : PySem.W.Frag} {to ti : TE} {fo fi : FE} (h1 : SndE K to fo) (h2 : SndE K ti fi) : SndG K [] (gSub to ti rSetL) (fgSub fo fi) := by
  intro x e S e' S' h H r sg x' Q hS hE qx k
  unfold fgSub at h
  split at h
  · rename_i kk S1 q1
    split at h
    · rename_i i S2 q2
      split at h
      · rename_i xs q3
        split at h
        · rename_i j q4
          cases h
          refine h1 _ _ _ _ q1 _ _ _ _ hS hE fun H1 r1 v x1 s1 qv => ?_
          refine h2 _ _ _ _ q2 _ _ _ _ s1 (hE.ext x1) fun H2 r2 w x2 s2 qw => ?_
          have qv' := qv.ext x2
          cases qv' with
          | ref hk =>
            cases qw.int_eq
            obtain ⟨vs, hv, hs⟩ := s2.obj kk _ q3
            refine ⟨_, vs, i, j, rfl, rfl, hv, by rw [← hs.length]; exact q4, ?_⟩
            have q5 := (qx.ext (x1.trans x2))
            have len : (S2.set kk (.lst (xs.set j x))).length = S2.length := by simp
            refine k _ r2 sg ?_ (s2.write q3 hv (RAs.set q5 j hs)) ?_ (Chg.refl _ _)
            · rw [len]
              exact (x1.trans x2).trans (ext_upd hv)
            · rw [len]
              exact hE.ext ((x1.trans x2).trans (ext_upd hv))
        · cases h
      · cases h
    · cases h
  · cases h
section
variable {X : Cx} {pos : Pos} {tg e o i : Expr} {ws : List Nat} {te to ti : TE} {fe fo fi : FE} {t : TG} {f : FG}
theorem sg_sub (ho : SE X o fo) (hi : SE X i fi) (ha : ∀ v, assign (.Subscript o i pos) X.env v = (do
      let ov ← holding [v] (eval o X.env)
      let iv ← holding [v, ov] (eval i X.env)
      standAt pos
      holding [v, ov, iv] (setItem ov iv v)
      release [v, ov, iv] []) := by intro _; rfl) : SG X (.Subscript o i pos) [] (fgSub fo fi) := ⟨_, pg_sub ho.p hi.p set_list ha, snd_gsub ho.s hi.s⟩
theorem ss_asg (he : SE X e fe) (hg : SG X tg ws f) (hs : swapsWithSole [tg] e pos.line X.env = pure false := by rfl) (hw : swappedStores [tg] e X.env = pure none := by rfl)
    (h1 : (assignEach [tg] X.env).map (·.2) = [assign tg X.env] := by rfl) : SS X (.Assign [tg] e pos) (fAsg fe f) := ⟨_, ps_asg he.p hg.p hs hw h1, snd_asg he.s hg.s⟩
theorem ss_set (j : Nat) {x : Str} {pos' : Pos} (hN : X.N.Nodup) (he : SE X e fe) (hi : X.N[j]? = some x := by rfl) (hx : Loc X.env.scope x := by first | exact Or.inl rfl | exact Or.inr rfl) (hs : swapsWith e (some (.Name x pos')) pos.line X.env = pure false := by rfl) (hf : X.fn x = true ∨ X.env.scope.names.lookup x = some .local := by first | exact .inl rfl | exact .inr rfl | assumption) :
    SS X (.Assign [.Name x pos'] e pos) (fAsg fe (fName j)) := ⟨_, ps_set hN hi hx he.p hs hf, snd_asg he.s (snd_name j)⟩
end
def fPar (i j : Nat) (f : FA) : FS := fun e S => match f e S with
  | some ([x, y], S1) => some (.nx ((e.set i (some x)).set j (some y)), S1)
  | _ => none
end F
namespace F
open PySem PySem.Spec L2
inductive FI where
  | items (xs : List A)
  | live (k : Nat)
  | live2 (j k : Nat)
  | liveE (k : Nat)
def lstAt (S : Sto) (k : Nat) : Option (List A) := match S[k]? with
  | some (.lst xs) => some xs
  | some (.fz xs) => some xs
  | none => none
def pairAt (xs ys : List A) (i : Nat) : Option A := match xs[i]?, ys[i]? with
  | some x, some y => some (.tup [x, y])
  | _, _ => none
def enumAt (xs : List A) (i : Nat) : Option A := match xs[i]? with
  | some x => some (.tup [.int (i : Nat), x])
  | none => none
def FI.item (S : Sto) (i : Nat) : FI → Option (Option A)
  | .items xs => some xs[i]?
  | .live k => match S[k]? with
    | some (.lst xs) => some xs[i]?
    | some (.fz xs) => some xs[i]?
    | none => none
  | .live2 j k => match lstAt S j, lstAt S k with
    | some xs, some ys => some (pairAt xs ys i)
    | _, _ => none
  | .liveE k => match lstAt S k with
    | some xs => some (enumAt xs i)
    | none => none
def FI.len (S : Sto) : FI → Nat
  | .items xs => xs.length
  | .live k => match S[k]? with
    | some (.lst xs) => xs.length
    | some (.fz xs) => xs.length
    | none => 0
  | .live2 j k => match lstAt S j, lstAt S k with
    | some xs, some ys => min xs.length ys.length
    | _, _ => 0
  | .liveE k => match lstAt S k with
    | some xs => xs.length
    | none => 0
structure ItR (K : PySem.W.Frag) (H0 : Hp) (r0 : Nat → Addr) (n0 : Nat) (J : It) (F : FI) : Prop where
  stop : ∀ (i : Nat) (H : Hp) (r : Nat → Addr) (S : Sto), Ext H0 r0 n0 H r S.length → SR K H r S → F.item S i = some none → J.stop i H
  go : ∀ (i : Nat) (H : Hp) (r : Nat → Addr) (S : Sto) (x : A), Ext H0 r0 n0 H r S.length → SR K H r S → F.item S i = some (some x) → J.go i H
  yld : ∀ (i : Nat) (H : Hp) (r : Nat → Addr) (S : Sto) (x : A), Ext H0 r0 n0 H r S.length → SR K H r S → F.item S i = some (some x) → ∀ (x' : V) (H' : Hp), J.yld i H x' H' →
    Ext H r S.length H' r S.length ∧ SR K H' r S ∧ RA H' r S.length x x'
abbrev FW := En → Sto → Option (FI × Sto)
def SndI (K : PySem.W.Frag) (wi : TI) (f : FW) : Prop :=
  ∀ (e : En) (S : Sto) (F : FI) (S' : Sto), f e S = some (F, S') → ∀ (H : Hp) (r : Nat → Addr) (sg : St) (R : It → Hp → Prop), SR K H r S → RE H r S.length e sg →
    (∀ J H' r', Ext H r S.length H' r' S'.length → SR K H' r' S' → ItR K H' r' S'.length J F → R J H') → wi sg H R
def cI (K : PySem.W.Frag) (f : FW) : TI := fun sg H R => ∃ e S F S' r, f e S = some (F, S') ∧ SR K H r S ∧ RE H r S.length e sg ∧ ∀ J H' r', Ext H r S.length H' r' S'.length → SR K H' r' S' → ItR K H' r' S'.length J F → R J H'
theorem snd_cI {K : PySem.W.Frag} {f : FW} : SndI K (cI K f) f := fun e S v S' h H r sg R hS hE k => ⟨e, S, v, S', r, h, hS, hE, k⟩
def SI (X : Cx) (tg iter : Expr) (f : FW) : Prop := ∃ wi, PI X tg iter wi ∧ SndI X.K wi f
theorem SI.p {X : Cx} {tg iter : Expr} {f : FW} : SI X tg iter f → PI X tg iter (cI X.K f) := fun ⟨t, h, s⟩ pins s0 sg H R I ⟨e, S, v, S', r, h1, h2, h3, h4⟩ => h pins s0 sg H R I (s e S v S' h1 H r sg R h2 h3 h4)
theorem SI.s {X : Cx} {tg iter : Expr} {f : FW} (_ : SI X tg iter f) : SndI X.K (cI X.K f) f := snd_cI
theorem ItR.ext {K : PySem.W.Frag} {H0 H1 : Hp} {r0 r1 : Nat → Addr} {n0 n1 : Nat} {J : It} {F : FI} (e : Ext H0 r0 n0 H1 r1 n1) (h : ItR K H0 r0 n0 J F) : ItR K H1 r1 n1 J F :=
  ⟨fun i H r S x => h.stop i H r S (e.trans x), fun i H r S x q => h.go i H r S x (e.trans q), fun i H r S x q => h.yld i H r S x (e.trans q)⟩
def rngA (lo : Int) (n : Nat) : List A := (List.range n).map fun i => A.int (lo + (i : Nat))
theorem rngA_get {lo : Int} {n i : Nat} : (rngA lo n)[i]? = if i < n then some (A.int (lo + (i : Nat))) else none := by
  unfold rngA
  rw [List.getElem?_map]
  by_cases h : i < n
  · rw [List.getElem?_range h, if_pos h]; rfl
  · rw [List.getElem?_eq_none (by simpa using h), if_neg h]; rfl
theorem itr_range {K : PySem.W.Frag} {H0 : Hp} {r0 : Nat → Addr} {n0 : Nat} (lo : Int) (n : Nat) : ItR K H0 r0 n0 (Itr lo n) (.items (rngA lo n)) := by
  refine ⟨fun i H r S x s q => ?_, fun i H r S x _ s q => ?_, fun i H r S x _ s q x' H' y => ?_⟩
  · have q' : (rngA lo n)[i]? = none := Option.some.inj q
    rw [rngA_get] at q'
    split at q'
    · cases q'
    · rename_i h
      exact Nat.le_of_not_lt h
  · have q' : (rngA lo n)[i]? = some x := Option.some.inj q
    rw [rngA_get] at q'
    split at q'
    · rename_i h
      exact h
    · cases q'
  · have q' : (rngA lo n)[i]? = some x := Option.some.inj q
    rw [rngA_get] at q'
    split at q'
    · cases q'
      obtain ⟨rfl, rfl⟩ := y
      exact ⟨Ext.refl _ _ _, s, .int _⟩
    · cases q'
def fRng1 (f : FA) : FW := fun e S => match f e S with
  | some ([.int j], S1) => if -(2 ^ 62) ≤ j ∧ j < 2 ^ 62 then some (.items (rngA 0 j.toNat), S1) else none
  | _ => none
theorem snd_rng1 {K : PySem.W.Frag} {t : TA} {f : FA} (h1 : SndA K t f) : SndI K (iRng1 t) (fRng1 f) := by
  intro e S F S' h H r sg R hS hE k
  unfold fRng1 at h
  split at h
  · rename_i j S1 q
    split at h
    · rename_i hj
      cases h
      refine h1 _ _ _ _ q _ _ _ _ hS hE fun H1 r1 vs x1 s1 qs => ?_
      cases qs with
      | cons qx q2 =>
        cases q2
        cases qx.int_eq
        exact ⟨j, rfl, hj.1, hj.2, k _ H1 r1 x1 s1 (itr_range _ _)⟩
    · cases h
  · cases h
theorem SR.sq {K : PySem.W.Frag} {H : Hp} {r : Nat → Addr} {S : Sto} {k : Nat} {xs : List A} (h : SR K H r S) (q : S[k]? = some (.lst xs) ∨ S[k]? = some (.fz xs)) : ∃ vs, SqL K H (r k) vs ∧ RAs H r S.length xs vs := by
  rcases q with q | q
  · obtain ⟨vs, h1, h2⟩ := h.obj k _ q
    exact ⟨vs, SqL.of h1, h2⟩
  · obtain ⟨vs, h1, h2⟩ := h.obj k _ q
    refine ⟨vs, ?_, h2⟩
    rcases h1 with ⟨o, h1⟩ | h1
    · exact .inl (.inr ⟨o, h1⟩)
    · rcases h1 with (h1 | ⟨o, h1⟩) | h1
      · cases h1
      · cases h1
      · exact .inr h1
theorem item_live {S : Sto} {k i : Nat} {o : Option A} (h : FI.item S i (.live k) = some o) : ∃ xs, (S[k]? = some (.lst xs) ∨ S[k]? = some (.fz xs)) ∧ xs[i]? = o := by
  simp only [FI.item] at h
  split at h
  · rename_i xs q
    exact ⟨xs, .inl q, Option.some.inj h⟩
  · rename_i xs q
    exact ⟨xs, .inr q, Option.some.inj h⟩
  · cases h
theorem RAs.get' {H : Hp} {r : Nat → Addr} {n : Nat} {xs : List A} {vs : List V} {i : Nat} {x : A} {v : V} (h : RAs H r n xs vs) (hx : xs[i]? = some x) (hv : vs[i]? = some v) : RA H r n x v := by
  obtain ⟨w, h1, h2⟩ := h.get hx
  rw [hv] at h1
  cases h1
  exact h2
theorem itr_list {K : PySem.W.Frag} {H0 : Hp} {r0 : Nat → Addr} {n0 : Nat} (k : Nat) (hk : k < n0) : ItR K H0 r0 n0 (Itl K (r0 k)) (.live k) := by
  refine ⟨fun i H r S x s q => ?_, fun i H r S x e s q => ?_, fun i H r S x e s q x' H' y => ?_⟩
  · obtain ⟨xs, q1, q2⟩ := item_live q
    obtain ⟨vs, h1, h2⟩ := s.sq q1
    rw [x.eq k hk] at h1
    exact ⟨vs, h1, by rw [← h2.length]; exact List.getElem?_eq_none_iff.mp q2⟩
  · obtain ⟨xs, q1, q2⟩ := item_live q
    obtain ⟨vs, h1, h2⟩ := s.sq q1
    rw [e.eq k hk] at h1
    obtain ⟨v, h3, h4⟩ := h2.get q2
    exact ⟨vs, v, h1, h3⟩
  · obtain ⟨xs, q1, q2⟩ := item_live q
    obtain ⟨vs, h1, h2⟩ := s.sq q1
    rw [e.eq k hk] at h1
    obtain ⟨rfl, y⟩ := y
    exact ⟨Ext.refl _ _ _, s, h2.get' q2 (y vs h1)⟩
theorem itr_tup {K : PySem.W.Frag} {H0 : Hp} {r0 : Nat → Addr} {n0 : Nat} {a : Addr} {xs : List A} {vs : List V} (ha : H0 a = some (.tup vs)) (hs : RAs H0 r0 n0 xs vs) : ItR K H0 r0 n0 (Itt K a) (.items xs) := by
  refine ⟨fun i H r S x s q => ?_, fun i H r S x e s q => ?_, fun i H r S x e s q x' H' y => ?_⟩
  · have q' : xs[i]? = none := Option.some.inj q
    exact ⟨vs, SqT.of (x.tup _ _ ha), by rw [← hs.length]; exact List.getElem?_eq_none_iff.mp q'⟩
  · have q' : xs[i]? = some x := Option.some.inj q
    obtain ⟨v, h3, h4⟩ := hs.get q'
    exact ⟨vs, v, SqT.of (e.tup _ _ ha), h3⟩
  · have q' : xs[i]? = some x := Option.some.inj q
    obtain ⟨rfl, y⟩ := y
    exact ⟨Ext.refl _ _ _, s, (hs.ext e).get' q' (y vs (SqT.of (e.tup _ _ ha)))⟩
section
variable {X : Cx} {tg l a b : Expr} {tl : TE} {fl : FE} {ta : TA} {fa : FA} {p pos : Pos}
theorem si_rng1 (hm : X.mg "range" = none) (ha : SA X [a] fa) (hg : Gl X "range" := by rfl) (hs : starEach [a] X.env = [(false, eval a X.env)] := by rfl) : SI X tg (.Call (.Name "range" p) [a] [] pos) (fRng1 fa) := ⟨_, pi_range1 hg hm ha.p hs, snd_rng1 ha.s⟩
end
def loopF (F : FI) (g : FG) (b : FS) : Nat → Nat → En → Sto → Option (Fl × Sto)
  | fuel, i, e, S => match F.item S i with
    | none => none
    | some none => some (.nx e, S)
    | some (some x) => match fuel with
      | 0 => none
      | fuel + 1 => match g x e S with
        | none => none
        | some (e1, S1) => match b e1 S1 with
          | some (.nx e2, S2) => loopF F g b fuel (i + 1) e2 S2
          | some (.ct e2, S2) => loopF F g b fuel (i + 1) e2 S2
          | some (.bk e2, S2) => some (.nx e2, S2)
          | some (.rt v, S2) => some (.rt v, S2)
          | none => none
def fFor (w : FW) (g : FG) (b : FS) : FS := fun e S => match w e S with
  | some (F, S1) => loopF F g b (F.len S1) 0 e S1
  | none => none
theorem snd_for {K : PySem.W.Frag} {ws : List Nat} {wi : TI} {w : FW} {g : TG} {fg : FG} {tb : TS} {b : FS} (h0 : SndI K wi w) (h1 : SndG K ws g fg) (h2 : SndS K tb b) : SndS K (tFor wi g tb) (fFor w fg b) := by
  intro e S fl S' h H r sg D hS hE k
  unfold fFor at h
  split at h
  · rename_i F S1 q
    refine h0 _ _ _ _ q _ _ _ _ hS hE fun J H1 r1 x1 s1 it => ?_
    have re1 := hE.ext x1
    have k1 := k.mono x1
    refine ⟨fun i m sg2 H2 => ∃ (e2 : En) (S2 : Sto) (r2 : Nat → Addr), Ext H1 r1 S1.length H2 r2 S2.length ∧ SR K H2 r2 S2 ∧ RE H2 r2 S2.length e2 sg2 ∧ loopF F fg b m i e2 S2 = some (fl, S'), ⟨F.len S1, e, S1, r1, Ext.refl _ _ _, s1, re1, h⟩, ?_⟩
    rintro i m sg2 H2 ⟨e2, S2, r2, x2, s2, re2, lp⟩
    have k2 := k1.mono x2
    unfold loopF at lp
    split at lp
    · cases lp
    · rename_i z
      cases lp
      exact .inl ⟨it.stop i H2 r2 _ x2 s2 z, k2 H2 r2 sg2 (Ext.refl _ _ _) s2 re2⟩
    · rename_i x z
      split at lp
      · cases lp
      · rename_i fuel
        refine .inr ⟨it.go i H2 r2 S2 x x2 s2 z, ?_⟩
        refine ⟨fun sg3 H3 => ∃ (e3 : En) (S3 : Sto) (r3 : Nat → Addr), Ext H1 r1 S1.length H3 r3 S3.length ∧ SR K H3 r3 S3 ∧ RE H3 r3 S3.length e3 sg3 ∧ loopF F fg b fuel (i + 1) e3 S3 = some (fl, S'), fun sg3 H3 hn => ⟨fuel, Nat.lt_succ_self _, hn⟩, ?_⟩
        intro x' H3 y
        obtain ⟨x3, s3, rx⟩ := it.yld i H2 r2 S2 x x2 s2 z x' H3 y
        split at lp
        · cases lp
        · rename_i e4 S4 q4
          refine h1 _ _ _ _ _ q4 _ _ _ _ _ s3 (re2.ext x3) rx fun H4 r4 sg4 x4 s4 re4 _ => ?_
          have x14 := (x2.trans x3).trans x4
          have k4 := k2.mono (x3.trans x4)
          split at lp
          · rename_i e5 S5 q5
            exact h2 _ _ _ _ q5 _ _ _ _ s4 re4 fun H5 r5 sg5 x5 s5 re5 => ⟨e5, S5, r5, x14.trans x5, s5, re5, lp⟩
          · rename_i e5 S5 q5
            exact h2 _ _ _ _ q5 _ _ _ _ s4 re4 fun H5 r5 sg5 x5 s5 re5 => ⟨e5, S5, r5, x14.trans x5, s5, re5, lp⟩
          · rename_i e5 S5 q5
            cases lp
            exact h2 _ _ _ _ q5 _ _ _ _ s4 re4 fun H5 r5 sg5 x5 s5 re5 => k4 H5 r5 sg5 x5 s5 re5
          · rename_i v S5 q5
            cases lp
            exact h2 _ _ _ _ q5 _ _ _ _ s4 re4 fun H5 r5 v5 x5 s5 rv5 => k4 H5 r5 v5 x5 s5 rv5
          · cases lp
  · cases h
section
variable {X : Cx} {tg iter : Expr} {ws : List Nat} {wi : TI} {w : FW} {g : TG} {fg : FG} {tb : TS} {b : FS} {body : List Stmt} {pos : Pos}
theorem ss_for (hp : PassesOwn (model X.prog X.w) X.A X.env X.xe) (hi : SI X tg iter w) (hg : SG X tg ws fg) (hb : SSs X body b) (hc : X.calm = true := by rfl)
    (hs : ∀ x, foldedSetIterable iter X.env x = pure x := by intro _; rfl) : SS X (.For tg iter body [] pos) (fFor w fg b) := ⟨_, ps_for hp hc hi.p hg.p hb.p hs, snd_for hi.s hg.s hb.s⟩
end
def whileF (c : FT) (b : FS) : Nat → En → Sto → Option (Fl × Sto)
  | fuel, e, S => match c e S with
    | none => none
    | some (false, S1) => some (.nx e, S1)
    | some (true, S1) => match fuel with
      | 0 => none
      | fuel + 1 => match b e S1 with
        | some (.nx e2, S2) => whileF c b fuel e2 S2
        | some (.ct e2, S2) => whileF c b fuel e2 S2
        | some (.bk e2, S2) => some (.nx e2, S2)
        | some (.rt v, S2) => some (.rt v, S2)
        | none => none
def fWhile (m : En → Sto → Nat) (c : FT) (b : FS) : FS := fun e S => whileF c b (m e S) e S
def wipeE (e : En) : List Nat → En
  | [] => e
  | v :: vs => (wipeE e vs).set v none
theorem wipeE_length (e : En) : ∀ vs : List Nat, (wipeE e vs).length = e.length
  | [] => rfl
  | v :: vs => by unfold wipeE; rw [List.length_set, wipeE_length e vs]
theorem wipeE_some {e : En} {i : Nat} {x : A} : ∀ {vs : List Nat}, (wipeE e vs)[i]? = some (some x) → e[i]? = some (some x) ∧ i ∉ vs
  | [], h => ⟨h, by simp⟩
  | v :: vs, h => by
    unfold wipeE at h
    by_cases hi : v = i
    · subst hi
      by_cases hv : v < (wipeE e vs).length
      · rw [List.getElem?_set_self hv] at h; cases h
      · rw [List.getElem?_eq_none (by simpa using hv)] at h; cases h
    · rw [List.getElem?_set_ne hi] at h
      obtain ⟨h1, h2⟩ := wipeE_some h
      exact ⟨h1, by simp only [List.mem_cons, not_or]; exact ⟨fun e => hi e.symm, h2⟩⟩
theorem wipe_out {s : St} {i : Nat} : ∀ {vs : List Nat}, i ∉ vs → (wipe s vs)[i]? = s[i]?
  | [], _ => rfl
  | v :: vs, h => by
    unfold wipe
    rw [List.getElem?_set_ne (fun e => h (by simp [e]))]
    exact wipe_out fun z => h (List.mem_cons_of_mem _ z)
theorem wipe_in {s : St} {i : Nat} (hl : i < s.length) : ∀ {vs : List Nat}, i ∈ vs → (wipe s vs)[i]? = some none
  | [], h => by cases h
  | v :: vs, h => by
    unfold wipe
    by_cases e : v = i
    · subst e
      rw [List.getElem?_set_self (by rw [wipe_length]; exact hl)]
    · rw [List.getElem?_set_ne e]
      rcases List.mem_cons.mp h with z | z
      · exact absurd z.symm e
      · exact wipe_in hl z
theorem wipe_chg {ws vs : List Nat} {a b : St} (h : Chg ws a b) (hw : ∀ i ∈ ws, i ∈ vs) : wipe a vs = wipe b vs := by
  apply List.ext_getElem?
  intro i
  by_cases hi : i ∈ vs
  · by_cases hl : i < a.length
    · rw [wipe_in hl hi, wipe_in (by rw [← h.len]; exact hl) hi]
    · rw [List.getElem?_eq_none (by rw [wipe_length]; omega), List.getElem?_eq_none (by rw [wipe_length, ← h.len]; omega)]
  · rw [wipe_out hi, wipe_out hi]
    exact h.out i fun z => hi (hw i z)
theorem wipe_wipe {vs : List Nat} {a : St} : wipe (wipe a vs) vs = wipe a vs := by
  apply List.ext_getElem?
  intro i
  by_cases hi : i ∈ vs
  · by_cases hl : i < a.length
    · rw [wipe_in (by rw [wipe_length]; exact hl) hi, wipe_in hl hi]
    · rw [List.getElem?_eq_none (by rw [wipe_length, wipe_length]; omega), List.getElem?_eq_none (by rw [wipe_length]; omega)]
  · rw [wipe_out hi]
theorem RE.wipe {H : Hp} {r : Nat → Addr} {n : Nat} {e : En} {sg : St} (h : RE H r n e sg) (vs : List Nat) : RE H r n (wipeE e vs) (L2.wipe sg vs) :=
  ⟨by rw [wipeE_length, wipe_length, h.len], fun i a q => by
    obtain ⟨q1, q2⟩ := wipeE_some q
    obtain ⟨v, h1, h2⟩ := h.get i a q1
    exact ⟨v, by rw [wipe_out q2]; exact h1, h2⟩⟩
def lcF (F : FI) (g : FG) (tt : FT) (te : FE) (k : Nat) (e : En) : Nat → Nat → Sto → Option Sto
  | fuel, i, S => match F.item S i with
    | none => none
    | some none => some S
    | some (some x) => match fuel with
      | 0 => none
      | fuel + 1 => match g x e S with
        | none => none
        | some (e1, S1) => match tt e1 S1 with
          | none => none
          | some (false, S2) => lcF F g tt te k e fuel (i + 1) S2
          | some (true, S2) => match te e1 S2 with
            | none => none
            | some (y, S3) => match S3[k]? with
              | some (.lst acc) => if acc.length < sizeLine then lcF F g tt te k e fuel (i + 1) (S3.set k (.lst (acc ++ [y]))) else none
              | _ => none
def fLc (w : FW) (g : FG) (tt : FT) (te : FE) (vs : List Nat) : FE := fun e S => match w e S with
  | some (F, S1) => (match lcF F g tt te S1.length (wipeE e vs) (F.len S1) 0 (S1 ++ [.lst []]) with | some S2 => some (.ref S1.length, S2) | none => none)
  | none => none
theorem snd_lc {K : PySem.W.Frag} {ws vs : List Nat} {wi : TI} {w : FW} {g : TG} {fg : FG} {tt : TT} {ft : FT} {te : TE} {fe : FE} (h0 : SndI K wi w) (h1 : SndG K ws g fg) (h2 : SndT K tt ft) (h3 : SndE K te fe) (hw : ∀ i ∈ ws, i ∈ vs) :
    SndE K (tLc wi g tt te vs) (fLc w fg ft fe vs) := by
  intro e S v S' h H r sg Q hS hE k
  unfold fLc at h
  split at h
  · rename_i F S1 q
    split at h
    · rename_i S2 lp0
      cases h
      refine h0 _ _ _ _ q _ _ _ _ hS hE fun J H1 r1 x1 s1 it D hD => ?_
      have re1 := (hE.ext x1).wipe vs
      have x1' : Ext H1 r1 S1.length (upd H1 D (.lst [])) (put r1 S1.length D) (S1 ++ [SO.lst []]).length := by
        have len : (S1 ++ [SO.lst []]).length = S1.length + 1 := by simp
        rw [len]
        exact ext_lst hD
      have s1' := s1.newLst hD (RAs.nil (H := H1) (r := r1) (n := S1.length))
      refine ⟨fun i m H2 => ∃ (S3 : Sto) (r2 : Nat → Addr), Ext (upd H1 D (.lst [])) (put r1 S1.length D) (S1 ++ [SO.lst []]).length H2 r2 S3.length ∧ SR K H2 r2 S3 ∧ lcF F fg ft fe S1.length (wipeE e vs) m i S3 = some S', ⟨_, _, _, Ext.refl _ _ _, s1', lp0⟩, ?_⟩
      rintro i m H2 ⟨S3, r2, x2, s2, lp⟩
      have lt : S1.length < (S1 ++ [SO.lst []]).length := by simp
      have rD : r2 S1.length = D := (x2.eq _ lt).trans put_at
      have it2 := it.ext (x1'.trans x2)
      have re2 := re1.ext (x1'.trans x2)
      unfold lcF at lp
      split at lp
      · cases lp
      · rename_i z
        cases lp
        refine .inl ⟨it2.stop i H2 r2 _ (Ext.refl _ _ _) s2 z, ?_⟩
        refine k H2 r2 _ (x1.trans (x1'.trans x2)) s2 ?_
        have z := RA.ref (H := H2) (r := r2) (Nat.lt_of_lt_of_le lt x2.le)
        rw [rD] at z
        exact z
      · rename_i x z
        split at lp
        · cases lp
        · rename_i fuel
          refine .inr ⟨it2.go i H2 r2 S3 x (Ext.refl _ _ _) s2 z, ?_⟩
          refine ⟨fun H3 => ∃ (S4 : Sto) (r3 : Nat → Addr), Ext (upd H1 D (.lst [])) (put r1 S1.length D) (S1 ++ [SO.lst []]).length H3 r3 S4.length ∧ SR K H3 r3 S4 ∧ lcF F fg ft fe S1.length (wipeE e vs) fuel (i + 1) S4 = some S', fun H3 hn => ⟨fuel, Nat.lt_succ_self _, hn⟩, ?_⟩
          intro x' H3 y
          obtain ⟨x3, s3, rx⟩ := it2.yld i H2 r2 S3 x (Ext.refl _ _ _) s2 z x' H3 y
          split at lp
          · cases lp
          · rename_i e4 S4 q4
            refine h1 _ _ _ _ _ q4 _ _ _ _ _ s3 (re2.ext x3) rx fun H4 r4 sg4 x4 s4 re4 c4 => ⟨?_, ?_⟩
            · rw [← wipe_chg c4 hw, wipe_wipe]
            · have x24 := x2.trans (x3.trans x4)
              split at lp
              · cases lp
              · rename_i S5 q5
                refine h2 _ _ _ _ q5 _ _ _ _ s4 re4 fun H5 r5 x5 s5 => ?_
                rw [if_neg Bool.false_ne_true]
                exact ⟨S5, r5, x24.trans x5, s5, lp⟩
              · rename_i S5 q5
                refine h2 _ _ _ _ q5 _ _ _ _ s4 re4 fun H5 r5 x5 s5 => ?_
                rw [if_pos rfl]
                split at lp
                · cases lp
                · rename_i y' S6 q6
                  refine h3 _ _ _ _ q6 _ _ _ _ s5 (re4.ext x5) fun H6 r6 yv x6 s6 qy => ?_
                  split at lp
                  · rename_i acc q7
                    split at lp
                    · rename_i hl
                      obtain ⟨avs, ha, hs⟩ := s6.obj _ _ q7
                      have x26 := x24.trans (x5.trans x6)
                      have rD6 : r6 S1.length = D := (x26.eq _ lt).trans put_at
                      rw [rD6] at ha
                      refine ⟨avs, ha, by rw [← hs.length]; exact hl, ?_⟩
                      have len : (S6.set S1.length (SO.lst (acc ++ [y']))).length = S6.length := by simp
                      refine ⟨S6.set S1.length (.lst (acc ++ [y'])), r6, ?_, ?_, lp⟩
                      · rw [len]
                        exact x26.trans (ext_upd ha)
                      · have zz := s6.write (ys := acc ++ [y']) (vs := avs ++ [yv]) q7 (by rw [rD6]; exact ha) (hs.append (.cons qy .nil))
                        rw [rD6] at zz
                        exact zz
                    · cases lp
                  · cases lp
    · cases h
  · cases h
def STs (X : Cx) (ifs : List Expr) (f : FT) : Prop := ∃ t, PTs X ifs t ∧ SndT X.K t f
theorem STs.p {X : Cx} {ifs : List Expr} {f : FT} : STs X ifs f → PTs X ifs (cT X.K f) := fun ⟨t, h, s⟩ pins s0 sg H Q I ⟨e, S, v, S', r, h1, h2, h3, h4⟩ => h pins s0 sg H Q I (s e S v S' h1 H r sg Q h2 h3 h4)
theorem STs.s {X : Cx} {ifs : List Expr} {f : FT} (_ : STs X ifs f) : SndT X.K (cT X.K f) f := snd_cT
def fYes : FT := fun _ S => some (true, S)
theorem sts_nil {X : Cx} : STs X [] fYes := ⟨_, pts_nil, by
  intro e S b S' h H r sg Q hS hE k
  cases h
  exact k H r (Ext.refl _ _ _) hS⟩
theorem sts_one {X : Cx} {c : Expr} {f : FT} (h : ST X c f) : STs X [c] f := ⟨_, pts_one h.p, h.s⟩
section
variable {X : Cx} {elt tg iter : Expr} {ifs : List Expr} {scope : Scope} {pos : Pos} {wi : TI} {w : FW} {g : TG} {fg : FG} {tt : TT} {ft : FT} {te : TE} {fe : FE}
theorem se_lc (ws : List Nat) (own : List (Str × Nat)) {vs : List Nat} (hN : X.N.Nodup) (hi : SI X tg iter w) (ok : BlkOk X.N X.env.scope scope own)
    (hg : ∀ (s : Shared) (H : Hp) (C : Addr) (cl : List (Str × Addr)) (fp : List Addr), SG (X.blk s H scope (compEnvC scope cl C X.env) fp) tg ws fg) (ht : ∀ (s : Shared) (H : Hp) (C : Addr) (cl : List (Str × Addr)) (fp : List Addr), STs (X.blk s H scope (compEnvC scope cl C X.env) fp) ifs ft)
    (he : ∀ (s : Shared) (H : Hp) (C : Addr) (cl : List (Str × Addr)) (fp : List Addr), SE (X.blk s H scope (compEnvC scope cl C X.env) fp) elt fe) (hv : own.map (·.2) = vs := by rfl) (hw : ∀ i ∈ ws, i ∈ vs := by decide) (hc : X.calm = true := by rfl) (hs : ∀ x, foldedSetIterable iter X.env x = pure x := by intro _; rfl) :
    SE X (.ListComp elt [⟨tg, iter, ifs, 0⟩] scope pos) (fLc w fg ft fe vs) := by
  subst hv
  exact ⟨_, pe_lc hc hN hi.p ok (fun s H C cl fp => (hg s H C cl fp).p) (fun s H C cl fp => (ht s H C cl fp).p) (fun s H C cl fp => (he s H C cl fp).p) hs, snd_lc hi.s (hg X.s_0 X.H_0 0 [] []).s (ht X.s_0 X.H_0 0 [] []).s (he X.s_0 X.H_0 0 [] []).s hw⟩
theorem ss_setLc (ws : List Nat) {i : Nat} {y : Str} {py spos : Pos} (own : List (Str × Nat)) {vs : List Nat} (hN : X.N.Nodup) (hi : SI X tg iter w) (ok : BlkOk X.N X.env.scope scope own)
    (hg : ∀ (s : Shared) (H : Hp) (C : Addr) (cl : List (Str × Addr)) (fp : List Addr), SG (X.blk s H scope (compEnvC scope cl C X.env) fp) tg ws fg) (ht : ∀ (s : Shared) (H : Hp) (C : Addr) (cl : List (Str × Addr)) (fp : List Addr), STs (X.blk s H scope (compEnvC scope cl C X.env) fp) ifs ft)
    (he : ∀ (s : Shared) (H : Hp) (C : Addr) (cl : List (Str × Addr)) (fp : List Addr), SE (X.blk s H scope (compEnvC scope cl C X.env) fp) elt fe)
    (hsw : swapsWith (.ListComp elt [⟨tg, iter, ifs, 0⟩] scope pos) (some (.Name y py)) spos.line X.env = pure true)
    (hv : own.map (·.2) = vs := by rfl) (hy : X.N[i]? = some y := by rfl) (hyl : X.env.scope.names.lookup y = some .local := by rfl) (hw : ∀ i ∈ ws, i ∈ vs := by decide) (hc : X.calm = true := by rfl) (hs : ∀ x, foldedSetIterable iter X.env x = pure x := by intro _; rfl) :
    SS X (.Assign [.Name y py] (.ListComp elt [⟨tg, iter, ifs, 0⟩] scope pos) spos) (fAsg (fLc w fg ft fe vs) (fName i)) := by
  subst hv
  exact ⟨_, ps_setLc hc hN hy hyl hsw hi.p ok (fun s H C cl fp => (hg s H C cl fp).p) (fun s H C cl fp => (ht s H C cl fp).p) (fun s H C cl fp => (he s H C cl fp).p) hs, snd_asg (snd_lc hi.s (hg X.s_0 X.H_0 0 [] []).s (ht X.s_0 X.H_0 0 [] []).s (he X.s_0 X.H_0 0 [] []).s hw) (snd_name i)⟩
end
def fDef (np nl : Nat) (f : FS) : FN := fun xs S => if xs.length = np then (match f (xs.map some ++ List.replicate (nl - np) none) S with
    | some (.nx _, S1) => some (.non, S1)
    | some (.rt v, S1) => some (v, S1)
    | _ => none) else none
theorem fDef_ar {np nl : Nat} {f : FS} {xs : List A} {S : Sto} {z : A × Sto} (h : fDef np nl f xs S = some z) : xs.length = np := by
  unfold fDef at h
  split at h
  · assumption
  · cases h
theorem RE.start {H : Hp} {r : Nat → Addr} {n m : Nat} {xs : List A} {vs : List V} (h : RAs H r n xs vs) : RE H r n (xs.map some ++ List.replicate m none) (vs.map some ++ List.replicate m none) := by
  refine ⟨by simp [h.length], fun i a q => ?_⟩
  by_cases hi : i < xs.length
  · rw [List.getElem?_append_left (by simpa using hi), List.getElem?_map] at q
    cases e : xs[i]? with
    | none => rw [e] at q; cases q
    | some b =>
      rw [e] at q
      cases q
      obtain ⟨v, h1, h2⟩ := h.get e
      exact ⟨v, by rw [List.getElem?_append_left (by rw [List.length_map, ← h.length]; exact hi), List.getElem?_map, h1]; rfl, h2⟩
  · rw [List.getElem?_append_right (by simpa using hi), List.getElem?_replicate] at q
    split at q <;> cases q
section
variable {P : Program} {w : World} {K : PySem.W.Frag} {mg : Str → Option Value} {base : Heap}
theorem fn_ok {x qual : Str} {st : Stmt} {f : Addr} {fd : FuncData} {N ps : List Str} {k : Nat} {fb : FS} (F : Fun K x qual st f fd) (S : FnScope N ps (defScope st))
    (hbody : ∀ (cdv : Value) (A : Around) (outer : List Env) (s : Shared) (H : Hp) (E : XK), Room k (A.deeper (PyProof.Rows.envOfC qual (defScope st) s.heap.objs.size f cdv)) →
      SSs (cxOf CX0 P w K mg base N qual (defScope st) f cdv A outer s H E).nox (defBody st) fb) : FnOk P w K mg base CX0 (k + 1) f fd ps (spF K ps.length (fDef ps.length N.length fb)) := by
  refine F.ok S (fun vs H Q E h => h.1) (fun cdv A outer s H vs Q E hr h => ?_)
  have ht := hbody cdv A outer s H E hr
  refine ⟨_, ht.p, ?_⟩
  obtain ⟨hl, xs, S0, z, S1, r, hg, hS, hx, kq⟩ := h
  unfold fDef at hg
  rw [if_pos (by rw [hx.length, hl])] at hg
  have re : RE H r S0.length (xs.map some ++ List.replicate (N.length - ps.length) none) (L2.start N vs) := by
    unfold L2.start
    rw [hl]
    exact RE.start hx
  split at hg
  · rename_i e1 S2 q
    cases hg
    exact ht.s _ _ _ _ q _ _ _ _ hS re fun H' r' sg' e' s' _ => kq H' r' _ e' s' .non
  · rename_i v S2 q
    cases hg
    exact ht.s _ _ _ _ q _ _ _ _ hS re fun H' r' v' e' s' qv => kq H' r' _ e' s' qv
  · cases hg
theorem fnf_of {x qual : Str} {st : Stmt} {f : Addr} {fd : FuncData} {N ps : List Str} {k : Nat} {fb : FS} (F : Fun K x qual st f fd) (S : FnScope N ps (defScope st)) (hm : mg x = some (.ref f)) (hb : Binds K fd ps [])
    (hbody : ∀ (cdv : Value) (A : Around) (outer : List Env) (s : Shared) (H : Hp) (E : XK), Room k (A.deeper (PyProof.Rows.envOfC qual (defScope st) s.heap.objs.size f cdv)) →
      SSs (cxOf CX0 P w K mg base N qual (defScope st) f cdv A outer s H E).nox (defBody st) fb) : FnF P w K mg base (k + 1) x ps (fDef ps.length N.length fb) :=
  ⟨⟨f, fd, fn_ok F S hbody, hm, F.kp, hb⟩, fun _ _ _ h => fDef_ar h⟩
theorem FnF.mono {x : Str} {ps : List Str} {g : FN} {j k : Nat} (h : FnF P w K mg base j x ps g) (hk : j ≤ k) : FnF P w K mg base k x ps g :=
  ⟨let ⟨f, fd, a, b⟩ := h.ex; ⟨f, fd, a.mono hk, b⟩, h.ar⟩
end
end F
namespace F
open PySem PySem.Spec L2
def seqOf (S : Sto) : A → Option (List A)
  | .tup xs => some xs
  | .ref k => match S[k]? with
    | some (.lst xs) => some xs
    | some (.fz xs) => some xs
    | none => none
  | _ => none
theorem seq_read {K : PySem.W.Frag} {H : Hp} {r : Nat → Addr} {S : Sto} {x : A} {v : V} {xs : List A} (hS : SR K H r S) (q : RA H r S.length x v) (h : seqOf S x = some xs) :
    ∃ a vs, v = .ref a ∧ (SqL K H a vs ∨ SqT K H a vs) ∧ RAs H r S.length xs vs := by
  cases q with
  | tup ha hs =>
    cases h
    exact ⟨_, _, rfl, .inr (SqT.of ha), hs⟩
  | @ref k hk =>
    simp only [seqOf] at h
    split at h
    · rename_i ys q
      cases h
      obtain ⟨vs, h1, h2⟩ := hS.sq (.inl q)
      exact ⟨_, _, rfl, .inl h1, h2⟩
    · rename_i ys q
      cases h
      obtain ⟨vs, h1, h2⟩ := hS.sq (.inr q)
      exact ⟨_, _, rfl, .inl h1, h2⟩
    · cases h
  | _ => cases h
theorem atI_rel {H : Hp} {r : Nat → Addr} {n : Nat} {xs : List A} {vs : List V} {i : Int} {x : A} (h : RAs H r n xs vs) (e : atI xs i = some x) : ∃ v, atI vs i = some v ∧ RA H r n x v := by
  unfold atI at e ⊢
  rw [← h.length]
  cases q : ixN xs.length i with
  | none => rw [q] at e; cases e
  | some j =>
    rw [q] at e
    obtain ⟨v, h1, h2⟩ := h.get (show xs[j]? = some x from e)
    exact ⟨v, h1, h2⟩
def gIx : FO := fun x y S => match y with
  | .int i => (match seqOf S x with
    | some xs => (match atI xs i with | some z => some (z, S) | none => none)
    | none => none)
  | _ => none
theorem snd_ix {K : PySem.W.Frag} : SndO K (rIx K) gIx := by
  intro x y S z S' h H r x' y' Q hS qx qy k
  unfold gIx at h
  split at h
  · rename_i i
    split at h
    · rename_i xs q
      split at h
      · rename_i w q2
        cases h
        cases qy.int_eq
        obtain ⟨a, vs, rfl, hq, hs⟩ := seq_read hS qx q
        obtain ⟨v, h1, h2⟩ := atI_rel hs q2
        have fin := k H r v (Ext.refl _ _ _) hS h2
        rcases hq with hq | hq
        · exact .inl ⟨a, vs, i, v, rfl, rfl, hq, h1, fin⟩
        · exact .inr (.inl ⟨a, vs, i, v, rfl, rfl, hq, h1, fin⟩)
      · cases h
    · cases h
  · cases h
section
variable {X : Cx} {a b : Expr} {ta tb : TE} {fa fb : FE} {pos : Pos}
theorem se_item (ha : SE X a fa) (hb : SE X b fb) (hp : PlainIx b := by exact fun _ _ => rfl) : SE X (.Subscript a b pos) (fOp gIx fa fb) := se_ix ix_seq snd_ix ha hb hp
end
def gLen : FN := fun xs S => match xs with
  | [x] => (match x with
    | .str z => if z.length ≤ sizeLine then some (.int (z.length : Nat), S) else none
    | _ => match seqOf S x with | some ys => some (.int (ys.length : Nat), S) | none => none)
  | _ => none
theorem snd_len {K : PySem.W.Frag} : SndC K (fun xs H Q => ∃ x n, xs = [x] ∧ LenV K x H n ∧ Q (.int (n : Nat)) H) gLen := by
  intro xs S z S' h H r vs Q hS qs k
  unfold gLen at h
  split at h
  · rename_i x
    cases qs with
    | cons qx q2 =>
      cases q2
      split at h
      · rename_i y
        split at h
        · rename_i hl
          cases h
          cases qx
          exact ⟨_, _, rfl, ⟨hl, rfl⟩, k H r _ (Ext.refl _ _ _) hS (.int _)⟩
        · cases h
      · split at h
        · rename_i ys q
          cases h
          obtain ⟨a, us, rfl, hq, hs⟩ := seq_read hS qx q
          refine ⟨_, ys.length, rfl, ?_, k H r _ (Ext.refl _ _ _) hS (.int _)⟩
          rcases hq with hq | hq
          · exact .inl ⟨us, hq, hs.length⟩
          · exact .inr ⟨us, hq, hs.length⟩
        · cases h
  · cases h
def gAbs : FN := fun xs S => match xs with
  | [.int i] => some (.int (if i < 0 then -i else i), S)
  | _ => none
def gMin2 : FN := fun xs S => match xs with
  | [.int i, .int j] => some (.int (if j < i then j else i), S)
  | _ => none
def bls : List A → Option (List Bool)
  | [] => some []
  | .bl b :: xs => (match bls xs with | some bs => some (b :: bs) | none => none)
  | _ :: _ => none
theorem bls_rel {H : Hp} {r : Nat → Addr} {n : Nat} : ∀ {xs : List A} {vs : List V} {bs : List Bool}, RAs H r n xs vs → bls xs = some bs → vs = bs.map V.bl
  | _, _, _, .nil, h => by cases h; rfl
  | _, _, _, .cons (x := x) qx qs, h => by
    cases x with
    | bl b =>
      simp only [bls] at h
      split at h
      · rename_i bs q
        cases h
        rw [bls_rel qs q, qx.bl_eq]
        rfl
      · cases h
    | _ => cases h
theorem bls_map (bs : List Bool) : bls (bs.map A.bl) = some bs := by
  induction bs with
  | nil => rfl
  | cons b bs ih => simp only [List.map_cons, bls, ih]
def gAllAny (f : List Bool → Bool) : FN := fun xs S => match xs with
  | [.ref k] => (match seqOf S (.ref k) with
    | some ys => (match bls ys with | some bs => some (.bl (f bs), S) | none => none)
    | none => none)
  | _ => none
theorem snd_allany {K : PySem.W.Frag} (f : List Bool → Bool) : SndC K (fun vs H Q => ∃ (a : Addr) (bs : List Bool), vs = [V.ref a] ∧ SqL K H a (bs.map V.bl) ∧ Q (.bl (f bs)) H) (gAllAny f) := by
  intro xs S z S' h H r vs Q hS qs k
  unfold gAllAny at h
  split at h
  · rename_i kk
    split at h
    · rename_i ys q
      split at h
      · rename_i bs q2
        cases h
        cases qs with
        | cons qx q3 =>
          cases q3
          cases qx with
          | ref hk =>
            have z : S[kk]? = some (.lst ys) ∨ S[kk]? = some (.fz ys) := by
              simp only [seqOf] at q
              split at q
              · rename_i q'; cases q; exact .inl q'
              · rename_i q'; cases q; exact .inr q'
              · cases q
            obtain ⟨us, h1, h2⟩ := hS.sq z
            rw [bls_rel h2 q2] at h1
            exact ⟨_, bs, rfl, h1, k H r _ (Ext.refl _ _ _) hS (.bl _)⟩
      · cases h
    · cases h
  · cases h
def tyA : A → Option String
  | .non => some "NoneType"
  | .bl _ => some "bool"
  | .int _ => some "int"
  | .str _ => some "str"
  | .tup _ => some "tuple"
  | .ref _ => none
  | .ty _ => none
  | .dic => some "dict"
def tyAS (S : Sto) : A → Option String
  | .ref k => match S[k]? with | some (.lst _) => some "list" | _ => none
  | x => tyA x
def kit0 (T C : String) : Option Bool := if (Value.type T == Value.type C) = true then some true else if PySem.W.kitMeta C = true then (fastBuiltinMro T).map (·.contains (Value.type C)) else none
theorem kit0_eq (K : PySem.W.Frag) (T C : String) : PySem.W.kitOne K (.type T) (.type C) = kit0 T C := rfl
def gIsi : FN := fun xs S => match xs with
  | [x, .ty c] => (match tyAS S x with | some t => (match kit0 t c with | some b => some (.bl b, S) | none => none) | none => none)
  | _ => none
theorem call_isi {X : Cx} : CallR X (.builtin "isinstance") (fun xs H Q => ∃ x c t b, xs = [x, .ty c] ∧ TyOf X.K H x (.type t) ∧ kit0 t c = some b ∧ Q (.bl b) H) := by
  intro pins s sg H xs us Q I r h
  obtain ⟨x, c, t, b, rfl, ty, e, q⟩ := h
  cases r with
  | cons r1 r2 =>
    cases r2 with
    | cons r3 r4 =>
      cases r4
      cases r3
      exact isinst_ok I r1 ty (by rw [kit0_eq]; exact e) fun tk => ⟨.bl b, H, I.tok _, rfl, q⟩
theorem snd_isi {K : PySem.W.Frag} : SndC K (fun xs H Q => ∃ x c t b, xs = [x, .ty c] ∧ TyOf K H x (.type t) ∧ kit0 t c = some b ∧ Q (.bl b) H) gIsi := by
  intro xs S z S' h H r vs Q hS qs k
  unfold gIsi at h
  split at h
  · rename_i x c
    split at h
    · rename_i t q
      split at h
      · rename_i b q2
        cases h
        cases qs with
        | cons qx q3 =>
          cases q3 with
          | cons qy q4 =>
            cases q4
            cases qy
            refine ⟨_, c, t, b, rfl, ?_, q2, k H r _ (Ext.refl _ _ _) hS (.bl _)⟩
            cases qx with
            | non => cases q; exact .non
            | bl b => cases q; exact .bl b
            | int i => cases q; exact .int i
            | str y => cases q; exact .str y
            | tup ha hs => cases q; exact .tup ha
            | ty y => cases q
            | dic ha => cases q; exact .dK ha
            | @ref kk hk =>
              simp only [tyAS] at q
              split at q
              · rename_i ys q'
                cases q
                obtain ⟨us, h1, _⟩ := hS.obj _ _ q'
                exact .lst h1
              · cases q
      · cases h
    · cases h
  · cases h
section
variable {X : Cx} {e e2 : Expr} {es : List Expr} {t : TA} {fa : FA} {pos p : Pos}
theorem se_len (hm : X.mg "len" = none) (ha : SA X (e :: es) fa) (hg : Gl X "len" := by rfl) (he : starEach (e :: es) X.env = (false, eval e X.env) :: starEach es X.env := by rfl) (hpl : (backTo pos (starEach es X.env)).any (·.1) = false := by rfl) :
    SE X (.Call (.Name "len" p) (e :: es) [] pos) (fCall gLen fa) := se_callB call_len snd_len hg hm PySem.boot_len ha (by decide) (by decide) he hpl
theorem se_all (hm : X.mg "all" = none) (ha : SA X (e :: es) fa) (hc : X.calm = true := by rfl) (hg : Gl X "all" := by rfl) (he : starEach (e :: es) X.env = (false, eval e X.env) :: starEach es X.env := by rfl) (hpl : (backTo pos (starEach es X.env)).any (·.1) = false := by rfl) :
    SE X (.Call (.Name "all" p) (e :: es) [] pos) (fCall (gAllAny fun bs => bs.all id) fa) := se_callB (cr_all hc) (snd_allany _) hg hm (by decide +kernel) ha (by decide) (by decide) he hpl
theorem se_isi (hm : X.mg "isinstance" = none) (ha : SA X (e :: es) fa) (hg : Gl X "isinstance" := by rfl) (he : starEach (e :: es) X.env = (false, eval e X.env) :: starEach es X.env := by rfl) (hpl : (backTo pos (starEach es X.env)).any (·.1) = false := by rfl) :
    SE X (.Call (.Name "isinstance" p) (e :: es) [] pos) (fCall gIsi fa) := se_callB call_isi snd_isi hg hm (by decide +kernel) ha (by decide) (by decide) he hpl
theorem se_ty {x : Str} (T : String) (hm : X.mg x = none) (hv : bootBuiltins x = some (.type T)) (hg : Gl X x := by rfl) (hn : x ≠ "__name__" := by decide) (hd : (x == ("__debug__" : Str)) = false := by decide) : SE X (.Name x pos) (fC (.ty T)) :=
  ⟨tC (.ty T), pe_bltn hg hm hv rfl hn hd, snd_c fun _ _ _ => .ty T⟩
end
def gAppend : A → List A → Sto → Option (A × Sto) := fun x xs S => match x, xs with
  | .ref k, [y] => (match S[k]? with
    | some (.lst ys) => if ys.length < sizeLine then some (.non, S.set k (.lst (ys ++ [y]))) else none
    | _ => none)
  | _, _ => none
def fMethV (g : A → List A → Sto → Option (A × Sto)) (i : Nat) (fa : FA) : FE := fun e S => match e[i]? with
  | some (some (.ref k)) => (match S[k]? with
    | some _ => (match fa e S with | some (xs, S2) => g (.ref k) xs S2 | none => none)
    | none => none)
  | _ => none
theorem snd_appendV {K : PySem.W.Frag} {i : Nat} {t : TA} {fa : FA} (h2 : SndA K t fa) : SndE K (tBM K "list" rAppend (tVar i) t) (fMethV gAppend i fa) := by
  intro e S v S' h H r sg Q hS hE k
  unfold fMethV at h
  split at h
  · rename_i kk q1
    split at h
    · rename_i o ho
      split at h
      · rename_i xs S2 q2
        unfold gAppend at h
        split at h
        · rename_i k2 y heq
          cases heq
          split at h
          · rename_i ys q3
            split at h
            · rename_i hlen
              cases h
              obtain ⟨w, e1, qv⟩ := hE.get _ _ q1
              refine ⟨w, e1, ?_⟩
              cases qv with
              | ref hk =>
                have z : ∃ us, SqL K H (r kk) us := by
                  cases o with
                  | lst zs => obtain ⟨us, z, _⟩ := hS.sq (.inl ho); exact ⟨us, z⟩
                  | fz zs => obtain ⟨us, z, _⟩ := hS.sq (.inr ho); exact ⟨us, z⟩
                refine ⟨.inl ⟨rfl, z⟩, ?_⟩
                refine h2 _ _ _ _ q2 _ _ _ _ hS hE fun H2 r2 vs x2 s2 qs => ?_
                cases qs with
                | cons qy q4 =>
                  cases q4
                  obtain ⟨us, ha, hs⟩ := s2.obj _ _ q3
                  have rk : r2 kk = r kk := x2.eq kk hk
                  rw [rk] at ha
                  refine ⟨_, us, _, rfl, rfl, ha, by rw [← hs.length]; exact hlen, ?_⟩
                  have len : (S2.set kk (SO.lst (ys ++ [y]))).length = S2.length := by simp
                  refine k _ r2 _ ?_ ?_ .non
                  · rw [len]
                    exact x2.trans (ext_upd ha)
                  · have zz := s2.write (ys := ys ++ [y]) (vs := us ++ [_]) q3 (by rw [rk]; exact ha) (hs.append (.cons qy .nil))
                    rw [rk] at zz
                    exact zz
            · cases h
          · cases h
        · cases h
      · cases h
    · cases h
  · cases h
section
variable {X : Cx} {e : Expr} {es : List Expr} {t : TA} {fa : FA} {pos apos cpos : Pos}
theorem se_append (i : Nat) {x : Str} (ha : SA X (e :: es) fa) (hN : X.N[i]? = some x := by rfl) (hv : Vis X.env.scope x := by first | exact Or.inl rfl | exact Or.inr (Or.inl rfl) | exact Or.inr (Or.inr rfl)) (hd : (x == ("__debug__" : Str)) = false := by decide)
    (hcd : (x == ("__classdict__" : Str)) = false := by decide)
    (hbase : attributeBase (.Name x pos) "append" X.env (eval (.Name x pos) X.env) = eval (.Name x pos) X.env := by rfl)
    (hfew : ((backTo cpos (starEach (e :: es) X.env)).all (fun x => !x.1) && (backToKw cpos (keywordEach [] X.env)).all (fun x => x.1.isSome)
      && decide ((e :: es).length + ([] : List Keyword).length + (if ([] : List Keyword).isEmpty then 0 else 1) < 30)) = true := by rfl)
    (hline : (apos.endLine == cpos.line) = true := by rfl) (hs : starEach (e :: es) X.env = (false, eval e X.env) :: starEach es X.env := by rfl) (hplain : (backTo cpos (starEach es X.env)).any (·.1) = false := by rfl) :
    SE X (.Call (.Attribute (.Name x pos) "append" apos) (e :: es) [] cpos) (fMethV gAppend i fa) :=
  ⟨_, pe_bm PySem.F.plainAttrs_list PySem.F.slot_list_append PySem.F.type_list_append mt_append (pe_var hN hv hd hcd) ha.p hbase hfew hline hs hplain, snd_appendV ha.s⟩
end
def dsOf (f : A → Option PyData) : List A → Option (List PyData)
  | [] => some []
  | x :: xs => (match f x with | some d => (match dsOf f xs with | some ds => some (d :: ds) | none => none) | none => none)
def toD (S : Sto) : Nat → A → Option PyData
  | 0, _ => none
  | n + 1, x => match x with
    | .non => some .none
    | .bl b => some (.bool b)
    | .int i => some (.int i)
    | .str y => some (.str y)
    | .tup xs => (match dsOf (toD S n) xs with | some ds => some (.tuple ds) | none => none)
    | .ref k => (match S[k]? with
      | some (.lst xs) => (match dsOf (toD S n) xs with | some ds => some (.list ds) | none => none)
      | some (.fz xs) => (match dsOf (toD S n) xs with | some ds => some (.list ds) | none => none)
      | none => none)
    | .ty _ => none
    | .dic => some (.dict [])
mutual
inductive Dq (K : PySem.W.Frag) (H : Hp) : V → PyData → Prop
  | non : Dq K H .non .none
  | bl (b : Bool) : Dq K H (.bl b) (.bool b)
  | int (i : Int) : Dq K H (.int i) (.int i)
  | str (x : Str) : Dq K H (.str x) (.str x)
  | lst {a : Addr} {xs : List V} {ds : List PyData} (q : SqL K H a xs) (qs : DqAll K H xs ds) : Dq K H (.ref a) (.list ds)
  | tup {a : Addr} {xs : List V} {ds : List PyData} (q : SqT K H a xs) (qs : DqAll K H xs ds) : Dq K H (.ref a) (.tuple ds)
  | dic {a : Addr} (q : H a = some (.dK [])) : Dq K H (.ref a) (.dict [])
inductive DqAll (K : PySem.W.Frag) (H : Hp) : List V → List PyData → Prop
  | nil : DqAll K H [] []
  | cons {v : V} {vs : List V} {d : PyData} {ds : List PyData} (q : Dq K H v d) (qs : DqAll K H vs ds) : DqAll K H (v :: vs) (d :: ds)
end
mutual
theorem Dq.dp {K : PySem.W.Frag} {H : Hp} : ∀ {v : V} {d : PyData}, Dq K H v d → d.hasDict = false → Dp K H v d
  | _, _, .non, _ => .non
  | _, _, .bl b, _ => .bl b
  | _, _, .int i, _ => .int i
  | _, _, .str x, _ => .str x
  | _, _, .lst q qs, h => .lst q (DqAll.dp qs (by rw [PyData.hasDict] at h; exact h))
  | _, _, .tup q qs, h => .tup q (DqAll.dp qs (by rw [PyData.hasDict] at h; exact h))
  | _, _, .dic _, h => by rw [PyData.hasDict] at h; cases h
theorem DqAll.dp {K : PySem.W.Frag} {H : Hp} : ∀ {vs : List V} {ds : List PyData}, DqAll K H vs ds → PyData.hasDictAll ds = false → DpAll K H vs ds
  | _, _, .nil, _ => .nil
  | _, _, .cons q qs, h => by
    rw [PyData.hasDictAll, Bool.or_eq_false_iff] at h
    exact .cons (q.dp h.1) (qs.dp h.2)
end
theorem Dq.shaped {K : PySem.W.Frag} {H : Hp} {v : V} {d : PyData} (h : Dq K H v d) (s : SeqAt.shaped d = true) : Dp K H v d := h.dp (PyData.hasDict_of_canLay d (SeqAt.canLay_of_shaped s))
theorem ds_rel {K : PySem.W.Frag} {H : Hp} {r : Nat → Addr} {m : Nat} {f : A → Option PyData} (hf : ∀ x v d, f x = some d → RA H r m x v → Dq K H v d) :
    ∀ {xs : List A} {vs : List V} {ds : List PyData}, RAs H r m xs vs → dsOf f xs = some ds → DqAll K H vs ds
  | _, _, _, .nil, h => by cases h; exact .nil
  | _, _, _, .cons qx qs, h => by
    simp only [dsOf] at h
    split at h
    · rename_i d q
      split at h
      · rename_i ds q2
        cases h
        exact .cons (hf _ _ _ q qx) (ds_rel hf qs q2)
      · cases h
    · cases h
theorem toD_rel {K : PySem.W.Frag} {H : Hp} {r : Nat → Addr} {S : Sto} (hS : SR K H r S) : ∀ (n : Nat) (x : A) (v : V) (d : PyData), toD S n x = some d → RA H r S.length x v → Dq K H v d
  | 0, _, _, _, h, _ => by cases h
  | n + 1, x, v, d, h, q => by
    cases q with
    | non => cases h; exact .non
    | bl b => cases h; exact .bl b
    | int i => cases h; exact .int i
    | str y => cases h; exact .str y
    | ty y => cases h
    | dic ha => cases h; exact .dic ha
    | tup ha hs =>
      simp only [toD] at h
      split at h
      · rename_i ds q2
        cases h
        exact .tup (SqT.of ha) (ds_rel (fun x v d => toD_rel hS n x v d) hs q2)
      · cases h
    | @ref k hk =>
      simp only [toD] at h
      split at h
      · rename_i xs q1
        split at h
        · rename_i ds q2
          cases h
          obtain ⟨vs, h1, h2⟩ := hS.sq (.inl q1)
          exact .lst h1 (ds_rel (fun x v d => toD_rel hS n x v d) h2 q2)
        · cases h
      · rename_i xs q1
        split at h
        · rename_i ds q2
          cases h
          obtain ⟨vs, h1, h2⟩ := hS.sq (.inr q1)
          exact .lst h1 (ds_rel (fun x v d => toD_rel hS n x v d) h2 q2)
        · cases h
      · cases h
def gEqD (neg : Bool) : FO := fun x y S => match toD S 12 x, toD S 12 y with
  | some d, some e => if (SeqAt.shaped d && SeqAt.shaped e) = true then some (.bl (if neg then !(PyData.eqv d e) else PyData.eqv d e), S) else none
  | _, _ => none
theorem snd_eqD {K : PySem.W.Frag} : SndO K (rEqD K) (gEqD false) := by
  intro x y S z S' h H r x' y' Q hS qx qy k
  unfold gEqD at h
  split at h
  · rename_i d e h1 h2
    split at h
    · rename_i hs
      cases h
      rw [Bool.and_eq_true] at hs
      exact ⟨d, e, (toD_rel hS _ _ _ _ h1 qx).shaped hs.1, (toD_rel hS _ _ _ _ h2 qy).shaped hs.2, hs.1, hs.2, k H r _ (Ext.refl _ _ _) hS (.bl _)⟩
    · cases h
  · cases h
theorem snd_neD {K : PySem.W.Frag} : SndO K (rNeD K) (gEqD true) := by
  intro x y S z S' h H r x' y' Q hS qx qy k
  unfold gEqD at h
  split at h
  · rename_i d e h1 h2
    split at h
    · rename_i hs
      cases h
      rw [Bool.and_eq_true] at hs
      exact ⟨d, e, (toD_rel hS _ _ _ _ h1 qx).shaped hs.1, (toD_rel hS _ _ _ _ h2 qy).shaped hs.2, hs.1, hs.2, k H r _ (Ext.refl _ _ _) hS (.bl _)⟩
    · cases h
  · cases h
section
variable {X : Cx} {a b : Expr} {ta tb : TE} {fa fb : FE} {pos : Pos} {k : Nat}
theorem se_eq (hr : Room k X.A) (ha : SE X a fa) (hb : SE X b fb) : SE X (.Compare a [.Eq] [b] pos) (fOp (gEqD false) fa fb) := se_cmp (op_eqD hr.units) snd_eqD ha hb
end
section
open PyProof.Rows (IsTup assignInOrder_nil assignInOrder_cons)
variable {prog : Program} {w : World} {A : Around} {E : Value → Shared → Prop} {s : Shared}
theorem draw_list {it t : Addr} {items : Array Value} (hne : t ≠ it) : ∀ (n i : Nat) (s : Shared) (Q : List Value → Shared → Prop), s.heap.IsListIter it t i → s.heap.IsList t items → i + n ≤ items.size →
    (∀ h' : Heap, h'.IsListIter it t (i + n) → Heap.SameBut it s.heap h' → Q ((items.toList.drop i).take n) { s with heap := h' }) → wpAny (model prog w) A (draw (.ref it) n) Q E s
  | 0, i, s, Q, hit, _, _, hQ => by
    show wpAny _ _ (pure []) Q E s
    exact wpAny_pure (by simpa using hQ s.heap hit (Heap.SameBut.refl ..))
  | n + 1, i, s, Q, hit, ht, hle, hQ => by
    have hlt : i < items.size := by omega
    show wpAny _ _ (pyNext (.ref it) >>= _) Q E s
    refine wpAny_bind (wpAny_pyNext_list_item hit ht (x := items[i]) (by simp [hlt]) fun h₁ hit₁ hs₁ => ?_)
    refine wpAny_bind (wpAny_holding (draw_list hne n (i + 1) _ _ hit₁ (ht.extBut hs₁.extBut hne) (by omega) fun h₂ hit₂ hs₂ => wpAny_pure ?_))
    have hd : items.toList.drop i = items[i] :: items.toList.drop (i + 1) := by simp [List.drop_eq_getElem_cons, hlt]
    have := hQ h₂ (by rw [show i + (n + 1) = i + 1 + n by omega]; exact hit₂) (hs₁.trans hs₂)
    rw [hd, List.take_succ_cons] at this
    exact this
theorem unpackItems_list {t : Addr} {items : Array Value} {Q : List Value → Shared → Prop} (hh : A.handled = none) (ht : s.heap.IsList t items)
    (hQ : ∀ h', Heap.ExtBut s.heap.objs.size s.heap h' → Q items.toList { s with heap := h' }) : wpAny (model prog w) A (unpackItems (.ref t) items.size none) Q E s := by
  have hlt : t ≠ s.heap.objs.size := by obtain ⟨o, ho, _⟩ := ht; exact Nat.ne_of_lt (Heap.lt_size ho)
  unfold unpackItems
  refine wpAny_bind ?_
  · unfold notIterableAtAll
    refine wpAny_bind (wpAny_specialOf ht.typeIs slot_list_iter.lookup ?_)
    refine wpAny_pure ?_
    simp only [Bool.false_eq_true, if_false]
    refine wpAny_bind (wpAny_holding (wpAny_pyIter_list ht ?_))
    refine wpAny_bind (wpAny_holding (draw_list hlt items.size 0 _ _ ⟨_, Heap.get?_push_size _ rfl, rfl, rfl⟩ (ht.push _) (by omega) fun h₁ hit₁ hs₁ => ?_))
    have hall : List.take items.size (List.drop 0 items.toList) = items.toList := by
      rw [List.drop_zero]; exact List.take_of_length_le (by simp)
    rw [hall]
    rw [if_neg (by simp)]
    have ht₁ : h₁.IsList t items := (ht.push _).extBut hs₁.extBut hlt
    rw [Nat.zero_add] at hit₁
    refine wpAny_bind (wpAny_holding (wpAny_pyNext_list_end hh hit₁ ht₁ (by simp) fun h₂ he₂ => ?_))
    simp only [Option.isSome_none, Bool.false_eq_true, if_false]
    refine wpAny_pure (hQ h₂ fun b o hb e => he₂ b o hb (hs₁.extBut b o hb (Heap.get?_push_of_some _ e)))
theorem assign_Tuple_list {env : Env} {elts : List Expr} {x1} {pos : Pos} {t : Addr} {items : Array Value} {Q : Unit → Shared → Prop} (hh : A.handled = none) (ht : s.heap.IsList t items)
    (hn : (assignEach elts env).length = items.size) (hstar : (assignEach elts env).findIdx? (·.1) = none)
    (h : ∀ h', Heap.ExtBut s.heap.objs.size s.heap h' → wpAny (model prog w) A (assignInOrder ((assignEach elts env).map (·.2)) items.toList) Q E { s with heap := h' }) :
    wpAny (model prog w) A (assign (.Tuple elts x1 pos) env (.ref t)) Q E s := by
  rw [PyProof.Rows.assign_Tuple]
  refine wpAny_bind (wpAny_standAt ?_)
  unfold unpack
  rw [hn, hstar]
  exact wpAny_bind (wpAny_holding (unpackItems_list hh ht h))
end
def gTupL (K : PySem.W.Frag) (n : Nat) (t : TGs) : TG := fun v σ H Q => ∃ a xs, v = .ref a ∧ SqL K H a xs ∧ xs.length = n ∧ t xs σ H Q
theorem pg_tupL {X : Cx} {pos : Pos} {es : List Expr} {k : Nat} {t : TGs} {n : Nat} (hc : X.calm = true) (h : PGs X es t)
    (hn : (assignEach es X.env).length = n := by rfl) (hst : (assignEach es X.env).findIdx? (·.1) = none := by rfl) : PG X (.Tuple es k pos) (gTupL X.K n t) := by
  intro pins s σ H v u Q I r hw
  obtain ⟨a, xs, e1, hq, hl, hw⟩ := hw
  subst e1
  cases r
  obtain ⟨its, rv, ht, hz⟩ := I.list hq
  refine assign_Tuple_list (I.ok.hd hc) ht.isList (by simp [hn, ← hl, rv.length]) hst fun h' hx => ?_
  have I1 : Inv X pins σ H { s with heap := h' } := I.kept (t' := s.toks) fun b o e => hx b o (Nat.ne_of_lt (Heap.lt_size e)) e
  exact h pins _ σ H xs _ Q I1 (by simpa using rv) hw
end F
namespace F
open PySem PySem.Spec L2
def iSeq (K : PySem.W.Frag) (tl : TE) : TI := fun σ H R => tl σ H fun x H1 => ∃ a, x = .ref a ∧ (((∃ xs, SqL K H1 a xs) ∧ R (Itl K a) H1) ∨ ((∃ xs, SqT K H1 a xs) ∧ R (Itt K a) H1))
theorem pi_seq {X : Cx} {tg l : Expr} {tl : TE} (hl : PE X l tl) : PI X tg l (iSeq X.K tl) := by
  intro pins s σ H R I h
  refine thn (hl pins s σ H _ I h) fun v s1 ⟨x, H1, I1, r1, q1⟩ => ?_
  obtain ⟨a, e, q⟩ := q1
  subst e
  cases r1
  rcases q with ⟨⟨xs, hq⟩, q⟩ | ⟨⟨xs, hq⟩, q⟩
  · obtain ⟨its, rv, p, hz⟩ := I1.list hq
    refine wpAny_pyIter_list p.isList ?_
    refine ⟨s1.heap.objs.size, [s1.heap.objs.size], _, _, H1, rfl, I1.kept (t' := s1.toks) fun b o e => Heap.get?_push_of_some _ e, turn_list a _, ⟨_, Heap.get?_push_size _ rfl, rfl, rfl⟩, fun b hb => ?_, q⟩
    have e : b = s1.heap.objs.size := by simpa using hb
    subst e
    exact I1.fpOk (Nat.le_refl _) (I1.hok.fresh (Nat.le_refl _))
  · obtain ⟨its, rv, p, hz⟩ := I1.tuple hq
    refine wpAny_pyIter_tuple (show s1.heap.IsTuple a its.toArray from p) ?_
    refine ⟨s1.heap.objs.size, [s1.heap.objs.size], _, _, H1, rfl, I1.kept (t' := s1.toks) fun b o e => Heap.get?_push_of_some _ e, turn_tuple a _, ⟨_, Heap.get?_push_size _ rfl, rfl, rfl⟩, fun b hb => ?_, q⟩
    have e : b = s1.heap.objs.size := by simpa using hb
    subst e
    exact I1.fpOk (Nat.le_refl _) (I1.hok.fresh (Nat.le_refl _))
def fwSeq (f : FE) : FW := fun e S => match f e S with
  | some (.tup xs, S1) => some (.items xs, S1)
  | some (.ref k, S1) => (match S1[k]? with | some _ => some (.live k, S1) | none => none)
  | _ => none
theorem snd_wseq {K : PySem.W.Frag} {t : TE} {f : FE} (h1 : SndE K t f) : SndI K (iSeq K t) (fwSeq f) := by
  intro e S F S' h H r sg R hS hE k
  unfold fwSeq at h
  split at h
  · rename_i xs S1 q
    cases h
    refine h1 _ _ _ _ q _ _ _ _ hS hE fun H1 r1 v x1 s1 qv => ?_
    cases qv with
    | @tup a _ vs ha hs => exact ⟨a, rfl, .inr ⟨⟨vs, SqT.of ha⟩, k _ H1 r1 x1 s1 (itr_tup ha hs)⟩⟩
  · rename_i kk S1 q
    split at h
    · rename_i o q2
      cases h
      refine h1 _ _ _ _ q _ _ _ _ hS hE fun H1 r1 v x1 s1 qv => ?_
      cases qv with
      | ref hk =>
        have z : ∃ vs, SqL K H1 (r1 kk) vs := by
          cases o with
          | lst xs => obtain ⟨vs, z, _⟩ := s1.sq (.inl q2); exact ⟨vs, z⟩
          | fz xs => obtain ⟨vs, z, _⟩ := s1.sq (.inr q2); exact ⟨vs, z⟩
        exact ⟨_, rfl, .inl ⟨z, k _ H1 r1 x1 s1 (itr_list kk hk)⟩⟩
    · cases h
  · cases h
theorem si_seq {X : Cx} {tg l : Expr} {fl : FE} (h : SE X l fl) : SI X tg l (fwSeq fl) := ⟨_, pi_seq h.p, snd_wseq h.s⟩
def gSeqT (K : PySem.W.Frag) (n : Nat) (t : TGs) : TG := fun v σ H Q => gTup K n t v σ H Q ∨ gTupL K n t v σ H Q
def fgSeq (n : Nat) (f : FGs) : FG := fun x e S => match seqOf S x with | some xs => if xs.length = n then f xs e S else none | none => none
theorem snd_gseq {K : PySem.W.Frag} {ws : List Nat} {n : Nat} {t : TGs} {f : FGs} (h1 : SndGs K ws t f) : SndG K ws (gSeqT K n t) (fgSeq n f) := by
  intro x e S e' S' h H r sg x' Q hS hE q k
  unfold fgSeq at h
  split at h
  · rename_i xs q2
    split at h
    · rename_i hl
      obtain ⟨a, vs, rfl, hq, hs⟩ := seq_read hS q q2
      have fin := h1 _ _ _ _ _ h _ _ _ _ _ hS hE hs k
      rcases hq with hq | hq
      · exact .inr ⟨a, vs, rfl, hq, by rw [← hs.length]; exact hl, fin⟩
      · exact .inl ⟨a, vs, rfl, hq, by rw [← hs.length]; exact hl, fin⟩
    · cases h
  · cases h
theorem sg_seq {X : Cx} {pos : Pos} {es : List Expr} {ws : List Nat} {g : FGs} {k n : Nat} (h : SGs X es ws g) (hc : X.calm = true := by rfl) (hn : (assignEach es X.env).length = n := by rfl) (hst : (assignEach es X.env).findIdx? (·.1) = none := by rfl) :
    SG X (.Tuple es k pos) ws (fgSeq n g) :=
  ⟨_, fun pins s sg H v w Q I r hw => hw.elim (fun z => pg_tup hc h.p hn hst pins s sg H v w Q I r z) fun z => pg_tupL hc h.p hn hst pins s sg H v w Q I r z, snd_gseq h.s⟩
def fNeg (f : FE) : FE := fun e S => match f e S with | some (.int i, S1) => some (.int (-i), S1) | _ => none
theorem se_neg {X : Cx} {a : Expr} {fa : FE} {pos : Pos} (ha : SE X a fa) : SE X (.UnaryOp .USub a pos) (fNeg fa) := ⟨_, pe_un un_neg ha.p, by
  intro e S v S' h H r sg Q hS hE k
  unfold fNeg at h
  split at h
  · rename_i i S1 q
    cases h
    refine ha.s _ _ _ _ q _ _ _ _ hS hE fun H1 r1 w x1 s1 qv => ?_
    cases qv.int_eq
    exact ⟨i, rfl, k H1 r1 _ x1 s1 (.int _)⟩
  · cases h⟩
section
variable {X : Cx} {a b : Expr} {ta tb : TE} {fa fb : FE} {pos : Pos} {k : Nat}
theorem st_c {op : CmpOp} {t : R2} {g : FO} (ho : OpR X (compareOp op) t) (hs : SndO X.K t g) (ha : SE X a fa) (hb : SE X b fb) (hm : behindInMarks op b = false := by first | exact nomark _ | rfl | (with_unfolding_all rfl)) : ST X (.Compare a [op] [b] pos) (fB (fOp g fa fb)) :=
  ⟨_, pt_cmpR ho ha.p hb.p hm, snd_tTest (snd_op hs ha.s hb.s)⟩
theorem st_lt (ha : SE X a fa) (hb : SE X b fb) : ST X (.Compare a [.Lt] [b] pos) (fB (fOp gLt fa fb)) := st_c op_lt (snd_rI0 fun _ _ _ _ _ => .bl _) ha hb
theorem st_gt (ha : SE X a fa) (hb : SE X b fb) : ST X (.Compare a [.Gt] [b] pos) (fB (fOp gGt fa fb)) := st_c op_gt (snd_rI0 fun _ _ _ _ _ => .bl _) ha hb
theorem st_ge (ha : SE X a fa) (hb : SE X b fb) : ST X (.Compare a [.GtE] [b] pos) (fB (fOp gGe fa fb)) := st_c op_ge (snd_rI0 fun _ _ _ _ _ => .bl _) ha hb
theorem st_eq (hr : Room k X.A) (ha : SE X a fa) (hb : SE X b fb) : ST X (.Compare a [.Eq] [b] pos) (fB (fOp (gEqD false) fa fb)) := st_c (op_eqD hr.units) snd_eqD ha hb
theorem st_ne (hr : Room k X.A) (ha : SE X a fa) (hb : SE X b fb) : ST X (.Compare a [.NotEq] [b] pos) (fB (fOp (gEqD true) fa fb)) := st_c (op_neD hr.units) snd_neD ha hb
end
theorem law_sp {K : PySem.W.Frag} {H : Hp} {a : Addr} {ns : List Int} {g : FN} {S' : Sto} (hO : Only H) (hS : SqL K H a (ns.map V.int)) (hg : g [.ref 0] [.fz (ns.map A.int)] = some (.bl true, S')) : spF K 1 g [.ref a] H (fun v _ => v = .bl true) fun _ _ _ => False := by
  refine ⟨rfl, [.ref 0], [.fz (ns.map A.int)], .bl true, S', fun _ => a, hg, ⟨fun i o q => ?_, fun i j xs ys q1 _ _ => ?_⟩, .cons (.ref (Nat.lt_succ_self 0)) .nil, fun H' r' v' _ _ q => q.bl_eq⟩
  · have hi := getElem_lt q
    have e : i = 0 := by simpa using hi
    subst e
    cases q
    refine ⟨ns.map V.int, ?_, RAs.ints ns⟩
    rcases hS with (h | ⟨o, h⟩) | h
    · rcases hO a with z | ⟨o, xs, z⟩
      · rw [h] at z; cases z
      · rw [h] at z; cases z
    · exact .inl ⟨o, h⟩
    · exact .inr (.inr h)
  · have hi := getElem_lt q1
    have e : i = 0 := by simpa using hi
    subst e
    cases q1
end F
namespace F
open PySem PySem.Spec L2
def fNever : FS := fun _ _ => none
theorem ss_never {X : Cx} {st : Stmt} : SS X st fNever := ⟨_, ps_never, by intro e S fl S' h; cases h⟩
theorem se_globI {X : Cx} {x : Str} {pos : Pos} {i : Int} {t : Tok} (hm : X.mg x = some (.int i t)) (hg : Gl X x := by rfl) (hd : (x == ("__debug__" : Str)) = false := by decide) : SE X (.Name x pos) (fC (.int i)) :=
  ⟨tC (.int i), pe_glob hg hm ⟨t, rfl⟩ hd, snd_c fun _ _ _ => .int i⟩
def fChain (g g' : FO) (fa fb fc : FE) : FE := fun e S => match fa e S with
  | some (x, S1) => (match fb e S1 with
    | some (y, S2) => (match g x y S2 with
      | some (.bl true, S3) => (match fc e S3 with | some (z, S4) => g' y z S4 | none => none)
      | some (.bl false, S3) => some (.bl false, S3)
      | _ => none)
    | none => none)
  | none => none
theorem snd_chain {K : PySem.W.Frag} {t t' : R2} {g g' : FO} {ta tb tc : TE} {fa fb fc : FE} (ho : SndO K t g) (ho' : SndO K t' g') (ha : SndE K ta fa) (hb : SndE K tb fb) (hc : SndE K tc fc) : SndE K (tChain t t' ta tb tc) (fChain g g' fa fb fc) := by
  intro e S v S' h H r sg Q hS hE k
  unfold fChain at h
  split at h
  · rename_i x S1 h1
    split at h
    · rename_i y S2 h2
      refine snd_two ha hb h1 h2 hS hE fun H' r' x' y' e1 s1 q1 q2 => ?_
      split at h
      · rename_i S3 h3
        refine ho _ _ _ _ _ h3 _ _ _ _ _ s1 q1 q2 fun H3 r3 v' e3 s3 q3 => ⟨true, q3.bl_eq, ?_⟩
        rw [if_pos rfl]
        split at h
        · rename_i z S4 h4
          refine hc _ _ _ _ h4 _ _ _ _ s3 (hE.ext (e1.trans e3)) fun H4 r4 z' e4 s4 q4 => ?_
          exact ho' _ _ _ _ _ h _ _ _ _ _ s4 (q2.ext (e3.trans e4)) q4 fun H5 r5 v5 e5 s5 q5 => k H5 r5 v5 (((e1.trans e3).trans e4).trans e5) s5 q5
        · cases h
      · rename_i S3 h3
        cases h
        refine ho _ _ _ _ _ h3 _ _ _ _ _ s1 q1 q2 fun H3 r3 v' e3 s3 q3 => ⟨false, q3.bl_eq, ?_⟩
        rw [if_neg Bool.false_ne_true]
        exact k H3 r3 _ (e1.trans e3) s3 (.bl _)
      · cases h
    · cases h
  · cases h
section
variable {X : Cx} {a b c : Expr} {fa fb fc : FE} {pos : Pos}
theorem se_chain_le_le (ha : SE X a fa) (hb : SE X b fb) (hc : SE X c fc) (hm : lastMarks [.LtE, .LtE] [b, c] = false := by with_unfolding_all rfl) : SE X (.Compare a [.LtE, .LtE] [b, c] pos) (fChain gLe gLe fa fb fc) :=
  ⟨_, pe_chain op_le op_le ha.p hb.p hc.p hm, snd_chain (snd_rI0 fun _ _ _ _ _ => .bl _) (snd_rI0 fun _ _ _ _ _ => .bl _) ha.s hb.s hc.s⟩
end
def flatA : A → Bool
  | .non => true | .bl _ => true | .int _ => true | .str _ => true | _ => false
def vOf : A → V
  | .non => .non | .bl b => .bl b | .int i => .int i | .str x => .str x | .ty n => .ty n | _ => .non
theorem vOf_eq {H : Hp} {r : Nat → Addr} {n : Nat} {x : A} {v : V} (h : RA H r n x v) (q : flatA x = true) : v = vOf x ∧ flatV v = true := by
  cases h with
  | non => exact ⟨rfl, rfl⟩
  | bl b => exact ⟨rfl, rfl⟩
  | int i => exact ⟨rfl, rfl⟩
  | str x => exact ⟨rfl, rfl⟩
  | tup _ _ => cases q
  | ref _ => cases q
  | ty _ => cases q
  | dic _ => cases q
section
variable {X : Cx} {a b : Expr} {fa fb : FE} {pos : Pos}
end
def gTuple : FN := fun xs S => match xs with
  | [x] => (match seqOf S x with | some ys => some (.tup ys, S) | none => none)
  | _ => none
theorem snd_tuple {K : PySem.W.Frag} : SndC K (fun xs H Q => ∃ p ys, xs = [.ref p] ∧ ((SqL K H p ys ∧ ∀ l, H l = none → Q (.ref l) (upd H l (.tup ys))) ∨ (SqT K H p ys ∧ Q (.ref p) H))) gTuple := by
  intro xs S z S' h H r vs Q hS qs k
  unfold gTuple at h
  split at h
  · rename_i x
    split at h
    · rename_i ys q
      cases h
      cases qs with
      | cons qx q2 =>
        cases q2
        cases qx with
        | tup ha hs =>
          cases q
          exact ⟨_, _, rfl, .inr ⟨SqT.of ha, k H r _ (Ext.refl _ _ _) hS (.tup ha hs)⟩⟩
        | @ref kk hk =>
          have z : S[kk]? = some (.lst ys) ∨ S[kk]? = some (.fz ys) := by
            simp only [seqOf] at q
            split at q
            · rename_i q'; cases q; exact .inl q'
            · rename_i q'; cases q; exact .inr q'
            · cases q
          obtain ⟨us, h1, h2⟩ := hS.sq z
          exact ⟨_, us, rfl, .inl ⟨h1, fun l hl => k _ r _ (ext_new hl) (hS.new hl) (.tup upd_same (h2.ext (ext_new hl)))⟩⟩
        | _ => cases q
    · cases h
  · cases h
section
variable {X : Cx} {e : Expr} {es : List Expr} {fa : FA} {pos p : Pos}
theorem se_tuple (hm : X.mg "tuple" = none) (ha : SA X (e :: es) fa) (hg : Gl X "tuple" := by rfl) (he : starEach (e :: es) X.env = (false, eval e X.env) :: starEach es X.env := by rfl) (hpl : (backTo pos (starEach es X.env)).any (·.1) = false := by rfl) :
    SE X (.Call (.Name "tuple" p) (e :: es) [] pos) (fCall gTuple fa) := se_callTy call_tuple_of snd_tuple hg hm (by decide +kernel) ha (by decide) (by decide) he hpl
end
section
open PyProof.Rows (IsTup)
theorem noR_tuple_mul' : fillsNumberSlot (.type "tuple") "mul" = pure false :=
  fillsNumberSlot_seq (id := "tuple.__mul__") (r := some (.builtin "tuple.__rmul__")) PySem.F.slot_tuple_mul.lookup (by decide +kernel) PySem.F.slot_tuple_rmul.lookup (by decide +kernel)
theorem rep_tuple' : seqRepeat? (.type "tuple") = pure (some (.builtin "tuple.__mul__")) := by
  unfold seqRepeat?
  rw [seqSlot_of (T := "tuple") (name := "__mul__") (id := "tuple.__mul__") PySem.F.slot_tuple_mul.lookup (by decide +kernel), seqSlot_of (T := "tuple") (name := "__rmul__") (id := "tuple.__rmul__") PySem.F.slot_tuple_rmul.lookup (by decide +kernel)]
  rfl
theorem rmul_int_tuple (a : Int) (t : Tok) (l : Addr) (dd : Option Addr) (items : Array Value) (n : Nat) (sl : Array (Option Value)) :
    Meets (Builtin.«int.__rmul__» ⟨[.int a t, .ref l], []⟩) (fun _ R s => s.heap.get? l = some { cls := .type "tuple", dict := dd, data := .seq items n, slots := sl } ∧ R (.ok (.ret Value.notImplemented)) s) :=
  .of_wp fun prog w A R s h => by obtain ⟨hp, g, d, tk, os⟩ := s; obtain ⟨hl, h⟩ := h; wp_walk; exact ⟨_, rfl, h⟩
theorem mul_tuple_same (l : Addr) (dd : Option Addr) (items : Array Value) (n : Nat) (sl : Array (Option Value)) (x : Int) (u : Tok) (hc0 : ¬ ((decide (x < -(2 ^ 63)) || decide (x ≥ 2 ^ 63)) = true)) (hc : (items.isEmpty || x == 1) = true) :
    Meets (Builtin.«tuple.__mul__» ⟨[.ref l, .int x u], []⟩) (fun _ R s => s.heap.get? l = some { cls := .type "tuple", dict := dd, data := .seq items n, slots := sl } ∧ R (.ok (.ret (Value.ref l))) s) :=
  .of_wp fun prog w A R s h => by
    obtain ⟨hp, g, d, tk, os⟩ := s; obtain ⟨hl, h⟩ := h
    wp_walk
    rw [if_neg hc0]
    dsimp only
    wp_walk
    exact ⟨_, rfl, h⟩
theorem mul_tuple_none (l : Addr) (dd : Option Addr) (items : Array Value) (n : Nat) (sl : Array (Option Value)) (x : Int) (u : Tok) (hc0 : ¬ ((decide (x < -(2 ^ 63)) || decide (x ≥ 2 ^ 63)) = true)) (hc : ¬ (items.isEmpty || x == 1) = true) (hc2 : (decide (x ≤ 0) || items.isEmpty) = true) :
    Meets (Builtin.«tuple.__mul__» ⟨[.ref l, .int x u], []⟩) (fun _ R s => s.heap.get? l = some { cls := .type "tuple", dict := dd, data := .seq items n, slots := sl } ∧ R (.ok (.ret (Value.ref s.heap.objs.size))) { s with heap := s.heap.push { cls := .type "tuple", data := .seq #[] } }) :=
  .of_wp fun prog w A R s h => by
    obtain ⟨hp, g, d, tk, os⟩ := s; obtain ⟨hl, h⟩ := h
    wp_walk
    rw [if_neg hc0]
    dsimp only
    wp_walk
    exact ⟨_, rfl, h⟩
theorem mul_tuple_many (l : Addr) (dd : Option Addr) (items : Array Value) (n : Nat) (sl : Array (Option Value)) (x : Int) (u : Tok) (hc0 : ¬ ((decide (x < -(2 ^ 63)) || decide (x ≥ 2 ^ 63)) = true)) (hc : ¬ (items.isEmpty || x == 1) = true) (hc2 : ¬ (decide (x ≤ 0) || items.isEmpty) = true)
    (hc3 : ¬ ((items.size : Int) * x > (2 ^ 63 - 1) / 8)) (hc4 : ¬ Builtin.Tuple.tupleTooMany ((items.size : Int) * x) = true) (hsz : (List.foldl (fun x1 x2 => x1 ++ x2) #[] (List.replicate x.toNat items)).size ≤ sizeLine) :
    Meets (Builtin.«tuple.__mul__» ⟨[.ref l, .int x u], []⟩) (fun _ R s => s.heap.get? l = some { cls := .type "tuple", dict := dd, data := .seq items n, slots := sl } ∧ R (.ok (.ret (Value.ref s.heap.objs.size))) { s with heap := s.heap.push { cls := .type "tuple", data := .seq (List.foldl (fun x1 x2 => x1 ++ x2) #[] (List.replicate x.toNat items)) } }) :=
  .of_wp fun prog w A R s h => by
    obtain ⟨hp, g, d, tk, os⟩ := s; obtain ⟨hl, h⟩ := h
    wp_walk
    rw [if_neg hc0]
    dsimp only
    wp_walk
    rw [if_neg hc3, if_neg hc4]
    have hsz' : sizeOk (.seq (List.foldl (fun x1 x2 => x1 ++ x2) #[] (List.replicate x.toNat items))) := hsz
    wp_walk
    exact ⟨_, rfl, h⟩
end
end F
namespace F
open PySem PySem.Spec L2
open PyProof.Rows (IsTup IsTupIter)
section
variable {prog : Program} {w : World} {A : Around} {E : Value → Shared → Prop} {s : Shared}
theorem nextOf_tup_item {it l : Addr} {i : Nat} {items : Array Value} {x : Value} {Q : Value → Shared → Prop} (hit : IsTupIter s.heap it l i) (hl : IsTup s.heap l items) (hx : items[i]? = some x)
    (hQ : ∀ h', IsTupIter h' it l (i + 1) → Heap.SameBut it s.heap h' → Q x { s with heap := h' }) : wpAny (model prog w) A (Builtin.SmallTypes.nextOf (.ref it)) Q E s := by
  obtain ⟨o, ho, hc, hd⟩ := id hit
  obtain ⟨ol, hol, _, nl, hdl⟩ := hl
  unfold Builtin.SmallTypes.nextOf
  refine wpAny_bind (wpAny_callSpecial?_slot (name := Str.ofString "__next__") hit.typeIs PyProof.Rows.slot_tupleiter_next (wpAny_call_entry PyProof.Rows.slot_tupleiter_next hit.typeIs PyProof.Rows.entry_tupleiter_next ?_ (PyProof.Rows.args_tupleiter_next _)))
  show wpAny _ _ (field (.ref it) 0 >>= _) _ _ s
  refine wpAny_bind (wpAny_field ho hd (x := .ref l) rfl ?_)
  show wpAny _ _ (if (Value.ref l == Value.none) = true then _ else _) _ _ s
  rw [if_neg (show ¬ ((Value.ref l == Value.none) = true) from Bool.false_ne_true)]
  show wpAny _ _ (field (.ref it) 1 >>= _) _ _ s
  refine wpAny_bind (wpAny_field ho hd (x := .int i 0) rfl ?_)
  show wpAny _ _ (seqItems? (.ref l) >>= _) _ _ s
  refine wpAny_bind (wpAny_seqItems hol hdl ?_)
  simp only [Int.toNat_natCast, hx]
  refine wpAny_bind (wpAny_setField ho hd (by simp) (wpAny_pure ⟨x, rfl, wpAny_pure (hQ _ ?_ (Heap.SameBut.update ..))⟩))
  exact ⟨_, Heap.get?_update_self _ ho (Obj.isFreed_of_fields (Obj.data_mapFields hd _)), (Obj.cls_mapFields ..).trans hc, by rw [Obj.data_mapFields hd]; simp [rawInt]⟩
theorem nextOf_tup_end {it l : Addr} {i : Nat} {items : Array Value} {Q : Value → Shared → Prop} (hh : A.handled = none) (hit : IsTupIter s.heap it l i) (hl : IsTup s.heap l items) (hx : items[i]? = none)
    (hE : ∀ h' e, Heap.ExtBut it s.heap h' → (∃ o, h'.get? e = some o ∧ o.cls = .type "StopIteration") → E (.ref e) { s with heap := h' }) : wpAny (model prog w) A (Builtin.SmallTypes.nextOf (.ref it)) Q E s := by
  obtain ⟨o, ho, hc, hd⟩ := id hit
  obtain ⟨ol, hol, _, nl, hdl⟩ := hl
  unfold Builtin.SmallTypes.nextOf
  refine wpAny_bind (wpAny_callSpecial?_slot (name := Str.ofString "__next__") hit.typeIs PyProof.Rows.slot_tupleiter_next (wpAny_call_entry PyProof.Rows.slot_tupleiter_next hit.typeIs PyProof.Rows.entry_tupleiter_next ?_ (PyProof.Rows.args_tupleiter_next _)))
  show wpAny _ _ (field (.ref it) 0 >>= _) _ _ s
  refine wpAny_bind (wpAny_field ho hd (x := .ref l) rfl ?_)
  show wpAny _ _ (if (Value.ref l == Value.none) = true then _ else _) _ _ s
  rw [if_neg (show ¬ ((Value.ref l == Value.none) = true) from Bool.false_ne_true)]
  show wpAny _ _ (field (.ref it) 1 >>= _) _ _ s
  refine wpAny_bind (wpAny_field ho hd (x := .int i 0) rfl ?_)
  show wpAny _ _ (seqItems? (.ref l) >>= _) _ _ s
  refine wpAny_bind (wpAny_seqItems hol hdl ?_)
  simp only [Int.toNat_natCast, hx]
  refine wpAny_bind (wpAny_rule (wpAny_bind (wpAny_setField ho hd (by simp) ?_)))
  show wpAny _ _ (newExc (.type "StopIteration") [] >>= _) _ _ _
  refine wpAny_bind ?_
  simp only [newExc, newTuple]
  refine wpAny_bind (wpAny_newObj_type ?_ (by size_fits))
  refine wpAny_bind (m := firstArgMember _ _) (wpAny_of_eq (a := Value.none) (by first | rfl | (simp only [firstArgMember]; rfl)) ?_)
  refine wpAny_newObj_type ?_ (by size_fits)
  simp only [raiseNew]
  refine wpAny_bind (wpAny_handled ?_)
  first | rw [show A.in1.handled = none from hh] | rw [hh]
  refine wpAny_bind (wpAny_pure (wpAny_throw ?_))
  exact hE _ _ (((Heap.SameBut.update ..).extBut.push _).push _) ⟨_, Heap.get?_push_size _ rfl, rfl⟩
end
structure NI (P : Program) (w : World) (it : Addr) (fp : List Addr) (xs : Array Value) (st : Nat → Heap → Prop) : Prop where
  mem : it ∈ fp
  item : ∀ (A : Around) (i : Nat) (s : Shared) (x : Value) (Q : Value → Shared → Prop) (E : Value → Shared → Prop), st i s.heap → xs[i]? = some x → (∀ h', st (i + 1) h' → Heap.SameBut it s.heap h' → Q x { s with heap := h' }) → wpAny (model P w) A (Builtin.SmallTypes.nextOf (.ref it)) Q E s
  stop : ∀ (A : Around) (i : Nat) (s : Shared) (Q : Value → Shared → Prop) (E : Value → Shared → Prop), A.handled = none → st i s.heap → xs[i]? = none →
    (∀ h' e, Heap.ExtBut it s.heap h' → (∃ o, h'.get? e = some o ∧ o.cls = .type "StopIteration") → E (.ref e) { s with heap := h' }) → wpAny (model P w) A (Builtin.SmallTypes.nextOf (.ref it)) Q E s
  keep : ∀ i h h', st i h → (∀ b ∈ fp, ∀ o, h.get? b = some o → h'.get? b = some o) → st i h'
theorem ni_tup {P : Program} {w : World} (it l : Addr) (items : Array Value) : NI P w it [it, l] items (fun i h => IsTupIter h it l i ∧ IsTup h l items ∧ l ≠ it) where
  mem := by simp
  item := fun A i s x Q E st hx hQ => nextOf_tup_item st.1 st.2.1 hx fun h' a b => hQ h' ⟨a, st.2.1.extBut b.extBut st.2.2, st.2.2⟩ b
  stop := fun A i s Q E hh st hx hE => nextOf_tup_end hh st.1 st.2.1 hx hE
  keep := fun i h h' st k => ⟨let ⟨o, e, c⟩ := st.1; ⟨o, k it (by simp) o e, c⟩, let ⟨o, e, c⟩ := st.2.1; ⟨o, k l (by simp) o e, c⟩, st.2.2⟩
structure ZA (z TI TO i1 i2 : Addr) (f1 f2 : List Addr) : Prop where
  TIz : TI ≠ z
  TOz : TO ≠ z
  TITO : TI ≠ TO
  z1 : z ∉ f1
  z2 : z ∉ f2
  TI1 : TI ∉ f1
  TI2 : TI ∉ f2
  TO1 : TO ∉ f1
  TO2 : TO ∉ f2
  a12 : i1 ∉ f2
  a21 : i2 ∉ f1
theorem ne_of_out {a b : Addr} {l : List Addr} (ha : a ∈ l) (hb : b ∉ l) : a ≠ b := fun e => hb (e ▸ ha)
section
variable {prog : Program} {w : World} {A : Around} {E : Value → Shared → Prop} {s : Shared} {z TI TO i1 i2 : Addr} {f1 f2 : List Addr} {xs ys : Array Value} {st1 st2 : Nat → Heap → Prop}
theorem zip_item {k1 k2 : Nat} {x y a b : Value} {Q : Value → Shared → Prop} (N1 : NI prog w i1 f1 xs st1) (N2 : NI prog w i2 f2 ys st2) (D : ZA z TI TO i1 i2 f1 f2)
    (hz : IsZip s.heap z TI TO .none) (hTI : IsPair s.heap TI (.ref i1) (.ref i2)) (hTO : IsPair s.heap TO a b) (h1 : st1 k1 s.heap) (h2 : st2 k2 s.heap) (hx : xs[k1]? = some x) (hy : ys[k2]? = some y)
    (hQ : ∀ h', IsZip h' z TI TO (rawInt s.heap.objs.size) → IsPair h' TO x y → st1 (k1 + 1) h' → st2 (k2 + 1) h' → IsPair h' s.heap.objs.size x y → h'.objs.size = s.heap.objs.size + 1 →
      (∀ c o, c ≠ z → c ≠ TO → c ≠ i1 → c ≠ i2 → s.heap.get? c = some o → h'.get? c = some o) → Q (.ref s.heap.objs.size) { s with heap := h' }) :
    wpAny (model prog w) A (Builtin.«zip.__next__» ⟨[.ref z], []⟩) (fun fin s' => ∃ v, fin = .done (.ret v) ∧ Q v s') E s := by
  have nz1 : i1 ≠ z := ne_of_out N1.mem D.z1
  have nz2 : i2 ≠ z := ne_of_out N2.mem D.z2
  have nO1 : i1 ≠ TO := ne_of_out N1.mem D.TO1
  have nO2 : i2 ≠ TO := ne_of_out N2.mem D.TO2
  have n12 : i1 ≠ i2 := fun e => D.a12 (e ▸ N2.mem)
  show wpAny _ _ (field (.ref z) 2 >>= _) _ _ _
  refine wpAny_bind (wpAny_field hz rfl (x := .bool false) rfl ?_)
  show wpAny _ _ (field (.ref z) 3 >>= _) _ _ _
  refine wpAny_bind (wpAny_field hz rfl (x := .ref TI) rfl (wpAny_bind (wpAny_seqItems hTI rfl ?_)))
  show wpAny _ _ (Builtin.SmallTypes.ownedTupleIsFree (.ref z) >>= _) _ _ _
  refine wpAny_bind ?_
  unfold Builtin.SmallTypes.ownedTupleIsFree
  refine wpAny_bind (wpAny_field hz rfl (x := .none) rfl (wpAny_pure ?_))
  simp only [if_true]
  refine wpAny_bind (wpAny_rule (wpAny_bind (wpAny_field hz rfl (x := .ref TO) rfl ?_)))
  refine wpAny_bind (wpAny_setField_rec hz (by simp) fun g1 hz1 s1 => ?_)
  replace hz1 : IsZip g1 z TI TO .ellipsis := hz1
  refine wpAny_bind ?_
  simp only [List.zipIdx_cons, List.zipIdx_nil, List.forIn_cons, List.forIn_nil]
  refine wpAny_bind (wpAny_bind (wpAny_onRaise ?_))
  show wpAny _ _ (Builtin.SmallTypes.nextOf (.ref i1) >>= _) _ _ _
  have k11 : st1 k1 g1 := N1.keep _ _ _ h1 fun b hb o e => s1.extBut _ _ (ne_of_out hb D.z1) e
  refine wpAny_bind (N1.item _ k1 _ x _ _ k11 hx fun g2 h1' s2 => wpAny_pure ?_)
  have hTO2 : IsPair g2 TO a b := s2.extBut _ _ nO1.symm (s1.extBut _ _ D.TOz hTO)
  refine wpAny_bind (wpAny_seqItems hTO2 rfl (wpAny_bind (wpAny_updateSeq_pair hTO2 fun g3 hTO3 s3 => ?_)))
  replace hTO3 : IsPair g3 TO x b := hTO3
  refine wpAny_bind (wpAny_letGo (wpAny_pure (wpAny_bind (wpAny_bind (wpAny_onRaise ?_)))))
  show wpAny _ _ (Builtin.SmallTypes.nextOf (.ref i2) >>= _) _ _ _
  have k23 : st2 k2 g3 := N2.keep _ _ _ h2 fun b hb o e => s3.extBut _ _ (ne_of_out hb D.TO2) (s2.extBut _ _ (ne_of_out hb D.a12) (s1.extBut _ _ (ne_of_out hb D.z2) e))
  refine wpAny_bind (N2.item _ k2 _ y _ _ k23 hy fun g4 h2' s4 => wpAny_pure ?_)
  have hTO4 : IsPair g4 TO x b := s4.extBut _ _ nO2.symm hTO3
  refine wpAny_bind (wpAny_seqItems hTO4 rfl (wpAny_bind (wpAny_updateSeq_pair hTO4 fun g5 hTO5 s5 => ?_)))
  replace hTO5 : IsPair g5 TO x y := hTO5
  refine wpAny_bind (wpAny_letGo (wpAny_pure (wpAny_pure (wpAny_bind (wpAny_seqItems hTO5 rfl (wpAny_bind (wpAny_newTuple ?_)))))))
  have hsz : g5.objs.size = s.heap.objs.size := by rw [s5.1, s4.1, s3.1, s2.1, s1.1]
  have hz5 : IsZip g5 z TI TO .ellipsis := s5.extBut _ _ D.TOz.symm (s4.extBut _ _ nz2.symm (s3.extBut _ _ D.TOz.symm (s2.extBut _ _ nz1.symm hz1)))
  have hk5 : ∀ c o, c ≠ z → c ≠ TO → c ≠ i1 → c ≠ i2 → s.heap.get? c = some o → g5.get? c = some o := fun c o c1 c2 c3 c4 e =>
    s5.extBut _ _ c2 (s4.extBut _ _ c4 (s3.extBut _ _ c2 (s2.extBut _ _ c3 (s1.extBut _ _ c1 e))))
  have t1 : st1 (k1 + 1) g5 := N1.keep _ _ _ h1' fun b hb o e => s5.extBut _ _ (ne_of_out hb D.TO1) (s4.extBut _ _ (ne_of_out hb D.a21) (s3.extBut _ _ (ne_of_out hb D.TO1) e))
  have t2 : st2 (k2 + 1) g5 := N2.keep _ _ _ h2' fun b hb o e => s5.extBut _ _ (ne_of_out hb D.TO2) e
  have hzlt : z < g5.objs.size := Heap.lt_size hz5
  show wpAny _ _ (Builtin.SmallTypes.ownedTupleHandOut (.ref z) (.ref g5.objs.size) >>= _) _ _ _
  refine wpAny_bind ?_
  unfold Builtin.SmallTypes.ownedTupleHandOut
  have hz6 : IsZip (g5.push { cls := .type "tuple", data := .seq #[x, y] }) z TI TO .ellipsis := Heap.get?_push_of_some _ hz5
  refine wpAny_bind (wpAny_setField_rec hz6 (by simp) fun g7 hz7 s7 => ?_)
  replace hz7 : IsZip g7 z TI TO (rawInt g5.objs.size) := hz7
  refine wpAny_setField_rec hz7 (by simp) fun g8 hz8 s8 => ?_
  replace hz8 : IsZip g8 z TI TO (rawInt g5.objs.size) := hz8
  have up : ∀ c o, c ≠ z → g5.get? c = some o → g8.get? c = some o := fun c o c1 e => s8.extBut _ _ c1 (s7.extBut _ _ c1 (Heap.get?_push_of_some _ e))
  have hT8 : IsPair g8 g5.objs.size x y := s8.extBut _ _ (Nat.ne_of_gt hzlt) (s7.extBut _ _ (Nat.ne_of_gt hzlt) (Heap.get?_push_size _ rfl))
  have hsz8 : g8.objs.size = g5.objs.size + 1 := by rw [s8.1, s7.1, Heap.size_push]
  rw [hsz] at hz8 hT8 hsz8
  refine wpAny_pure ⟨_, rfl, ?_⟩
  show Q (.ref g5.objs.size) _
  rw [hsz]
  exact hQ g8 hz8 (up _ _ D.TOz hTO5) (N1.keep _ _ _ t1 fun b hb o e => up b o (ne_of_out hb D.z1) e) (N2.keep _ _ _ t2 fun b hb o e => up b o (ne_of_out hb D.z2) e) hT8 hsz8 fun c o c1 c2 c3 c4 e => up c o c1 (hk5 c o c1 c2 c3 c4 e)
theorem zip_stop {k1 k2 : Nat} {a b : Value} {Q : PySem.Fin → Shared → Prop} (hh : A.handled = none) (N1 : NI prog w i1 f1 xs st1) (N2 : NI prog w i2 f2 ys st2) (D : ZA z TI TO i1 i2 f1 f2)
    (hz : IsZip s.heap z TI TO .none) (hTI : IsPair s.heap TI (.ref i1) (.ref i2)) (hTO : IsPair s.heap TO a b) (h1 : st1 k1 s.heap) (h2 : st2 k2 s.heap) (hend : xs[k1]? = none ∨ ys[k2]? = none)
    (hE : ∀ h' e, (∀ c o, c ≠ z → c ≠ TO → c ≠ i1 → c ≠ i2 → s.heap.get? c = some o → h'.get? c = some o) → (∃ o, h'.get? e = some o ∧ o.cls = .type "StopIteration") → E (.ref e) { s with heap := h' }) :
    wpAny (model prog w) A (Builtin.«zip.__next__» ⟨[.ref z], []⟩) Q E s := by
  have nz1 : i1 ≠ z := ne_of_out N1.mem D.z1
  have nz2 : i2 ≠ z := ne_of_out N2.mem D.z2
  have nO1 : i1 ≠ TO := ne_of_out N1.mem D.TO1
  have nO2 : i2 ≠ TO := ne_of_out N2.mem D.TO2
  show wpAny _ _ (field (.ref z) 2 >>= _) _ _ _
  refine wpAny_bind (wpAny_field hz rfl (x := .bool false) rfl ?_)
  show wpAny _ _ (field (.ref z) 3 >>= _) _ _ _
  refine wpAny_bind (wpAny_field hz rfl (x := .ref TI) rfl (wpAny_bind (wpAny_seqItems hTI rfl ?_)))
  show wpAny _ _ (Builtin.SmallTypes.ownedTupleIsFree (.ref z) >>= _) _ _ _
  refine wpAny_bind ?_
  unfold Builtin.SmallTypes.ownedTupleIsFree
  refine wpAny_bind (wpAny_field hz rfl (x := .none) rfl (wpAny_pure ?_))
  simp only [if_true]
  refine wpAny_bind (wpAny_rule (wpAny_bind (wpAny_field hz rfl (x := .ref TO) rfl ?_)))
  refine wpAny_bind (wpAny_setField_rec hz (by simp) fun g1 hz1 s1 => ?_)
  replace hz1 : IsZip g1 z TI TO .ellipsis := hz1
  refine wpAny_bind ?_
  simp only [List.zipIdx_cons, List.zipIdx_nil, List.forIn_cons, List.forIn_nil]
  refine wpAny_bind (wpAny_bind (wpAny_onRaise ?_))
  show wpAny _ _ (Builtin.SmallTypes.nextOf (.ref i1) >>= _) _ _ _
  have k11 : st1 k1 g1 := N1.keep _ _ _ h1 fun b hb o e => s1.extBut _ _ (ne_of_out hb D.z1) e
  cases hx : xs[k1]? with
  | none =>
    refine wpAny_bind (N1.stop _ k1 _ _ _ hh k11 hx fun g2 e s2 he => ?_)
    obtain ⟨oe, hoe, hce⟩ := he
    have hz2 : IsZip g2 z TI TO .ellipsis := s2 _ _ nz1.symm hz1
    have hez : e ≠ z := fun q => by subst q; rw [hz2] at hoe; cases hoe; simp at hce
    exact wpAny_setField_rec hz2 (by simp) fun g3 _ s3 => hE g3 e (fun c o c1 _ c3 _ q => s3.extBut _ _ c1 (s2 _ _ c3 (s1.extBut _ _ c1 q))) ⟨oe, s3.extBut _ _ hez hoe, hce⟩
  | some x =>
    have hy : ys[k2]? = none := by rcases hend with h | h; rw [hx] at h; cases h; exact h
    refine wpAny_bind (N1.item _ k1 _ x _ _ k11 hx fun g2 h1' s2 => wpAny_pure ?_)
    have hTO2 : IsPair g2 TO a b := s2.extBut _ _ nO1.symm (s1.extBut _ _ D.TOz hTO)
    refine wpAny_bind (wpAny_seqItems hTO2 rfl (wpAny_bind (wpAny_updateSeq_pair hTO2 fun g3 hTO3 s3 => ?_)))
    refine wpAny_bind (wpAny_letGo (wpAny_pure (wpAny_bind (wpAny_bind (wpAny_onRaise ?_)))))
    show wpAny _ _ (Builtin.SmallTypes.nextOf (.ref i2) >>= _) _ _ _
    have k23 : st2 k2 g3 := N2.keep _ _ _ h2 fun b hb o e => s3.extBut _ _ (ne_of_out hb D.TO2) (s2.extBut _ _ (ne_of_out hb D.a12) (s1.extBut _ _ (ne_of_out hb D.z2) e))
    refine wpAny_bind (N2.stop _ k2 _ _ _ hh k23 hy fun g4 e s4 he => ?_)
    obtain ⟨oe, hoe, hce⟩ := he
    have hz4 : IsZip g4 z TI TO .ellipsis := s4 _ _ nz2.symm (s3.extBut _ _ D.TOz.symm (s2.extBut _ _ nz1.symm hz1))
    have hez : e ≠ z := fun q => by subst q; rw [hz4] at hoe; cases hoe; simp at hce
    exact wpAny_setField_rec hz4 (by simp) fun g5 _ s5 => hE g5 e (fun c o c1 c2 c3 c4 q => s5.extBut _ _ c1 (s4 _ _ c4 (s3.extBut _ _ c2 (s2.extBut _ _ c3 (s1.extBut _ _ c1 q))))) ⟨oe, s5.extBut _ _ hez hoe, hce⟩
theorem next_zip_item {k1 k2 : Nat} {x y a b : Value} {Q : Option Value → Shared → Prop} (N1 : NI prog w i1 f1 xs st1) (N2 : NI prog w i2 f2 ys st2) (D : ZA z TI TO i1 i2 f1 f2)
    (hz : IsZip s.heap z TI TO .none) (hTI : IsPair s.heap TI (.ref i1) (.ref i2)) (hTO : IsPair s.heap TO a b) (h1 : st1 k1 s.heap) (h2 : st2 k2 s.heap) (hx : xs[k1]? = some x) (hy : ys[k2]? = some y)
    (hQ : ∀ h', IsZip h' z TI TO (rawInt s.heap.objs.size) → IsPair h' TO x y → st1 (k1 + 1) h' → st2 (k2 + 1) h' → IsPair h' s.heap.objs.size x y → h'.objs.size = s.heap.objs.size + 1 →
      (∀ c o, c ≠ z → c ≠ TO → c ≠ i1 → c ≠ i2 → s.heap.get? c = some o → h'.get? c = some o) → Q (some (.ref s.heap.objs.size)) { s with heap := h' }) : wpAny (model prog w) A (pyNext (.ref z)) Q E s := by
  have hT : s.TypeIs (.ref z) "zip" := ⟨_, hz, rfl⟩
  unfold pyNext
  exact wpAny_bind (wpAny_attempt (wpAny_callSpecial?_slot (name := Str.ofString "__next__") hT PySem.F.slot_zip_next
    (wpAny_call_entry PySem.F.slot_zip_next hT PySem.F.entry_zip_next (zip_item N1 N2 D hz hTI hTO h1 h2 hx hy fun h' a1 a2 a3 a4 a5 a6 a7 => wpAny_pure (hQ h' a1 a2 a3 a4 a5 a6 a7)) (PySem.F.args_zip_next_1 _))))
theorem next_zip_stop {k1 k2 : Nat} {a b : Value} {Q : Option Value → Shared → Prop} (hh : A.handled = none) (N1 : NI prog w i1 f1 xs st1) (N2 : NI prog w i2 f2 ys st2) (D : ZA z TI TO i1 i2 f1 f2)
    (hz : IsZip s.heap z TI TO .none) (hTI : IsPair s.heap TI (.ref i1) (.ref i2)) (hTO : IsPair s.heap TO a b) (h1 : st1 k1 s.heap) (h2 : st2 k2 s.heap) (hend : xs[k1]? = none ∨ ys[k2]? = none)
    (hQ : ∀ h', (∀ c o, c ≠ z → c ≠ TO → c ≠ i1 → c ≠ i2 → s.heap.get? c = some o → h'.get? c = some o) → Q none { s with heap := h' }) : wpAny (model prog w) A (pyNext (.ref z)) Q E s := by
  have hT : s.TypeIs (.ref z) "zip" := ⟨_, hz, rfl⟩
  unfold pyNext
  refine wpAny_bind (wpAny_attempt (wpAny_callSpecial?_slot (name := Str.ofString "__next__") hT PySem.F.slot_zip_next
    (wpAny_call_entry PySem.F.slot_zip_next hT PySem.F.entry_zip_next (zip_stop hh N1 N2 D hz hTI hTO h1 h2 hend fun h' e hk he => ?_) (PySem.F.args_zip_next_1 _))))
  obtain ⟨o, ho, hc⟩ := he
  exact wpAny_bind (wpAny_isInstance (T := "StopIteration") (b := true) ⟨o, ho, hc⟩ isSubtype_stop (wpAny_pure (hQ _ hk)))
end
section
abbrev tit (l : Addr) : Obj := { cls := .type "tuple_iterator", data := .fields #[.ref l, .int 0 0] }
abbrev zH2 (h : Heap) (l1 l2 : Addr) : Heap := (h.push (tit l1)).push (tit l2)
abbrev zH3 (h : Heap) (l1 l2 : Addr) : Heap := (zH2 h l1 l2).push { cls := .type "tuple", data := .seq #[.ref h.objs.size, .ref (h.push (tit l1)).objs.size] }
abbrev zH4 (h : Heap) (l1 l2 : Addr) : Heap := (zH3 h l1 l2).push { cls := .type "tuple", data := .seq #[.none, .none] }
abbrev zH5 (h : Heap) (l1 l2 : Addr) : Heap := (zH4 h l1 l2).push { cls := .type "zip", data := .fields #[.none, .bool false, .bool false, .ref (zH2 h l1 l2).objs.size, .ref (zH3 h l1 l2).objs.size] }
theorem zip_new_tup (l1 l2 : Addr) (xs ys : Array Value) :
    Meets (Builtin.«zip.__new__» ⟨[.type "zip", .ref l1, .ref l2], []⟩) (fun _ R s => IsTup s.heap l1 xs ∧ IsTup s.heap l2 ys ∧ R (.ok (.ret (.ref (zH4 s.heap l1 l2).objs.size))) { s with heap := zH5 s.heap l1 l2 }) :=
  .of_wp fun prog w A R s h => by
    obtain ⟨hp, g, d, tk, os⟩ := s; obtain ⟨hl1, hl2, h⟩ := h
    have hsub := sub_zip
    have hL1 : IsTup (Shared.heap ⟨hp, g, d, tk, os⟩) l1 xs := hl1
    have hL2 : IsTup (Shared.heap ⟨hp.push (tit l1), g, d, tk, os⟩) l2 ys := IsTup.push hl2 _
    wp_walk using PyProof.Rows.iter_tuple hL1, PyProof.Rows.iter_tuple hL2
    exact ⟨_, rfl, h⟩
theorem call_zip_tup {prog : Program} {w : World} {A : Around} {E : Value → Shared → Prop} {s : Shared} {l1 l2 : Addr} {xs ys : Array Value} {Q : Value → Shared → Prop} (hl1 : IsTup s.heap l1 xs) (hl2 : IsTup s.heap l2 ys)
    (h : ∀ h', IsZip h' (s.heap.objs.size + 4) (s.heap.objs.size + 2) (s.heap.objs.size + 3) .none → IsPair h' (s.heap.objs.size + 2) (.ref s.heap.objs.size) (.ref (s.heap.objs.size + 1)) →
      IsPair h' (s.heap.objs.size + 3) .none .none → IsTupIter h' s.heap.objs.size l1 0 → IsTupIter h' (s.heap.objs.size + 1) l2 0 → h'.objs.size = s.heap.objs.size + 5 →
      (∀ c o, s.heap.get? c = some o → h'.get? c = some o) → Q (.ref (s.heap.objs.size + 4)) { s with heap := h' }) :
    wpAny (model prog w) A (call (.type "zip") [.ref l1, .ref l2]) Q E s := by
  refine callType_new PySem.F.called_zip (by decide) (PySem.F.typeCall_zip_2 _ _) (PySem.F.newCall_zip_2 _ _) (fun obj => PySem.F.args_object_init_3 obj _ _) PySem.F.entry_zip_new (zip_new_tup l1 l2 xs ys) ⟨hl1, hl2, ?_⟩
  have z1 : (s.heap.push (tit l1)).objs.size = s.heap.objs.size + 1 := Heap.size_push ..
  have z2 : (zH2 s.heap l1 l2).objs.size = s.heap.objs.size + 2 := by rw [Heap.size_push, z1]
  have z3 : (zH3 s.heap l1 l2).objs.size = s.heap.objs.size + 3 := by rw [Heap.size_push, z2]
  have z4 : (zH4 s.heap l1 l2).objs.size = s.heap.objs.size + 4 := by rw [Heap.size_push, z3]
  have z5 : (zH5 s.heap l1 l2).objs.size = s.heap.objs.size + 5 := by rw [Heap.size_push, z4]
  have kp : ∀ {c : Addr} {o : Obj} {g : Heap} {n : Obj}, g.get? c = some o → (g.push n).get? c = some o := fun e => Heap.get?_push_of_some _ e
  have g5 : (zH5 s.heap l1 l2).get? (zH4 s.heap l1 l2).objs.size = some _ := Heap.get?_push_size _ rfl
  have g4 : (zH5 s.heap l1 l2).get? (zH3 s.heap l1 l2).objs.size = some _ := kp (Heap.get?_push_size _ rfl)
  have g3 : (zH5 s.heap l1 l2).get? (zH2 s.heap l1 l2).objs.size = some _ := kp (kp (Heap.get?_push_size _ rfl))
  have g2 : (zH5 s.heap l1 l2).get? (s.heap.push (tit l1)).objs.size = some _ := kp (kp (kp (Heap.get?_push_size _ rfl)))
  have g1 : (zH5 s.heap l1 l2).get? s.heap.objs.size = some _ := kp (kp (kp (kp (Heap.get?_push_size _ rfl))))
  show _ ∧ _
  rw [z2, z3, z4] at g5
  rw [z1, z2] at g3
  rw [z3] at g4
  rw [z1] at g2
  rw [z4]
  exact ⟨⟨_, g5, rfl⟩, h _ g5 g3 g4 ⟨_, g1, rfl, rfl⟩ ⟨_, g2, rfl, rfl⟩ z5 fun c o x => kp (kp (kp (kp (kp x))))⟩
end
def ItzT (K : PySem.W.Frag) (a b : Addr) : It :=
  ⟨fun i H => ∃ (xs ys : List V) (x y : V), SqT K H a xs ∧ SqT K H b ys ∧ xs[i]? = some x ∧ ys[i]? = some y,
    fun i H v H' => ∃ T x y, v = .ref T ∧ H T = none ∧ H' = upd H T (.tup [x, y]) ∧ (∀ xs, SqT K H a xs → xs[i]? = some x) ∧ ∀ ys, SqT K H b ys → ys[i]? = some y,
    fun i H => ∃ xs ys : List V, SqT K H a xs ∧ SqT K H b ys ∧ (xs.length ≤ i ∨ ys.length ≤ i)⟩
theorem turn_zipT {P : Program} {w : World} {K : PySem.W.Frag} {elts : List Expr} {kk : Nat} {tpos : Pos} {a b z TI TO i1 i2 : Addr} (D : ZA z TI TO i1 i2 [i1, a] [i2, b]) (na : a ≠ i1) (nb : b ≠ i2) :
    Turn P w K (.Tuple elts kk tpos) (ItzT K a b) [z, TI, TO, i1, i2] z (fun i h => IsZip h z TI TO .none ∧ IsPair h TI (.ref i1) (.ref i2) ∧ (∃ x y, IsPair h TO x y) ∧ IsTupIter h i1 a i ∧ IsTupIter h i2 b i) where
  mem := by simp
  obj := fun i h st c hc => by
    obtain ⟨hz, hTI, ⟨x, y, hTO⟩, ⟨o1, e1, _, d1⟩, ⟨o2, e2, _, d2⟩⟩ := st
    have e' : c = z ∨ c = TI ∨ c = TO ∨ c = i1 ∨ c = i2 := by simpa using hc
    rcases e' with rfl | rfl | rfl | rfl | rfl
    · exact ⟨_, hz, fun v q => nomatch q⟩
    · exact ⟨_, hTI, fun v q => nomatch q⟩
    · exact ⟨_, hTO, fun v q => nomatch q⟩
    · exact ⟨o1, e1, fun v q => by rw [d1] at q; cases q⟩
    · exact ⟨o2, e2, fun v q => by rw [d2] at q; cases q⟩
  keep := fun i h h' st k => by
    obtain ⟨hz, hTI, ⟨x, y, hTO⟩, ⟨o1, e1, c1⟩, ⟨o2, e2, c2⟩⟩ := st
    exact ⟨k z (by simp) _ hz, k TI (by simp) _ hTI, ⟨x, y, k TO (by simp) _ hTO⟩, ⟨o1, k i1 (by simp) _ e1, c1⟩, ⟨o2, k i2 (by simp) _ e2, c2⟩⟩
  item := by
    intro X hP hw hK hc i pins s σ H E I hf st hg
    subst hP hw hK
    obtain ⟨hz, hTI, ⟨x0, y0, hTO⟩, h1, h2⟩ := st
    obtain ⟨xs, ys, x, y, hqx, hqy, hx, hy⟩ := hg
    obtain ⟨its, rv, p, _⟩ := I.tuple hqx
    obtain ⟨its2, rv2, p2, _⟩ := I.tuple hqy
    obtain ⟨u, hu, ru⟩ := rv.get hx
    obtain ⟨u2, hu2, ru2⟩ := rv2.get hy
    have hzl : z < s.heap.objs.size := Heap.lt_size hz
    refine next_zip_item (ni_tup i1 a its.toArray) (ni_tup i2 b its2.toArray) D hz hTI hTO ⟨h1, p, na⟩ ⟨h2, p2, nb⟩ (x := u) (y := u2) (by simpa using hu) (by simpa using hu2) fun h' z' TO' h1' h2' hT hsz hk => ?_
    refine ⟨_, rfl, wpAny_letOwnedTupleGo_zip (s := { s with heap := h' }) z' fun h'' z'' sb => ?_⟩
    have hT2 : h''.get? s.heap.objs.size = some { cls := .type "tuple", data := .seq #[u, u2] } := (sb.2 _ (Nat.ne_of_gt hzl)).trans hT
    have new : ObjOk X.prog X.w (upd H s.heap.objs.size (.tup [x, y])) h'' s.heap.objs.size (.tup [x, y]) := ⟨by show 2 ≤ sizeLine; decide, [u, u2], .cons ru (.cons ru2 .nil), ⟨_, hT2, rfl, _, rfl⟩⟩
    have I1 : Inv X pins σ (upd H s.heap.objs.size (.tup [x, y])) { s with heap := h'' } :=
      I.turnedNew (t' := s.toks) (ch := [z, TI, TO, i1, i2]) (fun c o hb q => (sb.2 c (fun q' => hb (by simp [q']))).trans (hk c o (fun q' => hb (by simp [q'])) (fun q' => hb (by simp [q'])) (fun q' => hb (by simp [q'])) (fun q' => hb (by simp [q'])) q)) hf (Nat.le_refl _) new
    have nz1 : i1 ≠ z := ne_of_out (List.mem_cons_self ..) D.z1
    have nz2 : i2 ≠ z := ne_of_out (List.mem_cons_self ..) D.z2
    refine ⟨.ref s.heap.objs.size, _, I1, rfl, ⟨_, x, y, rfl, I.hok.fresh (Nat.le_refl _), rfl, fun l hl => by rw [I.tuple_inj hl hqx]; exact hx, fun l hl => by rw [I.tuple_inj hl hqy]; exact hy⟩, ⟨z'', ?_, ⟨u, u2, ?_⟩, ?_, ?_⟩, fun c hcm => ?_⟩
    · exact (sb.2 _ D.TIz).trans (hk _ _ D.TIz D.TITO (ne_of_out (List.mem_cons_self ..) D.TI1).symm (ne_of_out (List.mem_cons_self ..) D.TI2).symm hTI)
    · exact (sb.2 _ D.TOz).trans TO'
    · obtain ⟨o, e, c⟩ := h1'.1
      exact ⟨o, (sb.2 _ nz1).trans e, c⟩
    · obtain ⟨o, e, c⟩ := h2'.1
      exact ⟨o, (sb.2 _ nz2).trans e, c⟩
    · have hlt : c < s.heap.objs.size := by
        have e' : c = z ∨ c = TI ∨ c = TO ∨ c = i1 ∨ c = i2 := by simpa using hcm
        rcases e' with rfl | rfl | rfl | rfl | rfl
        · exact hzl
        · exact Heap.lt_size hTI
        · exact Heap.lt_size hTO
        · obtain ⟨_, e1, _⟩ := h1; exact Heap.lt_size e1
        · obtain ⟨_, e2, _⟩ := h2; exact Heap.lt_size e2
      rw [upd_ne (Nat.ne_of_lt hlt)]
      exact (hf c hcm).1
  done := by
    intro X hP hw hK hc i pins s σ H E I hf st hg
    subst hP hw hK
    obtain ⟨hz, hTI, ⟨x0, y0, hTO⟩, h1, h2⟩ := st
    obtain ⟨xs, ys, hqx, hqy, hend⟩ := hg
    obtain ⟨its, rv, p, _⟩ := I.tuple hqx
    obtain ⟨its2, rv2, p2, _⟩ := I.tuple hqy
    have l1 := rv.length
    have l2 := rv2.length
    have he : its.toArray[i]? = none ∨ its2.toArray[i]? = none := by
      rcases hend with q | q
      · exact .inl (by simp; omega)
      · exact .inr (by simp; omega)
    exact next_zip_stop (I.ok.hd hc) (ni_tup i1 a its.toArray) (ni_tup i2 b its2.toArray) D hz hTI hTO ⟨h1, p, na⟩ ⟨h2, p2, nb⟩ he fun h' hk => ⟨rfl, I.turnedL (t' := s.toks) (ch := [z, TI, TO, i1, i2]) (fun c o hb q =>
      hk c o (fun q' => hb (by simp [q'])) (fun q' => hb (by simp [q'])) (fun q' => hb (by simp [q'])) (fun q' => hb (by simp [q'])) q) hf⟩
  self := fun A i s Q E st h => wpAny_pyIter_zip st.1 h
theorem za_of (n a b : Nat) (ha : a < n) (hb : b < n) : ZA (n + 4) (n + 2) (n + 3) n (n + 1) [n, a] [n + 1, b] := by
  have o : ∀ {x y z : Nat}, x ≠ y → x ≠ z → x ∉ [y, z] := fun h1 h2 h => by
    rcases List.mem_cons.mp h with e | e
    · exact h1 e
    · exact h2 (by simpa using e)
  exact ⟨show n + 2 ≠ n + 4 by omega, show n + 3 ≠ n + 4 by omega, show n + 2 ≠ n + 3 by omega, o (by omega) (by omega), o (by omega) (by omega), o (by omega) (by omega), o (by omega) (by omega), o (by omega) (by omega), o (by omega) (by omega), o (by omega) (by omega), o (by omega) (by omega)⟩
def iZipT (K : PySem.W.Frag) (ta : TA) : TI := fun σ H R => ta σ H fun vs H1 => ∃ a b, vs = [.ref a, .ref b] ∧ (((∃ xs, SqL K H1 a xs) ∧ (∃ ys, SqL K H1 b ys) ∧ R (Itz K a b) H1) ∨ ((∃ xs, SqT K H1 a xs) ∧ (∃ ys, SqT K H1 b ys) ∧ R (ItzT K a b) H1))
theorem pi_zipT {X : Cx} {e e2 : Expr} {ta : TA} {p pos tpos : Pos} {elts : List Expr} {kk : Nat} (hg : Gl X "zip") (hm : X.mg "zip" = none) (ha : PA X [e, e2] ta)
    (hs : starEach [e, e2] X.env = (false, eval e X.env) :: starEach [e2] X.env := by rfl) (hpl : (backTo pos (starEach [e2] X.env)).any (·.1) = false := by rfl) :
    PI X (.Tuple elts kk tpos) (.Call (.Name "zip" p) [e, e2] [] pos) (iZipT X.K ta) := by
  intro pins s σ H R I h
  refine PyProof.Rows.Call_ (ld_blt I hg hm boot_zip5 (PyProof.Rows.callWith_type1 (thn (ha pos pins s σ H _ I h) fun us s1 ⟨vs, H1, I1, r1, q1⟩ => ?_) hs hpl))
  obtain ⟨a, b, ex, q⟩ := q1
  subst ex
  cases r1 with
  | cons r rr =>
    cases rr with
    | cons r' rr =>
      cases rr
      cases r
      cases r'
      have fin : ∀ c, c ∈ [s1.heap.objs.size + 4, s1.heap.objs.size + 2, s1.heap.objs.size + 3, s1.heap.objs.size, s1.heap.objs.size + 1] → FpOk X pins H1 c := fun c hcm => by
        have e' : c = s1.heap.objs.size + 4 ∨ c = s1.heap.objs.size + 2 ∨ c = s1.heap.objs.size + 3 ∨ c = s1.heap.objs.size ∨ c = s1.heap.objs.size + 1 := by simpa using hcm
        have hle : s1.heap.objs.size ≤ c := by omega
        exact I1.fpOk hle (I1.hok.fresh hle)
      rcases q with ⟨⟨xs, hqx⟩, ⟨ys, hqy⟩, q⟩ | ⟨⟨xs, hqx⟩, ⟨ys, hqy⟩, q⟩
      · obtain ⟨its, rv, p1, _⟩ := I1.list hqx
        obtain ⟨its2, rv2, p2, _⟩ := I1.list hqy
        refine call_zip_2 p1.isList p2.isList fun h' hz hTI hTO h1 h2 hsz hk => wpAny_pyIter_zip hz ?_
        have I2 : Inv X pins σ H1 { s1 with heap := h' } := I1.kept (t' := s1.toks) hk
        exact ⟨s1.heap.objs.size + 4, _, _, _, H1, rfl, I2, turn_zip (PySem.W.ktu_apart s1.heap.objs.size a b p1.lt p2.lt), ⟨hz, hTI, ⟨_, _, hTO⟩, h1, h2⟩, fin, q⟩
      · obtain ⟨its, rv, p1, _⟩ := I1.tuple hqx
        obtain ⟨its2, rv2, p2, _⟩ := I1.tuple hqy
        have la : a < s1.heap.objs.size := p1.lt
        have lb : b < s1.heap.objs.size := p2.lt
        refine call_zip_tup p1 p2 fun h' hz hTI hTO h1 h2 hsz hk => wpAny_pyIter_zip hz ?_
        have I2 : Inv X pins σ H1 { s1 with heap := h' } := I1.kept (t' := s1.toks) hk
        have D := za_of s1.heap.objs.size a b la lb
        exact ⟨s1.heap.objs.size + 4, _, _, _, H1, rfl, I2, turn_zipT D (Nat.ne_of_lt la) (Nat.ne_of_lt (Nat.lt_succ_of_lt lb)), ⟨hz, hTI, ⟨_, _, hTO⟩, h1, h2⟩, fin, q⟩
theorem lstAt_sq {K : PySem.W.Frag} {H : Hp} {r : Nat → Addr} {S : Sto} {k : Nat} {xs : List A} (h : SR K H r S) (q : lstAt S k = some xs) : ∃ vs, SqL K H (r k) vs ∧ RAs H r S.length xs vs := by
  unfold lstAt at q
  split at q
  · rename_i ys e; cases q; exact h.sq (.inl e)
  · rename_i ys e; cases q; exact h.sq (.inr e)
  · cases q
theorem pairAt_some {xs ys : List A} {i : Nat} {p : A} (h : pairAt xs ys i = some p) : ∃ x y, xs[i]? = some x ∧ ys[i]? = some y ∧ p = .tup [x, y] := by
  unfold pairAt at h
  split at h
  · rename_i x y e1 e2; cases h; exact ⟨x, y, e1, e2, rfl⟩
  · cases h
theorem pairAt_none {xs ys : List A} {i : Nat} (h : pairAt xs ys i = none) : xs.length ≤ i ∨ ys.length ≤ i := by
  unfold pairAt at h
  split at h
  · cases h
  · rename_i hn
    cases e1 : xs[i]? with
    | none => exact .inl (List.getElem?_eq_none_iff.mp e1)
    | some x =>
      cases e2 : ys[i]? with
      | none => exact .inr (List.getElem?_eq_none_iff.mp e2)
      | some y => exact absurd e2 (hn x y e1)
theorem new_pair {K : PySem.W.Frag} {H : Hp} {r : Nat → Addr} {S : Sto} {T : Addr} {x y : A} {v u : V} (hS : SR K H r S) (hT : H T = none) (h1 : RA H r S.length x v) (h2 : RA H r S.length y u) :
    Ext H r S.length (upd H T (.tup [v, u])) r S.length ∧ SR K (upd H T (.tup [v, u])) r S ∧ RA (upd H T (.tup [v, u])) r S.length (.tup [x, y]) (.ref T) :=
  ⟨ext_new hT, hS.new hT, .tup upd_same (.cons (h1.ext (ext_new hT)) (.cons (h2.ext (ext_new hT)) .nil))⟩
theorem itr_zipL {K : PySem.W.Frag} {H0 : Hp} {r0 : Nat → Addr} {n0 j k : Nat} (hj : j < n0) (hk : k < n0) : ItR K H0 r0 n0 (Itz K (r0 j) (r0 k)) (.live2 j k) := by
  have rd : ∀ {i : Nat} {H : Hp} {r : Nat → Addr} {S : Sto} {o : Option A}, Ext H0 r0 n0 H r S.length → SR K H r S → FI.item S i (.live2 j k) = some o →
      ∃ xs ys vs us, pairAt xs ys i = o ∧ SqL K H (r0 j) vs ∧ RAs H r S.length xs vs ∧ SqL K H (r0 k) us ∧ RAs H r S.length ys us := fun {i H r S o} x s q => by
    simp only [FI.item] at q
    split at q
    · rename_i xs ys e1 e2
      obtain ⟨vs, h1, h2⟩ := lstAt_sq s e1
      obtain ⟨us, h3, h4⟩ := lstAt_sq s e2
      rw [x.eq j hj] at h1
      rw [x.eq k hk] at h3
      exact ⟨xs, ys, vs, us, Option.some.inj q, h1, h2, h3, h4⟩
    · cases q
  refine ⟨fun i H r S x s q => ?_, fun i H r S p x s q => ?_, fun i H r S p x s q x' H' y => ?_⟩
  · obtain ⟨xs, ys, vs, us, e, h1, h2, h3, h4⟩ := rd x s q
    refine ⟨vs, us, h1, h3, ?_⟩
    rw [← h2.length, ← h4.length]
    exact pairAt_none e
  · obtain ⟨xs, ys, vs, us, e, h1, h2, h3, h4⟩ := rd x s q
    obtain ⟨a, b, e1, e2, rfl⟩ := pairAt_some e
    obtain ⟨v, q1, _⟩ := h2.get e1
    obtain ⟨u, q2, _⟩ := h4.get e2
    exact ⟨vs, us, v, u, h1, h3, q1, q2⟩
  · obtain ⟨xs, ys, vs, us, e, h1, h2, h3, h4⟩ := rd x s q
    obtain ⟨a, b, e1, e2, rfl⟩ := pairAt_some e
    obtain ⟨T, v, u, rfl, hT, rfl, g1, g2⟩ := y
    exact new_pair s hT (h2.get' e1 (g1 vs h1)) (h4.get' e2 (g2 us h3))
theorem itr_zipT {K : PySem.W.Frag} {H0 : Hp} {r0 : Nat → Addr} {n0 : Nat} {a b : Addr} {xs ys : List A} {vs us : List V} (ha : H0 a = some (.tup vs)) (hb : H0 b = some (.tup us)) (h2 : RAs H0 r0 n0 xs vs) (h4 : RAs H0 r0 n0 ys us) :
    ItR K H0 r0 n0 (ItzT K a b) (.items (List.zipWith (fun x y => A.tup [x, y]) xs ys)) := by
  have z : ∀ i, (List.zipWith (fun x y => A.tup [x, y]) xs ys)[i]? = pairAt xs ys i := fun i => by
    rw [List.getElem?_zipWith]
    unfold pairAt
    cases xs[i]? with
    | none => rfl
    | some x => cases ys[i]? <;> rfl
  refine ⟨fun i H r S x s q => ?_, fun i H r S p x s q => ?_, fun i H r S p x s q x' H' y => ?_⟩
  · have q' := Option.some.inj (show some _ = some _ from q)
    rw [z] at q'
    refine ⟨vs, us, SqT.of (x.tup _ _ ha), SqT.of (x.tup _ _ hb), ?_⟩
    rw [← h2.length, ← h4.length]
    exact pairAt_none q'
  · have q' := Option.some.inj (show some _ = some _ from q)
    rw [z] at q'
    obtain ⟨c, d, e1, e2, rfl⟩ := pairAt_some q'
    obtain ⟨v, q1, _⟩ := h2.get e1
    obtain ⟨u, q2, _⟩ := h4.get e2
    exact ⟨vs, us, v, u, SqT.of (x.tup _ _ ha), SqT.of (x.tup _ _ hb), q1, q2⟩
  · have q' := Option.some.inj (show some _ = some _ from q)
    rw [z] at q'
    obtain ⟨c, d, e1, e2, rfl⟩ := pairAt_some q'
    obtain ⟨T, v, u, rfl, hT, rfl, g1, g2⟩ := y
    exact new_pair s hT ((h2.ext x).get' e1 (g1 vs (SqT.of (x.tup _ _ ha)))) ((h4.ext x).get' e2 (g2 us (SqT.of (x.tup _ _ hb))))
def zipF (xs : List A) (S1 : Sto) : Option (FI × Sto) := match xs with
  | [.tup xs, .tup ys] => some (.items (List.zipWith (fun x y => A.tup [x, y]) xs ys), S1)
  | [.ref j, .ref k] => (match lstAt S1 j, lstAt S1 k with | some _, some _ => some (.live2 j k, S1) | _, _ => none)
  | _ => none
def fwZip (f : FA) : FW := fun e S => match f e S with
  | some (xs, S1) => zipF xs S1
  | none => none
theorem snd_wzip {K : PySem.W.Frag} {t : TA} {f : FA} (h1 : SndA K t f) : SndI K (iZipT K t) (fwZip f) := by
  intro e S F S' h H r sg R hS hE k
  unfold fwZip at h
  split at h
  · rename_i zs S1 q
    refine h1 _ _ _ _ q _ _ _ _ hS hE fun H1 r1 vs x1 s1 qs => ?_
    unfold zipF at h
    split at h
    · rename_i xs ys
      cases h
      cases qs with
      | cons qx q2 =>
        cases q2 with
        | cons qy q3 =>
          cases q3
          cases qx with
          | tup ha hs =>
            cases qy with
            | tup hb hs' => exact ⟨_, _, rfl, .inr ⟨⟨_, SqT.of ha⟩, ⟨_, SqT.of hb⟩, k _ H1 r1 x1 s1 (itr_zipT ha hb hs hs')⟩⟩
    · rename_i j kk
      split at h
      · rename_i xs ys e1 e2
        cases h
        cases qs with
        | cons qx q2 =>
          cases q2 with
          | cons qy q3 =>
            cases q3
            cases qx with
            | ref hj =>
              cases qy with
              | ref hk =>
                obtain ⟨_, z1, _⟩ := lstAt_sq s1 e1
                obtain ⟨_, z2, _⟩ := lstAt_sq s1 e2
                exact ⟨_, _, rfl, .inl ⟨⟨_, z1⟩, ⟨_, z2⟩, k _ H1 r1 x1 s1 (itr_zipL hj hk)⟩⟩
      · cases h
    · cases h
  · cases h
theorem si_zip {X : Cx} {e e2 : Expr} {fa : FA} {p pos tpos : Pos} {elts : List Expr} {kk : Nat} (hm : X.mg "zip" = none) (ha : SA X [e, e2] fa) (hg : Gl X "zip" := by rfl)
    (hs : starEach [e, e2] X.env = (false, eval e X.env) :: starEach [e2] X.env := by rfl) (hpl : (backTo pos (starEach [e2] X.env)).any (·.1) = false := by rfl) :
    SI X (.Tuple elts kk tpos) (.Call (.Name "zip" p) [e, e2] [] pos) (fwZip fa) := ⟨_, pi_zipT hg hm ha.p hs hpl, snd_wzip ha.s⟩
end F
namespace F
open PySem PySem.Spec L2
open PyProof.Rows (IsTup)
section
variable {prog : Program} {w : World} {A : Around} {E : Value → Shared → Prop} {s : Shared}
open HT in
theorem slice_whole {t sl : Addr} {items : Array Value} {vl vu : Value} {lo hi : Option Int} {Q : Value → Shared → Prop} (ht : IsTup s.heap t items) (hs : s.heap.IsSliceOf sl vl vu .none) (pl : IsPart vl lo) (pu : IsPart vu hi)
    (hw : sIx items.size 0 lo = 0 ∧ sIx items.size items.size hi = items.size) (h : Q (.ref t) s) : wpAny (model prog w) A (getItem (.ref t) (.ref sl)) Q E s := by
  obtain ⟨os, hos, hcs, hds⟩ := id hs
  have hTs : s.TypeIs (.ref sl) "slice" := ⟨os, hos, hcs⟩
  unfold getItem
  try with_reducible refine wpAny_holding ?_
  first | refine wpAny_bind (wpAny_pure ?_) | skip
  refine wpAny_bind (wpAny_sequenceKey ht.typeIs (by decide) ?_)
  refine wpAny_bind (wpAny_callSpecial?_slot (name := Str.ofString "__getitem__") ht.typeIs PyProof.Rows.slot_tuple_getitem (wpAny_call_entry PyProof.Rows.slot_tuple_getitem ht.typeIs PyProof.Rows.entry_tuple_getitem ?_ (PyProof.Rows.args_tuple_getitem _ _)))
  show wpAny _ _ (Builtin.Tuple.tupleItemsOf (.ref t) >>= _) _ _ s
  refine wpAny_bind (PyProof.Rows.tupleItemsOf_ ht ?_)
  refine wpAny_bind (wpAny_typeOf hTs ?_)
  rw [if_pos (by decide)]
  refine wpAny_bind (sliceApplied_gen hs pl pu ?_)
  have hyes : (((sIx items.size 0 lo : Nat) : Int) == 0 && (1 : Int) == 1 && (sIx items.size items.size hi - sIx items.size 0 lo) == items.size) = true := by
    rw [hw.1, hw.2]
    simp
  show wpAny _ _ (if (((sIx items.size 0 lo : Nat) : Int) == 0 && (1 : Int) == 1 && (sIx items.size items.size hi - sIx items.size 0 lo) == items.size) = true then _ else _) _ _ s
  rw [if_pos hyes]
  unfold Builtin.Tuple.tupleIsExact
  refine wpAny_bind (wpAny_bind (wpAny_typeOf ht.typeIs (wpAny_pure ?_)))
  rw [if_pos (by decide)]
  exact wpAny_bind (wpAny_rule (wpAny_pure ⟨_, rfl, wpAny_pure h⟩))
end
def rSlW (K : PySem.W.Frag) : V → Option Int → Option Int → Hp → VK → Prop := fun x lo hi H Q => ∃ a xs, x = .ref a ∧ SqT K H a xs ∧ (HT.sIx xs.length 0 lo = 0 ∧ HT.sIx xs.length xs.length hi = xs.length) ∧ Q (.ref a) H
theorem sl_whole {X : Cx} : SlR X (rSlW X.K) := by
  intro pins s σ H x v vl vu lo hi sl Q I rx hs pl pu h
  obtain ⟨a, xs, rfl, hx, hw, q⟩ := h
  cases rx
  obtain ⟨its, r, ht, hz⟩ := I.tuple hx
  have hlen : its.toArray.size = xs.length := by rw [List.size_toArray]; exact r.length.symm
  refine ⟨"tuple", _, PyProof.Rows.slot_tuple_getitem.lookup, ht.typeIs, slice_whole ht hs pl pu (by rw [hlen]; exact hw) ⟨.ref a, H, I, rfl, q⟩⟩
def cutA {α : Type} (xs : List α) (lo hi : Option Int) : List α := (xs.drop (HT.sIx xs.length 0 lo)).take (HT.sIx xs.length xs.length hi - HT.sIx xs.length 0 lo)
theorem cutA_whole {α : Type} (xs : List α) (lo hi : Option Int) (h : HT.sIx xs.length 0 lo = 0 ∧ HT.sIx xs.length xs.length hi = xs.length) : cutA xs lo hi = xs := by
  unfold cutA
  rw [h.1, h.2, List.drop_zero, Nat.sub_zero, List.take_length]
theorem RAs.drop {H : Hp} {r : Nat → Addr} {n : Nat} : ∀ {xs : List A} {vs : List V} (k : Nat), RAs H r n xs vs → RAs H r n (xs.drop k) (vs.drop k)
  | _, _, 0, h => h
  | _, _, _ + 1, .nil => .nil
  | _, _, k + 1, .cons _ t => RAs.drop k t
theorem RAs.take {H : Hp} {r : Nat → Addr} {n : Nat} : ∀ {xs : List A} {vs : List V} (k : Nat), RAs H r n xs vs → RAs H r n (xs.take k) (vs.take k)
  | _, _, 0, _ => .nil
  | _, _, _ + 1, .nil => .nil
  | _, _, k + 1, .cons h t => .cons h (RAs.take k t)
theorem RAs.cut {H : Hp} {r : Nat → Addr} {n : Nat} {xs : List A} {vs : List V} (h : RAs H r n xs vs) (lo hi : Option Int) : RAs H r n (cutA xs lo hi) (cutV vs lo hi) := by
  unfold cutA cutV
  rw [h.length]
  exact RAs.take _ (RAs.drop _ h)
abbrev FP := En → Sto → Option (Option Int × Sto)
def SndP (K : PySem.W.Frag) (t : TO) (f : FP) : Prop :=
  ∀ (e : En) (S : Sto) (o : Option Int) (S' : Sto), f e S = some (o, S') → ∀ (H : Hp) (r : Nat → Addr) (sg : St) (Q : Option Int → Hp → Prop), SR K H r S → RE H r S.length e sg →
    (∀ H' r', Ext H r S.length H' r' S'.length → SR K H' r' S' → Q o H') → t sg H Q
def SP' (X : Cx) (e : Option Expr) (f : FP) : Prop := ∃ t, PO X e t ∧ SndP X.K t f
def fNoP : FP := fun _ S => some (none, S)
def fSomeP (f : FE) : FP := fun e S => match f e S with | some (.int i, S1) => some (some i, S1) | _ => none
theorem sp_none {X : Cx} : SP' X none fNoP := ⟨_, po_none, by
  intro e S o S' h H r sg Q hS hE k
  cases h
  exact k H r (Ext.refl _ _ _) hS⟩
theorem sp_some {X : Cx} {e : Expr} {f : FE} (h : SE X e f) : SP' X (some e) (fSomeP f) := ⟨_, po_some h.p, by
  intro e S o S' q H r sg Q hS hE k
  unfold fSomeP at q
  split at q
  · rename_i i S1 q1
    cases q
    refine h.s _ _ _ _ q1 _ _ _ _ hS hE fun H1 r1 v x1 s1 qv => ?_
    exact ⟨i, qv.int_eq, k H1 r1 x1 s1⟩
  · cases q⟩
def fSl (fe : FE) (fl fh : FP) : FE := fun e S => match fe e S with
  | some (x, S1) => (match fl e S1 with
    | some (lo, S2) => (match fh e S2 with
      | some (hi, S3) => (match x with
        | .tup xs => some (.tup (cutA xs lo hi), S3)
        | .ref k => (match lstAt S3 k with | some xs => some (.ref S3.length, S3 ++ [.lst (cutA xs lo hi)]) | none => none)
        | _ => none)
      | none => none)
    | none => none)
  | none => none
theorem se_slice {X : Cx} {e : Expr} {lo hi : Option Expr} {pos p2 : Pos} {fe : FE} {fl fh : FP} (he : SE X e fe) (hl : SP' X lo fl) (hh : SP' X hi fh) : SE X (.Subscript e (.Slice lo hi none p2) pos) (fSl fe fl fh) := by
  obtain ⟨tl, pl, sl⟩ := hl
  obtain ⟨th, ph, sh⟩ := hh
  refine ⟨_, pe_slice (sl_list.or (sl_tup.or sl_whole)) he.p pl ph, ?_⟩
  intro e S v S' h H r sg Q hS hE k
  unfold fSl at h
  split at h
  · rename_i x S1 h1
    split at h
    · rename_i l S2 h2
      split at h
      · rename_i u S3 h3
        refine he.s _ _ _ _ h1 _ _ _ _ hS hE fun H1 r1 x' x1 s1 qx => ?_
        refine sl _ _ _ _ h2 _ _ _ _ s1 (hE.ext x1) fun H2 r2 x2 s2 => ?_
        refine sh _ _ _ _ h3 _ _ _ _ s2 (hE.ext (x1.trans x2)) fun H3 r3 x3 s3 => ?_
        have q3 := qx.ext (x2.trans x3)
        split at h
        · rename_i xs
          cases h
          cases q3 with
          | @tup a _ vs ha hs =>
            by_cases hw : HT.sIx vs.length 0 l = 0 ∧ HT.sIx vs.length vs.length u = vs.length
            · refine .inr (.inr ⟨a, vs, rfl, SqT.of ha, hw, k H3 r3 _ (x1.trans (x2.trans x3)) s3 ?_⟩)
              rw [cutA_whole xs l u (by rw [hs.length]; exact hw)]
              exact .tup ha hs
            · refine .inr (.inl ⟨a, vs, rfl, SqT.of ha, hw, fun p hp => k _ r3 _ ((x1.trans (x2.trans x3)).trans (ext_new hp)) (s3.new hp) ?_⟩)
              exact .tup upd_same ((hs.cut l u).ext (ext_new hp))
        · rename_i kk
          split at h
          · rename_i xs e1
            cases h
            cases q3 with
            | ref hk =>
              obtain ⟨vs, z1, z2⟩ := lstAt_sq s3 e1
              refine .inl ⟨_, vs, rfl, z1, fun p hp => ?_⟩
              have len : (S3 ++ [SO.lst (cutA xs l u)]).length = S3.length + 1 := by simp
              refine k _ (put r3 S3.length p) _ ((x1.trans (x2.trans x3)).trans (by rw [len]; exact ext_lst hp)) (s3.newLst hp (z2.cut l u)) ?_
              have z : RA (upd H3 p (.lst (cutV vs l u))) (put r3 S3.length p) (S3 ++ [SO.lst (cutA xs l u)]).length (.ref S3.length) (.ref (put r3 S3.length p S3.length)) := .ref (by rw [len]; exact Nat.lt_succ_self _)
              rw [put_at] at z
              exact z
          · cases h
        · cases h
      · cases h
    · cases h
  · cases h
def rCatA (K : PySem.W.Frag) : R2 := fun x y H Q => ∃ a b xs ys, x = .ref a ∧ y = .ref b ∧ SqT K H a xs ∧ SqT K H b ys ∧ xs.length + ys.length ≤ sizeLine ∧ (xs = [] → Q (.ref b) H) ∧ (xs ≠ [] → ys = [] → Q (.ref a) H) ∧ (xs ≠ [] → ys ≠ [] → ∀ p, H p = none → Q (.ref p) (upd H p (.tup (xs ++ ys))))
theorem Vals.nil_iff' {xs : List V} {us : List Value} (r : Vals xs us) : us = [] ↔ xs = [] := by
  cases r with
  | nil => simp
  | cons _ _ => simp
theorem op_catA {X : Cx} : OpR X (binaryOp .Add) (rCatA X.K) := by
  intro pins s σ H x y v u Q I rx ry h
  obtain ⟨a, b, xs, ys, rfl, rfl, ha, hb, hz, q0, q1, q2⟩ := h
  cases rx
  cases ry
  obtain ⟨its, r1, p1, _⟩ := I.tuple ha
  obtain ⟨its2, r2, p2, _⟩ := I.tuple hb
  by_cases hx : xs = []
  · obtain ⟨⟨cls, dd, data, sl⟩, ho, hc, n, hd⟩ := id p1
    obtain ⟨⟨cls2, dd2, data2, sl2⟩, ho2, hc2, n2, hd2⟩ := id p2
    simp only at hc hd hc2 hd2
    subst hc hd hc2 hd2
    have e : its = [] := (Vals.nil_iff' r1).mpr hx
    exact concat_meets ⟨_, ho, rfl⟩ ⟨_, ho2, rfl⟩ noFill_tuple_add seq_tuple_add PySem.F.slot_tuple_add PySem.F.entry_tuple_add (PySem.F.args_tuple_add_2 _ _)
      (PyProof.Rows.tuple_addW0 a b its.toArray its2.toArray n n2 dd dd2 sl sl2 (by simp [e])) ⟨ho, ho2, ⟨.ref b, H, I, rfl, q0 hx⟩⟩
  · exact op_catT pins s σ H (.ref a) (.ref b) _ _ Q I rfl rfl ⟨a, b, xs, ys, rfl, rfl, ha, hb, hx, hz, q1 hx, fun z => q2 hx z⟩
def gCatT : FO := fun x y S => match x, y with
  | .tup xs, .tup ys => if xs.length + ys.length ≤ sizeLine then some (.tup (xs ++ ys), S) else none
  | _, _ => none
theorem snd_catT {K : PySem.W.Frag} : SndO K (rCatA K) gCatT := by
  intro x y S z S' h H r x' y' Q hS qx qy k
  unfold gCatT at h
  split at h
  · rename_i xs ys
    split at h
    · rename_i hl
      cases h
      cases qx with
      | @tup a _ vs ha hs =>
        cases qy with
        | @tup b _ us hb ht =>
          refine ⟨a, b, vs, us, rfl, rfl, SqT.of ha, SqT.of hb, by rw [← hs.length, ← ht.length]; exact hl, fun e => ?_, fun _ e => ?_, fun _ _ p hp => ?_⟩
          · subst e
            cases hs
            exact k H r _ (Ext.refl _ _ _) hS (.tup hb ht)
          · subst e
            cases ht
            rw [List.append_nil] at k
            exact k H r _ (Ext.refl _ _ _) hS (.tup ha hs)
          · exact k _ r _ (ext_new hp) (hS.new hp) (.tup upd_same ((hs.append ht).ext (ext_new hp)))
    · cases h
  · cases h
theorem se_addT {X : Cx} {a b : Expr} {fa fb : FE} {pos : Pos} (ha : SE X a fa) (hb : SE X b fb) : SE X (.BinOp a .Add b pos) (fOp gCatT fa fb) := se_op op_catA snd_catT ha hb
def gCatL : FO := fun x y S => match x, y with
  | .ref j, .ref k => (match S[j]?, S[k]? with
    | some (.lst xs), some (.lst ys) => if xs.length + ys.length ≤ sizeLine then some (.ref S.length, S ++ [.lst (xs ++ ys)]) else none
    | _, _ => none)
  | _, _ => none
theorem snd_catL {K : PySem.W.Frag} : SndO K rCat gCatL := by
  intro x y S z S' h H r x' y' Q hS qx qy k
  unfold gCatL at h
  split at h
  · rename_i j kk
    split at h
    · rename_i xs ys e1 e2
      split at h
      · rename_i hl
        cases h
        cases qx with
        | ref hj =>
          cases qy with
          | ref hk =>
            obtain ⟨vs, a1, a2⟩ := hS.obj _ _ e1
            obtain ⟨us, b1, b2⟩ := hS.obj _ _ e2
            refine ⟨_, _, vs, us, rfl, rfl, a1, b1, by rw [← a2.length, ← b2.length]; exact hl, fun p hp => ?_⟩
            have len : (S ++ [SO.lst (xs ++ ys)]).length = S.length + 1 := by simp
            refine k _ (put r S.length p) _ (by rw [len]; exact ext_lst hp) (hS.newLst hp (a2.append b2)) ?_
            have z : RA (upd H p (.lst (vs ++ us))) (put r S.length p) (S ++ [SO.lst (xs ++ ys)]).length (.ref S.length) (.ref (put r S.length p S.length)) := .ref (by rw [len]; exact Nat.lt_succ_self _)
            rw [put_at] at z
            exact z
      · cases h
    · cases h
  · cases h
theorem se_addL {X : Cx} {a b : Expr} {fa fb : FE} {pos : Pos} (ha : SE X a fa) (hb : SE X b fb) : SE X (.BinOp a .Add b pos) (fOp gCatL fa fb) := se_op op_cat snd_catL ha hb
def rRepT (K : PySem.W.Frag) : R2 := fun x y H Q => ∃ a k xs, x = .ref a ∧ y = .int k ∧ SqT K H a xs ∧ -(2 ^ 63) ≤ k ∧ k < 2 ^ 63 ∧ xs.length * k.toNat ≤ sizeLine ∧ ((xs = [] ∨ k = 1) → Q (.ref a) H) ∧ (xs ≠ [] → k ≠ 1 → ∀ p, H p = none → Q (.ref p) (upd H p (.tup (List.replicate k.toNat xs).flatten)))
theorem op_repT {X : Cx} : OpR X (binaryOp .Mult) (rRepT X.K) := by
  intro pins s σ H x y v u Q I rx ry h
  obtain ⟨a, k, xs, rfl, rfl, ha, k1, k2, hz, q0, q1⟩ := h
  cases rx
  obtain ⟨t, rfl⟩ := ry
  obtain ⟨its, r1, p1, _⟩ := I.tuple ha
  have hl := r1.length
  obtain ⟨⟨cls, dd, data, sl⟩, ho, hc, n, hd⟩ := id p1
  simp only at hc hd
  subst hc hd
  have hc0 : ¬ ((decide (k < -(2 ^ 63)) || decide (k ≥ 2 ^ 63)) = true) := by
    rw [Bool.or_eq_true, decide_eq_true_eq, decide_eq_true_eq]
    omega
  have road : wpAny (model X.prog X.w) X.A (call (.builtin "tuple.__mul__") [.ref a, .int k t]) (EP X pins σ Q) X.xe s → wpAny (model X.prog X.w) X.A (binaryOp .Mult (.ref a) (.int k t)) (EP X pins σ Q) X.xe s := fun h =>
    wpAny_binaryOp_repeat_ref (T := "tuple") (U := "int") (by decide) ⟨_, ho, rfl⟩ (fun s' => typeIs_int s' k t) noR_tuple_mul' PySem.F.fills_int_mul PySem.F.slot_int_rmul rep_tuple' PySem.F.slot_int_index.lookup
      (call_meets PySem.F.slot_int_rmul (typeIs_int s k t) PySem.F.entry_int_rmul (PySem.F.args_int_rmul_2 _ _) (rmul_int_tuple k t a dd its.toArray n sl) ⟨ho, rfl, ⟨_, ho, rfl⟩, h⟩)
  refine road ?_
  have emp : its.toArray.isEmpty = true ↔ xs = [] := by
    rw [← Vals.nil_iff' r1]
    cases its <;> simp
  by_cases hc : (its.toArray.isEmpty || k == 1) = true
  · refine call_meets PySem.F.slot_tuple_mul ⟨_, ho, rfl⟩ PySem.F.entry_tuple_mul (PySem.F.args_tuple_mul_2 _ _) (mul_tuple_same a dd its.toArray n sl k t hc0 hc) ⟨ho, ⟨.ref a, H, I, rfl, q0 ?_⟩⟩
    rw [Bool.or_eq_true] at hc
    rcases hc with hc | hc
    · exact .inl (emp.mp hc)
    · exact .inr (by simpa using hc)
  · have hx : xs ≠ [] := fun e => hc (by rw [emp.mpr e]; rfl)
    have hk : k ≠ 1 := fun e => hc (by rw [e]; simp)
    have hq := q1 hx hk
    have newOk : ∀ {ws : List Value}, Vals (List.replicate k.toNat xs).flatten ws → EP X pins σ Q (.ref s.heap.objs.size) { s with heap := s.heap.push { cls := .type "tuple", data := .seq ws.toArray } } := fun {ws} hv => by
      have hlen : (List.replicate k.toNat xs).flatten.length ≤ sizeLine := by rw [len_rep, Nat.mul_comm]; exact hz
      refine ⟨.ref s.heap.objs.size, _, I.laid (t' := s.toks) (o := .tup (List.replicate k.toNat xs).flatten) (fun b ob q => Heap.get?_push_of_some _ q) (Nat.le_refl _) ?_, rfl, hq _ (I.hok.fresh (Nat.le_refl _))⟩
      exact ⟨hlen, ws, hv, IsTup.new _ _⟩
    by_cases hc2 : (decide (k ≤ 0) || its.toArray.isEmpty) = true
    · refine call_meets PySem.F.slot_tuple_mul ⟨_, ho, rfl⟩ PySem.F.entry_tuple_mul (PySem.F.args_tuple_mul_2 _ _) (mul_tuple_none a dd its.toArray n sl k t hc0 hc hc2) ⟨ho, ?_⟩
      rw [Bool.or_eq_true, decide_eq_true_eq] at hc2
      have h0 : k.toNat = 0 := by
        rcases hc2 with h | h
        · omega
        · exact absurd (emp.mp h) hx
      have := newOk (ws := []) (by rw [h0]; exact .nil)
      exact this
    · have hsize : its.toArray.size = xs.length := by rw [List.size_toArray, hl]
      have kp : 0 < k := by
        rw [Bool.or_eq_true, decide_eq_true_eq] at hc2
        rcases Int.lt_or_le 0 k with h | h
        · exact h
        · exact absurd (.inl h) hc2
      have hprod : ((its.toArray.size : Nat) : Int) * k = ((xs.length * k.toNat : Nat) : Int) := by
        rw [hsize, Int.natCast_mul, Int.toNat_of_nonneg (by omega)]
      have f0 : List.foldl (fun x1 x2 => x1 ++ x2) #[] (List.replicate k.toNat its.toArray) = (List.replicate k.toNat its).flatten.toArray := by
        have := foldl_rep its k.toNat []
        rw [List.nil_append] at this
        exact this
      have hsl : (sizeLine : Nat) ≤ (2 ^ 63 - 1) / 8 := by decide
      refine call_meets PySem.F.slot_tuple_mul ⟨_, ho, rfl⟩ PySem.F.entry_tuple_mul (PySem.F.args_tuple_mul_2 _ _) (mul_tuple_many a dd its.toArray n sl k t hc0 hc hc2 ?_ ?_ ?_) ⟨ho, ?_⟩
      · rw [hprod]
        omega
      · unfold Builtin.Tuple.tupleTooMany
        rw [hprod, decide_eq_true_eq]
        omega
      · rw [f0, List.size_toArray, len_rep, Nat.mul_comm, ← hl]
        exact hz
      · rw [f0]
        exact newOk (r1.rep k.toNat)
def gRepT : FO := fun x y S => match x, y with
  | .tup xs, .int k => if (-(2 ^ 63) ≤ k ∧ k < 2 ^ 63) ∧ xs.length * k.toNat ≤ sizeLine then some (.tup (List.replicate k.toNat xs).flatten, S) else none
  | _, _ => none
theorem RAs.rep {H : Hp} {r : Nat → Addr} {n : Nat} {xs : List A} {vs : List V} (h : RAs H r n xs vs) : ∀ k : Nat, RAs H r n (List.replicate k xs).flatten (List.replicate k vs).flatten
  | 0 => .nil
  | k + 1 => by
    rw [List.replicate_succ, List.replicate_succ, List.flatten_cons, List.flatten_cons]
    exact h.append (RAs.rep h k)
theorem snd_repT {K : PySem.W.Frag} : SndO K (rRepT K) gRepT := by
  intro x y S z S' h H r x' y' Q hS qx qy k
  unfold gRepT at h
  split at h
  · rename_i xs n
    split at h
    · rename_i hl
      cases h
      cases qy.int_eq
      cases qx with
      | @tup a _ vs ha hs =>
        refine ⟨a, n, vs, rfl, rfl, SqT.of ha, hl.1.1, hl.1.2, by rw [← hs.length]; exact hl.2, fun e => ?_, fun _ _ p hp => ?_⟩
        · have er : (List.replicate n.toNat xs).flatten = xs := by
            rcases e with e | e
            · subst e
              cases hs
              simp
            · subst e
              simp
          rw [er] at k
          exact k H r _ (Ext.refl _ _ _) hS (.tup ha hs)
        · exact k _ r _ (ext_new hp) (hS.new hp) (.tup upd_same ((hs.rep n.toNat).ext (ext_new hp)))
    · cases h
  · cases h
theorem se_mulT {X : Cx} {a b : Expr} {fa fb : FE} {pos : Pos} (ha : SE X a fa) (hb : SE X b fb) : SE X (.BinOp a .Mult b pos) (fOp gRepT fa fb) := se_op op_repT snd_repT ha hb
mutual
def noList : PyData → Bool
  | .list _ => false
  | .tuple xs => noListAll xs
  | _ => true
def noListAll : List PyData → Bool
  | [] => true
  | x :: xs => noList x && noListAll xs
end
section
variable {X : Cx} {pins : List (Addr × Obj)} {σ : St} {H : Hp} {s : Shared}
mutual
theorem Dq.readsN (I : Inv X pins σ H s) : ∀ {v : V} {d : PyData} {u : Value}, Dq X.K H v d → noList d = true → RelV v u → ∃ as, Reads s.heap u d as ∧ sysModules ∉ as
  | _, _, _, .non, _, r => by
    cases r
    exact ⟨_, Reads.none, by simp⟩
  | _, _, _, .bl b, _, r => by
    cases r
    exact ⟨_, Reads.bool b, by simp⟩
  | _, _, _, .int i, _, r => by
    obtain ⟨t, rfl⟩ := r
    exact ⟨_, Reads.int i t, by simp⟩
  | _, _, _, .str x, _, r => by
    obtain ⟨t, rfl⟩ := r
    exact ⟨_, Reads.str x t, by simp⟩
  | _, _, _, .lst _ _, h, _ => by
    rw [noList] at h
    cases h
  | _, _, _, .tup q qs, h, r => by
    cases r
    obtain ⟨its, rv, ⟨o, ho, hc, n, hd⟩, _⟩ := I.tuple q
    obtain ⟨as, hr, hn⟩ := DqAll.readsN I (us := its) qs (by rw [noList] at h; exact h) rv
    exact ⟨_, Reads.tuple ho hc hd hr, hn⟩
  | _, _, _, .dic q, _, r => by
    cases r
    obtain ⟨_, hne, vs, kv, o, es, ep, ho, hx, hd, _, hp, _⟩ := I.hok _ _ q
    cases kv
    have he : es.toList = [] := by
      generalize es.toList = l at hp
      cases hp
      rfl
    refine ⟨_, Reads.dict (kvs := []) ho hx.1 hd (by rw [he]; exact .nil) (by rw [he]; exact .nil), ?_⟩
    simp only [List.append_nil, List.mem_singleton]
    intro e
    rw [← e] at hne
    simp at hne
theorem DqAll.readsN (I : Inv X pins σ H s) : ∀ {vs : List V} {ds : List PyData} {us : List Value}, DqAll X.K H vs ds → noListAll ds = true → Vals vs us → ∃ as, ReadsAll s.heap us ds as ∧ sysModules ∉ as
  | _, _, _, .nil, _, r => by
    cases r
    exact ⟨_, ReadsAll.nil, by simp⟩
  | _, _, _, .cons q qs, h, r => by
    rw [noListAll, Bool.and_eq_true] at h
    cases r with
    | cons r1 r2 =>
      obtain ⟨as, q1, n1⟩ := Dq.readsN I q h.1 r1
      obtain ⟨bs, q2, n2⟩ := DqAll.readsN I qs h.2 r2
      exact ⟨_, ReadsAll.cons q1 q2, fun z => (List.mem_append.mp z).elim n1 n2⟩
end
end
def canRepr (d : PyData) : Bool := d.showable && (!d.hasDict || noList d) && decide (d.depth ≤ 64) && decide (d.shown.length ≤ sizeLine)
def rRepr (K : PySem.W.Frag) : List V → Hp → VK → Prop := fun xs H Q => ∃ v d, xs = [v] ∧ Dq K H v d ∧ canRepr d = true ∧ Q (.str d.shown) H
theorem call_reprD {X : Cx} {k : Nat} (hr : Room k X.A) : CallR X (.builtin "repr") (rRepr X.K) := by
  intro pins s σ H xs us Q I r h
  obtain ⟨v, d, rfl, hd, hc, q⟩ := h
  unfold canRepr at hc
  simp only [Bool.and_eq_true, decide_eq_true_eq, Bool.or_eq_true, Bool.not_eq_true'] at hc
  obtain ⟨⟨⟨hs, hn⟩, hdp⟩, hz⟩ := hc
  have hu := hr.un
  have big : ∀ (a : Addr), Dq X.K H (.ref a) d → wpAny (model X.prog X.w) X.A (call (.builtin "repr") [.ref a]) (EP X pins σ Q) X.xe s := fun a hd => by
    have key : ∃ as, Reads s.heap (.ref a) d as ∧ (d.hasDict = true → sysModules ∉ as) := by
      rcases hn with hn | hn
      · obtain ⟨as, rd⟩ := Dp.reads I d (.ref a) (.ref a) (hd.dp hn) rfl
        exact ⟨as, rd, fun z => by rw [hn] at z; cases z⟩
      · obtain ⟨as, rd, z⟩ := hd.readsN I hn (u := .ref a) rfl
        exact ⟨as, rd, fun _ => z⟩
    obtain ⟨as, rd, z⟩ := key
    refine repr_of_reads' rd hs z hr.gd (by omega) (fun b o e => e) (fun h' u tk kp => ?_) hz
    exact ⟨.str d.shown, H, I.kept (t' := tk) kp, ⟨u, rfl⟩, q⟩
  cases r with
  | cons r1 r2 =>
    cases r2
    cases hd with
    | non =>
      cases r1
      exact PySem.P.repr_of_none ⟨.str _, H, I.tok _, ⟨_, by rw [PyData.shown]⟩, q⟩
    | bl b =>
      cases r1
      exact PySem.P.repr_of_bool ⟨.str _, H, I.tok _, ⟨_, by rw [PyData.shown]⟩, q⟩
    | int i =>
      obtain ⟨t, rfl⟩ := r1
      rw [PyData.showable] at hs
      exact PySem.P.repr_of_int (of_decide_eq_true hs) ⟨.str _, H, I.tok _, ⟨_, by rw [PyData.shown]⟩, q⟩
    | str x =>
      obtain ⟨t, rfl⟩ := r1
      rw [PyData.shown] at hz
      exact PySem.P.repr_of_str ⟨.str _, H, I.tok _, ⟨_, by rw [PyData.shown]⟩, q⟩ hz
    | @lst a _ _ h1 h2 =>
      cases r1
      exact big a (.lst h1 h2)
    | @tup a _ _ h1 h2 =>
      cases r1
      exact big a (.tup h1 h2)
    | @dic a h1 =>
      cases r1
      exact big a (.dic h1)
def gRepr : FN := fun xs S => match xs with
  | [x] => (match toD S 12 x with
    | some d => if canRepr d = true then some (.str d.shown, S) else none
    | none => none)
  | _ => none
theorem snd_repr {K : PySem.W.Frag} : SndC K (rRepr K) gRepr := by
  intro xs S z S' h H r vs Q hS qs k
  unfold gRepr at h
  split at h
  · rename_i x
    cases qs with
    | cons qx q2 =>
      cases q2
      split at h
      · rename_i d e
        split at h
        · rename_i hc
          cases h
          exact ⟨_, d, rfl, toD_rel hS _ _ _ _ e qx, hc, k H r _ (Ext.refl _ _ _) hS (.str _)⟩
        · cases h
      · cases h
  · cases h
theorem se_repr {X : Cx} {e : Expr} {es : List Expr} {fa : FA} {pos p : Pos} {k : Nat} (hr : Room k X.A) (hm : X.mg "repr" = none) (ha : SA X (e :: es) fa) (hg : Gl X "repr" := by rfl) (he : starEach (e :: es) X.env = (false, eval e X.env) :: starEach es X.env := by rfl) (hpl : (backTo pos (starEach es X.env)).any (·.1) = false := by rfl) :
    SE X (.Call (.Name "repr" p) (e :: es) [] pos) (fCall gRepr fa) := se_callB (call_reprD hr) snd_repr hg hm (by decide +kernel) ha (by decide) (by decide) he hpl
theorem se_globE {X : Cx} {x : Str} {pos : Pos} {i : Int} (hm : ∃ t, X.mg x = some (.int i t)) (hg : Gl X x := by rfl) (hd : (x == ("__debug__" : Str)) = false := by decide) : SE X (.Name x pos) (fC (.int i)) := by
  obtain ⟨t, h⟩ := hm
  exact se_globI h hg hd
section
variable {P : Program} {w : World} {K : PySem.W.Frag} {mg : Str → Option Value} {base : Heap}
theorem fnf_at {x qual : Str} {st : Stmt} {f : Addr} {fd : FuncData} {N ps : List Str} {k np nl : Nat} {fb : FS} (F : Fun K x qual st f fd) (S : FnScope N ps (defScope st)) (hm : mg x = some (.ref f)) (hb : Binds K fd ps []) (hnp : ps.length = np) (hnl : N.length = nl)
    (hbody : ∀ (cdv : Value) (A : Around) (outer : List Env) (s : Shared) (H : Hp) (E : XK), Room k (A.deeper (PyProof.Rows.envOfC qual (defScope st) s.heap.objs.size f cdv)) →
      SSs (cxOf CX0 P w K mg base N qual (defScope st) f cdv A outer s H E).nox (defBody st) fb) : FnF P w K mg base (k + 1) x ps (fDef np nl fb) := by
  subst hnp hnl
  exact fnf_of F S hm hb hbody
theorem fn_at {x qual : Str} {st : Stmt} {f : Addr} {fd : FuncData} {N ps : List Str} {k np nl : Nat} {fb : FS} (F : Fun K x qual st f fd) (S : FnScope N ps (defScope st)) (hnp : ps.length = np) (hnl : N.length = nl)
    (hbody : ∀ (cdv : Value) (A : Around) (outer : List Env) (s : Shared) (H : Hp) (E : XK), Room k (A.deeper (PyProof.Rows.envOfC qual (defScope st) s.heap.objs.size f cdv)) →
      SSs (cxOf CX0 P w K mg base N qual (defScope st) f cdv A outer s H E).nox (defBody st) fb) : FnOk P w K mg base CX0 (k + 1) f fd ps (spF K np (fDef np nl fb)) := by
  subst hnp hnl
  exact fn_ok F S hbody
end
end F
namespace F
open PySem PySem.Spec L2
theorem mulOk_l {i j : Int} (h1 : -18446744073709551616 < i) (h2 : i < 18446744073709551616) : mulOk i j = true := by
  unfold mulOk
  have h : Builtin.Int.intBits i ≤ 64 := PySem.intBits_le_64 (by omega) (by omega)
  have h' : ¬ (Builtin.Int.intBits i > shortFactorBits) := Nat.not_lt.mpr h
  rw [decide_eq_false h']
  simp
theorem mulOk_r {i j : Int} (h1 : -18446744073709551616 < j) (h2 : j < 18446744073709551616) : mulOk i j = true := by
  unfold mulOk
  have h : Builtin.Int.intBits j ≤ 64 := PySem.intBits_le_64 (by omega) (by omega)
  have h' : ¬ (Builtin.Int.intBits j > shortFactorBits) := Nat.not_lt.mpr h
  rw [decide_eq_false h']
  simp
theorem divOk_of {i j : Int} (h0 : 0 < j) (h : j.natAbs.log2 < 9000) : divOk i j = true := by
  unfold divOk
  rw [decide_eq_true h0, PyProof.noPylong_of_log2 h]
  rfl
def W {α β : Type} (o : Option (α × β)) (Q : α → β → Prop) : Prop := match o with | some (v, w) => Q v w | none => False
theorem W.ex {α β : Type} {o : Option (α × β)} {Q : α → β → Prop} (h : W o Q) : ∃ v w, o = some (v, w) ∧ Q v w := by
  cases o with
  | none => exact h.elim
  | some p => exact ⟨p.1, p.2, rfl, h⟩
theorem W.of {α β : Type} {o : Option (α × β)} {Q : α → β → Prop} {v : α} {w : β} (e : o = some (v, w)) (h : Q v w) : W o Q := by rw [e]; exact h
theorem W.mono {α β : Type} {o : Option (α × β)} {Q Q' : α → β → Prop} (h : W o Q) (k : ∀ v w, Q v w → Q' v w) : W o Q' := by
  cases o with
  | none => exact h
  | some p => exact k _ _ h
abbrev WE (f : FE) (e : En) (S : Sto) (Q : A → Sto → Prop) : Prop := W (f e S) Q
abbrev WT (f : FT) (e : En) (S : Sto) (Q : Bool → Sto → Prop) : Prop := W (f e S) Q
abbrev WA (f : FA) (e : En) (S : Sto) (Q : List A → Sto → Prop) : Prop := W (f e S) Q
abbrev WS (f : FS) (e : En) (S : Sto) (Q : Fl → Sto → Prop) : Prop := W (f e S) Q
abbrev WO (g : FO) (x y : A) (S : Sto) (Q : A → Sto → Prop) : Prop := W (g x y S) Q
abbrev WC (g : FN) (xs : List A) (S : Sto) (Q : A → Sto → Prop) : Prop := W (g xs S) Q
abbrev WG (g : FG) (x : A) (e : En) (S : Sto) (Q : En → Sto → Prop) : Prop := W (g x e S) Q
abbrev WGs (g : FGs) (x : List A) (e : En) (S : Sto) (Q : En → Sto → Prop) : Prop := W (g x e S) Q
abbrev WW (g : FW) (e : En) (S : Sto) (Q : FI → Sto → Prop) : Prop := W (g e S) Q
theorem we_var {i : Nat} {e : En} {S : Sto} {Q} : WE (fVar i) e S Q = (match e[i]? with | some (some a) => Q a S | _ => False) := by
  unfold WE fVar
  cases e[i]? with
  | none => rfl
  | some o => cases o <;> rfl
theorem we_c {a : A} {e : En} {S : Sto} {Q} : WE (fC a) e S Q = Q a S := (rfl)
theorem we_op {g : FO} {fa fb : FE} {e : En} {S : Sto} {Q} : WE (fOp g fa fb) e S Q = WE fa e S fun x S1 => WE fb e S1 fun y S2 => WO g x y S2 Q := by
  unfold WE fOp WO
  cases fa e S with
  | none => rfl
  | some p => dsimp only [W]; cases fb e p.2 <;> rfl
theorem we_neg {f : FE} {e : En} {S : Sto} {Q} : WE (fNeg f) e S Q = WE f e S fun x S1 => (match x with | .int i => Q (.int (-i)) S1 | _ => False) := by
  unfold WE fNeg
  cases f e S with
  | none => rfl
  | some p =>
    obtain ⟨x, S1⟩ := p
    cases x <;> rfl
theorem wo_gI {C : Int → Int → Bool} {f : Int → Int → A} {i j : Int} {S : Sto} {Q} : WO (gI C f) (.int i) (.int j) S Q = (C i j = true ∧ Q (f i j) S) := by
  unfold WO gI
  by_cases h : C i j = true
  · simp [h, W]
  · simp [h, W]
theorem wo_add {i j : Int} {S : Sto} {Q} : WO gAdd (.int i) (.int j) S Q = Q (.int (i + j)) S := by unfold gAdd; rw [wo_gI]; simp
theorem wo_sub {i j : Int} {S : Sto} {Q} : WO gSub' (.int i) (.int j) S Q = Q (.int (i - j)) S := by unfold gSub'; rw [wo_gI]; simp
theorem wo_mul {i j : Int} {S : Sto} {Q} : WO gMul (.int i) (.int j) S Q = (mulOk i j = true ∧ Q (.int (i * j)) S) := by unfold gMul; rw [wo_gI]
theorem wo_div {i j : Int} {S : Sto} {Q} : WO gDiv (.int i) (.int j) S Q = (divOk i j = true ∧ Q (.int (i / j)) S) := by unfold gDiv; rw [wo_gI]
theorem wo_mod {i j : Int} {S : Sto} {Q} : WO gMod (.int i) (.int j) S Q = (0 < j ∧ Q (.int (i % j)) S) := by unfold gMod; rw [wo_gI]; simp
theorem wo_pow {i j : Int} {S : Sto} {Q} : WO gPow (.int i) (.int j) S Q = (powOk i j = true ∧ Q (.int (i ^ j.toNat)) S) := by unfold gPow; rw [wo_gI]
theorem wo_lt {i j : Int} {S : Sto} {Q} : WO gLt (.int i) (.int j) S Q = Q (.bl (decide (i < j))) S := by unfold gLt; rw [wo_gI]; simp
theorem wo_le {i j : Int} {S : Sto} {Q} : WO gLe (.int i) (.int j) S Q = Q (.bl (decide (i ≤ j))) S := by unfold gLe; rw [wo_gI]; simp
theorem wo_gt {i j : Int} {S : Sto} {Q} : WO gGt (.int i) (.int j) S Q = Q (.bl (decide (j < i))) S := by unfold gGt; rw [wo_gI]; simp
theorem wo_ge {i j : Int} {S : Sto} {Q} : WO gGe (.int i) (.int j) S Q = Q (.bl (decide (j ≤ i))) S := by unfold gGe; rw [wo_gI]; simp
theorem wo_ix {x : A} {i : Int} {S : Sto} {Q} : WO gIx x (.int i) S Q = (match seqOf S x with | some xs => (match atI xs i with | some z => Q z S | none => False) | none => False) := by
  unfold WO gIx
  cases seqOf S x with
  | none => rfl
  | some xs => dsimp only; cases atI xs i <;> rfl
theorem wt_b {f : FE} {e : En} {S : Sto} {Q} : WT (fB f) e S Q = WE f e S fun x S1 => (match x with | .bl b => Q b S1 | _ => False) := by
  unfold WT WE fB
  cases f e S with
  | none => rfl
  | some p =>
    obtain ⟨x, S1⟩ := p
    cases x <;> rfl
theorem wt_and {f g : FT} {e : En} {S : Sto} {Q} : WT (fAndT f g) e S Q = WT f e S fun b S1 => if b = true then WT g e S1 Q else Q false S1 := by
  unfold WT fAndT
  cases f e S with
  | none => rfl
  | some p =>
    obtain ⟨x, S1⟩ := p
    cases x <;> simp [W]
theorem wt_or {f g : FT} {e : En} {S : Sto} {Q} : WT (fOrT f g) e S Q = WT f e S fun b S1 => if b = true then Q true S1 else WT g e S1 Q := by
  unfold WT fOrT
  cases f e S with
  | none => rfl
  | some p =>
    obtain ⟨x, S1⟩ := p
    cases x <;> simp [W]
theorem wt_not {f : FT} {e : En} {S : Sto} {Q} : WT (fNotT f) e S Q = WT f e S fun b S1 => Q (!b) S1 := by
  unfold WT fNotT
  cases f e S <;> rfl
theorem wt_yes {e : En} {S : Sto} {Q} : WT fYes e S Q = Q true S := (rfl)
theorem we_and {f g : FE} {e : En} {S : Sto} {Q} : WE (fAndV f g) e S Q = WE f e S fun x S1 => (match x with | .bl b => if b = true then WE g e S1 Q else Q (.bl false) S1 | _ => False) := by
  unfold WE fAndV
  cases f e S with
  | none => rfl
  | some p =>
    obtain ⟨x, S1⟩ := p
    cases x with
    | bl b => cases b <;> simp [W]
    | _ => rfl
theorem we_or {f g : FE} {e : En} {S : Sto} {Q} : WE (fOrV f g) e S Q = WE f e S fun x S1 => (match x with | .bl b => if b = true then Q (.bl true) S1 else WE g e S1 Q | _ => False) := by
  unfold WE fOrV
  cases f e S with
  | none => rfl
  | some p =>
    obtain ⟨x, S1⟩ := p
    cases x with
    | bl b => cases b <;> simp [W]
    | _ => rfl
theorem we_not {f : FE} {e : En} {S : Sto} {Q} : WE (fNotV f) e S Q = WE f e S fun x S1 => (match x with | .bl b => Q (.bl (!b)) S1 | _ => False) := by
  unfold WE fNotV
  cases f e S with
  | none => rfl
  | some p =>
    obtain ⟨x, S1⟩ := p
    cases x <;> rfl
theorem we_ifE {c : FT} {f g : FE} {e : En} {S : Sto} {Q} : WE (fIfE c f g) e S Q = WT c e S fun b S1 => if b = true then WE f e S1 Q else WE g e S1 Q := by
  unfold WE WT fIfE
  cases c e S with
  | none => rfl
  | some p =>
    obtain ⟨x, S1⟩ := p
    cases x <;> simp [W]
theorem wa_nil {e : En} {S : Sto} {Q} : WA fNil e S Q = Q [] S := (rfl)
theorem wa_cons {f : FE} {g : FA} {e : En} {S : Sto} {Q} : WA (fCons f g) e S Q = WE f e S fun x S1 => WA g e S1 fun xs S2 => Q (x :: xs) S2 := by
  unfold WA WE fCons
  cases f e S with
  | none => rfl
  | some p => dsimp only [W]; cases g e p.2 <;> rfl
theorem we_tup {f : FA} {e : En} {S : Sto} {Q} : WE (fTup f) e S Q = WA f e S fun xs S1 => xs.length ≤ sizeLine ∧ Q (.tup xs) S1 := by
  unfold WA WE fTup
  cases f e S with
  | none => rfl
  | some p =>
    by_cases h : p.1.length ≤ sizeLine
    · simp [h, W]
    · simp [h, W]
theorem we_lst {f : FA} {e : En} {S : Sto} {Q} : WE (fLst f) e S Q = WA f e S fun xs S1 => xs.length ≤ sizeLine ∧ Q (.ref S1.length) (S1 ++ [.lst xs]) := by
  unfold WA WE fLst
  cases f e S with
  | none => rfl
  | some p =>
    by_cases h : p.1.length ≤ sizeLine
    · simp [h, W]
    · simp [h, W]
theorem we_call {g : FN} {f : FA} {e : En} {S : Sto} {Q} : WE (fCall g f) e S Q = WA f e S fun xs S1 => WC g xs S1 Q := by
  unfold WA WE fCall WC
  cases f e S <;> rfl
theorem ws_next {e : En} {S : Sto} {Q} : WS fNext e S Q = Q (.nx e) S := (rfl)
theorem ws_break {e : En} {S : Sto} {Q} : WS fBreak e S Q = Q (.bk e) S := (rfl)
theorem ws_cont {e : En} {S : Sto} {Q} : WS fCont e S Q = Q (.ct e) S := (rfl)
theorem ws_seq {f g : FS} {e : En} {S : Sto} {Q} : WS (fSeq f g) e S Q = WS f e S fun fl S1 => (match fl with | .nx e1 => WS g e1 S1 Q | .rt v => Q (.rt v) S1 | .bk e1 => Q (.bk e1) S1 | .ct e1 => Q (.ct e1) S1) := by
  unfold WS fSeq
  cases f e S with
  | none => rfl
  | some p =>
    obtain ⟨x, S1⟩ := p
    cases x <;> rfl
theorem ws_drop {f : FE} {e : En} {S : Sto} {Q} : WS (fDrop f) e S Q = WE f e S fun _ S1 => Q (.nx e) S1 := by
  unfold WS WE fDrop
  cases f e S <;> rfl
theorem ws_ret {f : FE} {e : En} {S : Sto} {Q} : WS (fRet f) e S Q = WE f e S fun v S1 => Q (.rt v) S1 := by
  unfold WS WE fRet
  cases f e S <;> rfl
theorem ws_retN {e : En} {S : Sto} {Q} : WS fRetN e S Q = Q (.rt .non) S := (rfl)
theorem ws_if {c : FT} {f g : FS} {e : En} {S : Sto} {Q} : WS (fIf c f g) e S Q = WT c e S fun b S1 => if b = true then WS f e S1 Q else WS g e S1 Q := by
  unfold WS WT fIf
  cases c e S with
  | none => rfl
  | some p =>
    obtain ⟨x, S1⟩ := p
    cases x <;> simp [W]
theorem ws_asg {f : FE} {g : FG} {e : En} {S : Sto} {Q} : WS (fAsg f g) e S Q = WE f e S fun x S1 => WG g x e S1 fun e1 S2 => Q (.nx e1) S2 := by
  unfold WS WE WG fAsg
  cases f e S with
  | none => rfl
  | some p => dsimp only [W]; cases g p.1 e p.2 <;> rfl
theorem wg_name {i : Nat} {x : A} {e : En} {S : Sto} {Q} : WG (fName i) x e S Q = Q (e.set i (some x)) S := (rfl)
theorem wg_nil {e : En} {S : Sto} {Q} : WGs fgNil [] e S Q = Q e S := (rfl)
theorem wg_cons {f : FG} {g : FGs} {x : A} {xs : List A} {e : En} {S : Sto} {Q} : WGs (fgCons f g) (x :: xs) e S Q = WG f x e S fun e1 S1 => WGs g xs e1 S1 Q := by
  unfold WGs WG fgCons
  dsimp only
  cases f x e S <;> rfl
theorem wg_seq {n : Nat} {f : FGs} {x : A} {e : En} {S : Sto} {Q} : WG (fgSeq n f) x e S Q = (match seqOf S x with | some xs => xs.length = n ∧ WGs f xs e S Q | none => False) := by
  unfold WG WGs fgSeq
  cases seqOf S x with
  | none => rfl
  | some xs =>
    by_cases h : xs.length = n
    · simp [h, W]
    · simp [h, W]
theorem wg_sub {fo fi : FE} {x : A} {e : En} {S : Sto} {Q} : WG (fgSub fo fi) x e S Q = WE fo e S fun o S1 => (match o with
    | .ref k => WE fi e S1 fun i S2 => (match i with
      | .int i => (match S2[k]? with
        | some (.lst xs) => (match ixN xs.length i with | some j => Q e (S2.set k (.lst (xs.set j x))) | none => False)
        | _ => False)
      | _ => False)
    | _ => False) := by
  unfold WG WE fgSub
  cases fo e S with
  | none => rfl
  | some p =>
    obtain ⟨o, S1⟩ := p
    cases o with
    | ref k =>
      dsimp only [W]
      cases fi e S1 with
      | none => rfl
      | some p =>
        obtain ⟨i, S2⟩ := p
        cases i with
        | int i =>
          dsimp only [W]
          cases S2[k]? with
          | none => rfl
          | some o =>
            cases o with
            | lst xs => dsimp only; cases ixN xs.length i <;> rfl
            | fz xs => rfl
        | _ => rfl
    | _ => rfl
theorem ws_par {i j : Nat} {f : FA} {e : En} {S : Sto} {Q} : WS (fPar i j f) e S Q = WA f e S fun xs S1 => (match xs with | [x, y] => Q (.nx ((e.set i (some x)).set j (some y))) S1 | _ => False) := by
  unfold WS WA fPar
  cases f e S with
  | none => rfl
  | some p =>
    obtain ⟨xs, S1⟩ := p
    match xs with
    | [] => rfl
    | [x] => rfl
    | [x, y] => rfl
    | x :: y :: z :: r => rfl
theorem wc_def {np nl : Nat} {f : FS} {xs : List A} {S : Sto} {Q} : WC (fDef np nl f) xs S Q = (xs.length = np ∧ WS f (xs.map some ++ List.replicate (nl - np) none) S fun fl S1 => (match fl with | .nx _ => Q .non S1 | .rt v => Q v S1 | _ => False)) := by
  unfold WC WS fDef
  by_cases h : xs.length = np
  · rw [if_pos h]
    cases f (xs.map some ++ List.replicate (nl - np) none) S with
    | none => simp [h, W]
    | some p =>
      obtain ⟨x, S1⟩ := p
      cases x <;> simp [h, W]
  · simp [h, W]
theorem ww_rng1 {f : FA} {e : En} {S : Sto} {Q} : WW (fRng1 f) e S Q = WA f e S fun xs S1 => (match xs with | [.int j] => (-(2 ^ 62) ≤ j ∧ j < 2 ^ 62) ∧ Q (.items (rngA 0 j.toNat)) S1 | _ => False) := by
  unfold WW WA fRng1
  cases f e S with
  | none => rfl
  | some p =>
    obtain ⟨xs, S1⟩ := p
    match xs with
    | [] => rfl
    | [x] =>
      cases x with
      | int j =>
        dsimp only
        by_cases h : -(2 ^ 62) ≤ j ∧ j < 2 ^ 62
        · rw [if_pos h]
          dsimp only [W]
          simp only [h, true_and]
        · rw [if_neg h]
          dsimp only [W]
          simp only [h, false_and]
      | _ => rfl
    | x :: y :: r => cases x <;> rfl
theorem ww_seq {f : FE} {e : En} {S : Sto} {Q} : WW (fwSeq f) e S Q = WE f e S fun x S1 => (match x with | .tup xs => Q (.items xs) S1 | .ref k => (match S1[k]? with | some _ => Q (.live k) S1 | none => False) | _ => False) := by
  unfold WW WE fwSeq
  cases f e S with
  | none => rfl
  | some p =>
    obtain ⟨x, S1⟩ := p
    cases x with
    | ref k => dsimp only [W]; cases S1[k]? <;> rfl
    | _ => rfl
def lpF (F : FI) (g : FG) (b : FS) (n i : Nat) : FS := fun e S => loopF F g b n i e S
theorem ws_for {w : FW} {g : FG} {b : FS} {e : En} {S : Sto} {Q} : WS (fFor w g b) e S Q = WW w e S fun F S1 => WS (lpF F g b (F.len S1) 0) e S1 Q := by
  unfold WS WW fFor
  cases w e S <;> rfl
theorem loop_items {xs : List A} {g : FG} {b : FS} {Q : Fl → Sto → Prop} (P : Nat → En → Sto → Prop)
    (hs : ∀ (i : Nat) (x : A) (e : En) (S : Sto), xs[i]? = some x → P i e S → WG g x e S fun e1 S1 => WS b e1 S1 fun fl S2 => (match fl with | .nx e2 => P (i + 1) e2 S2 | .ct e2 => P (i + 1) e2 S2 | .bk e2 => Q (.nx e2) S2 | .rt v => Q (.rt v) S2))
    (hd : ∀ (e : En) (S : Sto), P xs.length e S → Q (.nx e) S) : ∀ (n i : Nat) (e : En) (S : Sto), i + n = xs.length → P i e S → WS (lpF (.items xs) g b n i) e S Q
  | 0, i, e, S, hi, p => by
    have e1 : i = xs.length := by omega
    subst e1
    refine W.of (v := .nx e) (w := S) ?_ (hd e S p)
    unfold lpF loopF
    simp [FI.item]
  | n + 1, i, e, S, hi, p => by
    have hl : i < xs.length := by omega
    have hx : xs[i]? = some xs[i] := List.getElem?_eq_getElem hl
    obtain ⟨e1, S1, h1, h2⟩ := (hs i xs[i] e S hx p).ex
    obtain ⟨fl, S2, h2, h3⟩ := h2.ex
    cases fl with
    | nx e2 =>
      obtain ⟨v, S', h4, h5⟩ := (loop_items P hs hd n (i + 1) e2 S2 (by omega) h3).ex
      refine W.of (v := v) (w := S') ?_ h5
      unfold lpF at h4 ⊢
      rw [loopF]
      simp only [FI.item, hx, h1, h2]
      exact h4
    | ct e2 =>
      obtain ⟨v, S', h4, h5⟩ := (loop_items P hs hd n (i + 1) e2 S2 (by omega) h3).ex
      refine W.of (v := v) (w := S') ?_ h5
      unfold lpF at h4 ⊢
      rw [loopF]
      simp only [FI.item, hx, h1, h2]
      exact h4
    | bk e2 =>
      refine W.of (v := .nx e2) (w := S2) ?_ h3
      unfold lpF
      rw [loopF]
      simp only [FI.item, hx, h1, h2]
    | rt v =>
      refine W.of (v := .rt v) (w := S2) ?_ h3
      unfold lpF
      rw [loopF]
      simp only [FI.item, hx, h1, h2]
def whF (c : FT) (b : FS) (n : Nat) : FS := fun e S => whileF c b n e S
theorem ws_while {m : En → Sto → Nat} {c : FT} {b : FS} {e : En} {S : Sto} {Q} : WS (fWhile m c b) e S Q = WS (whF c b (m e S)) e S Q := (rfl)
theorem wc_len {x : A} {S : Sto} {Q} : WC gLen [x] S Q = (match x with | .str z => z.length ≤ sizeLine ∧ Q (.int (z.length : Nat)) S | _ => (match seqOf S x with | some ys => Q (.int (ys.length : Nat)) S | none => False)) := by
  unfold WC gLen
  cases x with
  | str z =>
    dsimp only
    by_cases h : z.length ≤ sizeLine
    · simp [h, W]
    · simp [h, W]
  | ref k => dsimp only; cases seqOf S (.ref k) <;> rfl
  | tup xs => rfl
  | non => rfl
  | bl b => rfl
  | int i => rfl
  | ty t => rfl
  | dic => rfl
theorem wc_abs {i : Int} {S : Sto} {Q} : WC gAbs [.int i] S Q = Q (.int (if i < 0 then -i else i)) S := (rfl)
theorem wc_min2 {i j : Int} {S : Sto} {Q} : WC gMin2 [.int i, .int j] S Q = Q (.int (if j < i then j else i)) S := (rfl)
theorem wc_all {f : List Bool → Bool} {k : Nat} {S : Sto} {Q} : WC (gAllAny f) [.ref k] S Q = (match seqOf S (.ref k) with | some ys => (match bls ys with | some bs => Q (.bl (f bs)) S | none => False) | none => False) := by
  unfold WC gAllAny
  dsimp only
  cases seqOf S (.ref k) with
  | none => rfl
  | some ys => dsimp only; cases bls ys <;> rfl
theorem wc_isi {x : A} {c : String} {S : Sto} {Q} : WC gIsi [x, .ty c] S Q = (match tyAS S x with | some t => (match kit0 t c with | some b => Q (.bl b) S | none => False) | none => False) := by
  unfold WC gIsi
  dsimp only
  cases tyAS S x with
  | none => rfl
  | some t => dsimp only; cases kit0 t c <;> rfl
theorem kit_int_int : kit0 "int" "int" = some true := by decide +kernel
theorem kit_bool_int : kit0 "bool" "int" = some true := by decide +kernel
theorem kit_int_bool : kit0 "int" "bool" = some false := by decide +kernel
theorem kit_bool_bool : kit0 "bool" "bool" = some true := by decide +kernel
theorem kit_tuple_tuple : kit0 "tuple" "tuple" = some true := by decide +kernel
theorem wo_eqD {neg : Bool} {x y : A} {S : Sto} {Q} : WO (gEqD neg) x y S Q = (match toD S 12 x, toD S 12 y with
    | some d, some e => (SeqAt.shaped d && SeqAt.shaped e) = true ∧ Q (.bl (if neg then !(PyData.eqv d e) else PyData.eqv d e)) S
    | _, _ => False) := by
  unfold WO gEqD
  cases toD S 12 x with
  | none => rfl
  | some d =>
    cases toD S 12 y with
    | none => rfl
    | some e =>
      dsimp only
      by_cases h : (SeqAt.shaped d && SeqAt.shaped e) = true
      · simp only [h, if_true, W, true_and]
      · rw [if_neg h]
        dsimp only [W]
        exact propext ⟨False.elim, fun z => absurd z.1 h⟩
theorem shaped_int (i : Int) : SeqAt.shaped (.int i) = true := by
  unfold SeqAt.shaped
  rw [PyData.canLay0]
  simp [PyData.depth]
theorem shaped_bool (b : Bool) : SeqAt.shaped (.bool b) = true := by
  unfold SeqAt.shaped
  rw [PyData.canLay0]
  simp [PyData.depth]
theorem wo_eqI {i j : Int} {S : Sto} {Q} : WO (gEqD false) (.int i) (.int j) S Q = Q (.bl (decide (i = j))) S := by
  rw [wo_eqD]
  simp only [toD, shaped_int, Bool.and_true, true_and, PyData.eqv, Bool.false_eq_true, if_false]
  rfl
theorem wo_neI {i j : Int} {S : Sto} {Q} : WO (gEqD true) (.int i) (.int j) S Q = Q (.bl (!decide (i = j))) S := by
  rw [wo_eqD]
  simp only [toD, shaped_int, Bool.and_true, true_and, PyData.eqv, if_true]
  rfl
theorem wo_eqB {i j : Bool} {S : Sto} {Q} : WO (gEqD false) (.bl i) (.bl j) S Q = Q (.bl (decide (i = j))) S := by
  rw [wo_eqD]
  simp only [toD, shaped_bool, Bool.and_true, true_and, PyData.eqv, Bool.false_eq_true, if_false]
  cases i <;> cases j <;> rfl
theorem dsOf_ints {S : Sto} {n : Nat} : ∀ ns : List Int, dsOf (toD S (n + 1)) (ns.map A.int) = some (ns.map PyData.int)
  | [] => rfl
  | i :: ns => by
    simp only [List.map_cons, dsOf]
    rw [dsOf_ints ns]
    simp only [toD]
theorem lay_ints : ∀ ns : List Int, PyData.canLayAll0 (ns.map PyData.int) = true
  | [] => by simp only [List.map_nil, PyData.canLayAll0]
  | i :: ns => by
    simp only [List.map_cons, PyData.canLayAll0, lay_ints ns, PyData.canLay0, Bool.and_true]
theorem depth_ints : ∀ ns : List Int, PyData.depthAll (ns.map PyData.int) ≤ 1
  | [] => by simp [PyData.depthAll]
  | i :: ns => by
    have := depth_ints ns
    simp only [List.map_cons, PyData.depthAll, PyData.depth]
    omega
theorem shaped_ints (ns : List Int) : SeqAt.shaped (.list (ns.map PyData.int)) = true := by
  unfold SeqAt.shaped
  have h := depth_ints ns
  rw [PyData.canLay0, lay_ints ns, Bool.true_and]
  apply decide_eq_true
  rw [PyData.depth]
  omega
theorem shaped_tints (ns : List Int) : SeqAt.shaped (.tuple (ns.map PyData.int)) = true := by
  unfold SeqAt.shaped
  have h := depth_ints ns
  rw [PyData.canLay0, lay_ints ns, Bool.true_and]
  apply decide_eq_true
  rw [PyData.depth]
  omega
theorem wo_neNil {ns : List Int} {S : Sto} {k n : Nat} {Q} (h1 : S[k]? = some (.fz (ns.map A.int))) (h2 : S[n]? = some (.lst [])) : WO (gEqD true) (.ref k) (.ref n) S Q = Q (.bl (!ns.isEmpty)) S := by
  rw [wo_eqD]
  have e1 : toD S 12 (.ref k) = some (.list (ns.map PyData.int)) := by
    rw [toD]
    simp only [h1, dsOf_ints]
  have e2 : toD S 12 (.ref n) = some (.list ([].map PyData.int)) := by
    rw [toD]
    simp only [h2, dsOf, List.map_nil]
  rw [e1, e2]
  simp only [shaped_ints, Bool.and_true, true_and, if_true]
  cases ns with
  | nil => simp [PyData.eqv, PyData.eqvAll]
  | cons i ns => simp [PyData.eqv, PyData.eqvAll]
theorem wo_eqP {a b c d : Int} {S : Sto} {Q} : WO (gEqD false) (.tup [.int a, .int b]) (.tup [.int c, .int d]) S Q = Q (.bl (decide (a = c) && decide (b = d))) S := by
  rw [wo_eqD]
  have e : ∀ x y : Int, toD S 12 (.tup [.int x, .int y]) = some (.tuple ([x, y].map PyData.int)) := fun x y => by
    have := dsOf_ints (S := S) (n := 10) [x, y]
    rw [toD]
    simp only [List.map_cons, List.map_nil] at this ⊢
    simp only [this]
  rw [e, e]
  simp only [shaped_tints, Bool.and_true, true_and, Bool.false_eq_true, if_false]
  simp only [List.map_cons, List.map_nil, PyData.eqv, PyData.eqvAll, Bool.and_true]
  rfl
theorem we_append {i : Nat} {fa : FA} {e : En} {S : Sto} {Q} : WE (fMethV gAppend i fa) e S Q = (match e[i]? with
    | some (some (.ref k)) => (match S[k]? with
      | some _ => WA fa e S fun xs S2 => (match xs with
        | [y] => (match S2[k]? with | some (.lst ys) => ys.length < sizeLine ∧ Q .non (S2.set k (.lst (ys ++ [y]))) | _ => False)
        | _ => False)
      | none => False)
    | _ => False) := by
  unfold WE WA fMethV
  cases e[i]? with
  | none => rfl
  | some o =>
    cases o with
    | none => rfl
    | some x =>
      cases x with
      | ref k =>
        dsimp only
        cases S[k]? with
        | none => rfl
        | some o =>
          dsimp only
          cases fa e S with
          | none => rfl
          | some p =>
            obtain ⟨xs, S2⟩ := p
            dsimp only [W]
            unfold gAppend
            match xs with
            | [] => rfl
            | [y] =>
              dsimp only
              cases S2[k]? with
              | none => rfl
              | some o =>
                cases o with
                | fz ys => rfl
                | lst ys =>
                  dsimp only
                  by_cases h : ys.length < sizeLine
                  · simp only [h, if_true, W, true_and]
                  · rw [if_neg h]
                    simp only [h, false_and, W]
            | y :: z :: r => rfl
      | _ => rfl
theorem we_lc {w : FW} {g : FG} {tt : FT} {te : FE} {vs : List Nat} {e : En} {S : Sto} {Q} : WE (fLc w g tt te vs) e S Q = WW w e S fun F S1 => (match lcF F g tt te S1.length (wipeE e vs) (F.len S1) 0 (S1 ++ [.lst []]) with | some S2 => Q (.ref S1.length) S2 | none => False) := by
  unfold WE WW fLc
  cases w e S with
  | none => rfl
  | some p =>
    dsimp only [W]
    cases lcF p.1 g tt te (List.length p.2) (wipeE e vs) (FI.len p.2 p.1) 0 (p.2 ++ [.lst []]) <;> rfl
end F
namespace F
open PySem PySem.Spec L2
theorem we_chain {g g' : FO} {fa fb fc : FE} {e : En} {S : Sto} {Q} : WE (fChain g g' fa fb fc) e S Q = WE fa e S fun x S1 => WE fb e S1 fun y S2 => WO g x y S2 fun z S3 => (match z with | .bl b => if b = true then WE fc e S3 fun u S4 => WO g' y u S4 Q else Q (.bl false) S3 | _ => False) := by
  unfold WE fChain WO
  cases fa e S with
  | none => rfl
  | some p =>
    dsimp only [W]
    cases fb e p.2 with
    | none => rfl
    | some q =>
      dsimp only [W]
      cases g p.1 q.1 q.2 with
      | none => rfl
      | some r =>
        obtain ⟨z, S3⟩ := r
        cases z with
        | bl b =>
          cases b with
          | true =>
            dsimp only [W]
            rw [if_pos rfl]
            cases fc e S3 <;> rfl
          | false =>
            dsimp only [W]
            rw [if_neg Bool.false_ne_true]
        | _ => rfl
theorem wc_tuple {x : A} {S : Sto} {Q} : WC gTuple [x] S Q = (match seqOf S x with | some ys => Q (.tup ys) S | none => False) := by
  unfold WC gTuple
  dsimp only
  cases seqOf S x <;> rfl
theorem wo_repT {xs : List A} {k : Int} {S : Sto} {Q} : WO gRepT (.tup xs) (.int k) S Q = (((-(2 ^ 63) ≤ k ∧ k < 2 ^ 63) ∧ xs.length * k.toNat ≤ sizeLine) ∧ Q (.tup (List.replicate k.toNat xs).flatten) S) := by
  unfold WO gRepT
  dsimp only
  by_cases h : (-(2 ^ 63) ≤ k ∧ k < 2 ^ 63) ∧ xs.length * k.toNat ≤ sizeLine
  · rw [if_pos h]
    exact propext ⟨fun q => ⟨h, q⟩, fun q => q.2⟩
  · rw [if_neg h]
    exact propext ⟨False.elim, fun q => absurd q.1 h⟩
abbrev WP (f : FP) (e : En) (S : Sto) (Q : Option Int → Sto → Prop) : Prop := W (f e S) Q
theorem wp_none {e : En} {S : Sto} {Q} : WP fNoP e S Q = Q none S := (rfl)
theorem wp_some {f : FE} {e : En} {S : Sto} {Q} : WP (fSomeP f) e S Q = WE f e S fun x S1 => (match x with | .int i => Q (some i) S1 | _ => False) := by
  unfold WP WE fSomeP
  cases f e S with
  | none => rfl
  | some p =>
    obtain ⟨x, S1⟩ := p
    cases x <;> rfl
theorem we_slice {fe : FE} {fl fh : FP} {e : En} {S : Sto} {Q} : WE (fSl fe fl fh) e S Q = WE fe e S fun x S1 => WP fl e S1 fun lo S2 => WP fh e S2 fun hi S3 => (match x with
    | .tup xs => Q (.tup (cutA xs lo hi)) S3
    | .ref k => (match lstAt S3 k with | some xs => Q (.ref S3.length) (S3 ++ [.lst (cutA xs lo hi)]) | none => False)
    | _ => False) := by
  unfold WE WP fSl
  cases fe e S with
  | none => rfl
  | some p =>
    obtain ⟨x, S1⟩ := p
    dsimp only [W]
    cases fl e S1 with
    | none => rfl
    | some q =>
      obtain ⟨lo, S2⟩ := q
      dsimp only [W]
      cases fh e S2 with
      | none => rfl
      | some r =>
        obtain ⟨hi, S3⟩ := r
        cases x with
        | ref k => dsimp only [W]; cases lstAt S3 k <;> rfl
        | _ => rfl
theorem ww_zip {f : FA} {e : En} {S : Sto} {Q} : WW (fwZip f) e S Q = WA f e S fun xs S1 => W (zipF xs S1) Q := by
  unfold WW WA fwZip
  cases f e S <;> rfl
theorem zip_tt {xs ys : List A} {S : Sto} {Q} : W (zipF [.tup xs, .tup ys] S) Q = Q (.items (List.zipWith (fun x y => A.tup [x, y]) xs ys)) S := (rfl)
theorem zip_rr {j k : Nat} {S : Sto} {Q} {xs ys : List A} (h1 : lstAt S j = some xs) (h2 : lstAt S k = some ys) : W (zipF [.ref j, .ref k] S) Q = Q (.live2 j k) S := by
  simp only [zipF, h1, h2]
  rfl
theorem lc_ok {F : FI} {n : Nat} {xs : List A} {g : FG} {tt : FT} {te : FE} {e : En} {R : Sto → Prop} (P : Nat → Sto → Prop)
    (hk : ∀ (i : Nat) (S : Sto), P i S → F.item S i = some xs[i]?)
    (hs : ∀ (i : Nat) (x : A) (S : Sto), xs[i]? = some x → P i S → WG g x e S fun e1 S1 => WT tt e1 S1 fun t S2 => if t = true then WE te e1 S2 fun y S3 => (match S3[n]? with | some (.lst acc) => acc.length < sizeLine ∧ P (i + 1) (S3.set n (.lst (acc ++ [y]))) | _ => False) else P (i + 1) S2)
    (hd : ∀ S, P xs.length S → R S) : ∀ (m i : Nat) (S : Sto), i + m = xs.length → P i S → (match lcF F g tt te n e m i S with | some S' => R S' | none => False)
  | 0, i, S, hi, p => by
    have e1 : i = xs.length := by omega
    subst e1
    rw [lcF]
    simp only [hk _ _ p, List.getElem?_eq_none (Nat.le_refl _)]
    exact hd S p
  | m + 1, i, S, hi, p => by
    have hl : i < xs.length := by omega
    have hx : xs[i]? = some xs[i] := List.getElem?_eq_getElem hl
    obtain ⟨e1, S1, h1, h2⟩ := (hs i xs[i] S hx p).ex
    obtain ⟨t, S2, h2, h3⟩ := h2.ex
    rw [lcF]
    simp only [hk _ _ p, hx, h1, h2]
    cases t with
    | false =>
      rw [if_neg Bool.false_ne_true] at h3
      exact lc_ok P hk hs hd m (i + 1) S2 (by omega) h3
    | true =>
      rw [if_pos rfl] at h3
      obtain ⟨y, S3, h3, h4⟩ := h3.ex
      simp only [h3]
      cases h5 : S3[n]? with
      | none => rw [h5] at h4; exact h4.elim
      | some o =>
        cases o with
        | fz acc => rw [h5] at h4; exact h4.elim
        | lst acc =>
          rw [h5] at h4
          simp only [h4.1, if_true]
          exact lc_ok P hk hs hd m (i + 1) _ (by omega) h4.2
theorem get_at {S X : Sto} {o : SO} : (S ++ o :: X)[S.length]? = some o := by simp
theorem set_at {S X : Sto} {o u : SO} : (S ++ o :: X).set S.length u = S ++ u :: X := by simp
theorem seq_at {S X : Sto} {xs : List A} : seqOf (S ++ .lst xs :: X) (.ref S.length) = some xs := by simp [seqOf]
def Pu (g : FN) (xs : List A) (v : A) : Prop := ∀ (S : Sto) (Q : A → Sto → Prop), (∀ X, Q v (S ++ X)) → WC g xs S Q
theorem Pu.go {g : FN} {xs : List A} {v : A} (h : Pu g xs v) {S : Sto} {Q : A → Sto → Prop} (k : ∀ X, Q v (S ++ X)) : WC g xs S Q := h S Q k
theorem lc_grow {F : FI} {xs : List A} {g : FG} {tt : FT} {te : FE} {e : En} {S : Sto} {R : Sto → Prop} {m : Nat} (p : A → Bool) (f : A → A) (hl : xs.length < sizeLine) (hm : m = xs.length) (hF : ∀ (i : Nat) (R : Sto), F.item (S ++ R) i = some xs[i]?)
    (hs : ∀ x ∈ xs, ∀ (S1 : Sto) (Q1 : Bool → A → Sto → Prop), (∀ X, p x = false → Q1 false (f x) (S1 ++ X)) → (∀ X, p x = true → Q1 true (f x) (S1 ++ X)) →
      WG g x e S1 fun e1 S2 => WT tt e1 S2 fun t S3 => if t = true then WE te e1 S3 fun y S4 => Q1 true y S4 else Q1 false (f x) S3)
    (k : ∀ X, R (S ++ .lst ((xs.filter p).map f) :: X)) :
    (match lcF F g tt te S.length e m 0 (S ++ [.lst []]) with | some S2 => R S2 | none => False) := by
  subst hm
  refine lc_ok (xs := xs) (R := R) (fun i S1 => ∃ X, S1 = S ++ .lst (((xs.take i).filter p).map f) :: X) (fun i S1 h => by obtain ⟨X, rfl⟩ := h; exact hF _ _) ?_ ?_ xs.length 0 _ (Nat.zero_add _) ⟨[], rfl⟩
  · rintro i x S1 hx ⟨X, rfl⟩
    have hlt := getElem_lt hx
    have ht : xs.take (i + 1) = xs.take i ++ [x] := by
      rw [List.take_succ, hx]
      rfl
    refine W.mono (hs x (List.mem_of_getElem? hx) _ (fun t y S4 => if t = true then y = f x ∧ (∃ Y, S4 = S ++ .lst (((xs.take i).filter p).map f) :: Y) ∧ p x = true else (∃ Y, S4 = S ++ .lst (((xs.take i).filter p).map f) :: Y) ∧ p x = false) (fun Y hp => ?_) (fun Y hp => ?_)) fun e1 S2 h => W.mono h fun t S3 h => ?_
    · rw [if_neg Bool.false_ne_true, List.append_assoc]
      exact ⟨⟨X ++ Y, rfl⟩, hp⟩
    · rw [if_pos rfl, List.append_assoc]
      exact ⟨rfl, ⟨X ++ Y, rfl⟩, hp⟩
    · cases t with
      | true =>
        rw [if_pos rfl] at h ⊢
        refine W.mono h fun y S4 h => ?_
        rw [if_pos rfl] at h
        obtain ⟨rfl, ⟨Y, rfl⟩, hp⟩ := h
        rw [get_at]
        refine ⟨?_, Y, ?_⟩
        · rw [List.length_map]
          refine Nat.lt_of_le_of_lt (List.length_filter_le _ _) (Nat.lt_of_le_of_lt ?_ hl)
          rw [List.length_take]
          exact Nat.min_le_right _ _
        · rw [set_at, ht, List.filter_append, List.map_append]
          simp [hp]
      | false =>
        rw [if_neg Bool.false_ne_true] at h ⊢
        rw [if_neg Bool.false_ne_true] at h
        obtain ⟨⟨Y, rfl⟩, hp⟩ := h
        refine ⟨Y, ?_⟩
        rw [ht, List.filter_append, List.map_append]
        simp [hp]
  · rintro S1 ⟨X, rfl⟩
    rw [List.take_length]
    exact k X
theorem item_items {xs : List A} {S : Sto} : ∀ (i : Nat) (R : Sto), FI.item (S ++ R) i (.items xs) = some xs[i]? := fun _ _ => rfl
theorem bls_true {rs : List A} (h : ∀ r ∈ rs, r = A.bl true) : ∃ bs, bls rs = some bs ∧ bs.all id = true := by
  induction rs with
  | nil => exact ⟨[], rfl, rfl⟩
  | cons r rs ih =>
    obtain ⟨bs, h1, h2⟩ := ih fun r hr => h r (List.mem_cons_of_mem _ hr)
    have e := h r (List.mem_cons_self ..)
    subst e
    refine ⟨true :: bs, ?_, ?_⟩
    · simp only [bls, h1]
    · simp only [List.all_cons, h2]; rfl
theorem all_grow {F : FI} {xs : List A} {g : FG} {te : FE} {e : En} {S : Sto} {Q : A → Sto → Prop} {m : Nat} (hl : xs.length < sizeLine) (hm : m = xs.length) (hF : ∀ (i : Nat) (R : Sto), F.item (S ++ R) i = some xs[i]?)
    (hs : ∀ x ∈ xs, ∀ (S1 : Sto) (Q1 : A → Sto → Prop), (∀ X, Q1 (.bl true) (S1 ++ X)) → WG g x e S1 fun e1 S2 => WE te e1 S2 Q1)
    (k : ∀ X, Q (.bl true) (S ++ X)) :
    (match lcF F g fYes te S.length e m 0 (S ++ [.lst []]) with | some S2 => WC (gAllAny fun bs => bs.all id) [.ref S.length] S2 Q | none => False) := by
  refine lc_grow (fun _ => true) (fun _ => .bl true) hl hm hF (fun x hx S1 Q1 _ h2 => ?_) fun X => ?_
  · refine W.mono (hs x hx S1 (fun y S4 => Q1 true y S4) fun X => h2 X rfl) fun e1 S2 h => ?_
    rw [wt_yes, if_pos rfl]
    exact h
  · rw [wc_all, seq_at]
    obtain ⟨bs, h1, h2⟩ := bls_true (rs := (xs.filter fun _ => true).map fun _ => A.bl true) (fun r hr => by
      obtain ⟨_, _, e⟩ := List.mem_map.mp hr
      exact e.symm)
    simp only [h1, h2]
    have := k (.lst ((xs.filter fun _ => true).map fun _ => A.bl true) :: X)
    exact this
theorem k0 {v : A} {S : Sto} {Q : A → Sto → Prop} (k : ∀ X, Q v (S ++ X)) : Q v S := by
  have := k []
  rw [List.append_nil] at this
  exact this
theorem kX {v : A} {S X : Sto} {Q : A → Sto → Prop} (k : ∀ X, Q v (S ++ X)) : ∀ Y, Q v (S ++ X ++ Y) := fun Y => by
  rw [List.append_assoc]
  exact k _
theorem cut_tail {α : Type} (xs : List α) : cutA xs (some 1) none = xs.drop 1 := by
  unfold cutA
  have e : HT.sIx xs.length 0 (some 1) = min 1 xs.length := by
    have := HT.sIx_nat xs.length 0 1
    exact this
  rw [e, HT.sIx_none]
  cases xs with
  | nil => rfl
  | cons x xs =>
    have : min 1 (x :: xs).length = 1 := by simp
    rw [this]
    simp
theorem lc_map {α : Type} {F : FI} {ys : List α} {emb : α → A} {g : FG} {tt : FT} {te : FE} {e : En} {S : Sto} {R : Sto → Prop} {m : Nat} (p : α → Bool) (f : α → A) (hl : ys.length < sizeLine) (hm : m = ys.length) (hF : ∀ (i : Nat) (R : Sto), F.item (S ++ R) i = some (ys.map emb)[i]?)
    (hs : ∀ y ∈ ys, ∀ (S1 : Sto) (Q1 : Bool → A → Sto → Prop), (∀ X, p y = false → Q1 false (f y) (S1 ++ X)) → (∀ X, p y = true → Q1 true (f y) (S1 ++ X)) →
      WG g (emb y) e S1 fun e1 S2 => WT tt e1 S2 fun t S3 => if t = true then WE te e1 S3 fun v S4 => Q1 true v S4 else Q1 false (f y) S3)
    (k : ∀ X, R (S ++ .lst ((ys.filter p).map f) :: X)) :
    (match lcF F g tt te S.length e m 0 (S ++ [.lst []]) with | some S2 => R S2 | none => False) := by
  have hm' : m = (ys.map emb).length := by rw [List.length_map]; exact hm
  subst hm'
  refine lc_ok (xs := ys.map emb) (R := R) (fun i S1 => ∃ X, S1 = S ++ .lst (((ys.take i).filter p).map f) :: X) (fun i S1 h => by obtain ⟨X, rfl⟩ := h; exact hF _ _) ?_ ?_ _ 0 _ (Nat.zero_add _) ⟨[], rfl⟩
  · rintro i x S1 hx ⟨X, rfl⟩
    rw [List.getElem?_map] at hx
    cases hy : ys[i]? with
    | none => rw [hy] at hx; cases hx
    | some y =>
      rw [hy] at hx
      cases hx
      have ht : ys.take (i + 1) = ys.take i ++ [y] := by
        rw [List.take_succ, hy]
        rfl
      refine W.mono (hs y (List.mem_of_getElem? hy) _ (fun t v S4 => if t = true then v = f y ∧ (∃ Y, S4 = S ++ .lst (((ys.take i).filter p).map f) :: Y) ∧ p y = true else (∃ Y, S4 = S ++ .lst (((ys.take i).filter p).map f) :: Y) ∧ p y = false) (fun Y hp => ?_) (fun Y hp => ?_)) fun e1 S2 h => W.mono h fun t S3 h => ?_
      · rw [if_neg Bool.false_ne_true, List.append_assoc]
        exact ⟨⟨X ++ Y, rfl⟩, hp⟩
      · rw [if_pos rfl, List.append_assoc]
        exact ⟨rfl, ⟨X ++ Y, rfl⟩, hp⟩
      · cases t with
        | true =>
          rw [if_pos rfl] at h ⊢
          refine W.mono h fun v S4 h => ?_
          rw [if_pos rfl] at h
          obtain ⟨rfl, ⟨Y, rfl⟩, hp⟩ := h
          rw [get_at]
          refine ⟨?_, Y, ?_⟩
          · rw [List.length_map]
            refine Nat.lt_of_le_of_lt (List.length_filter_le _ _) (Nat.lt_of_le_of_lt ?_ hl)
            rw [List.length_take]
            exact Nat.min_le_right _ _
          · rw [set_at, ht, List.filter_append, List.map_append]
            simp [hp]
        | false =>
          rw [if_neg Bool.false_ne_true] at h ⊢
          rw [if_neg Bool.false_ne_true] at h
          obtain ⟨⟨Y, rfl⟩, hp⟩ := h
          refine ⟨Y, ?_⟩
          rw [ht, List.filter_append, List.map_append]
          simp [hp]
  · rintro S1 ⟨X, rfl⟩
    rw [List.length_map, List.take_length]
    exact k X
theorem lstAt_pre {S R : Sto} {k : Nat} {xs : List A} (h : lstAt S k = some xs) : lstAt (S ++ R) k = some xs := by
  unfold lstAt at h ⊢
  cases e : S[k]? with
  | none => rw [e] at h; cases h
  | some o =>
    rw [List.getElem?_append_left (getElem_lt e), e]
    rw [e] at h
    exact h
theorem lstAt_at {S X : Sto} {xs : List A} : lstAt (S ++ .lst xs :: X) S.length = some xs := by simp [lstAt]
theorem zip_get {xs ys : List A} {i : Nat} : (List.zipWith (fun x y => A.tup [x, y]) xs ys)[i]? = pairAt xs ys i := by
  rw [List.getElem?_zipWith]
  unfold pairAt
  cases xs[i]? with
  | none => rfl
  | some x => cases ys[i]? <;> rfl
end F
namespace F
open PySem PySem.Spec L2
open PyProof.Rows (IsTup)
def fDic : FE := fun _ S => some (.dic, S)
theorem se_dic {X : Cx} {pos : Pos} : SE X (.Dict [] [] pos) fDic := ⟨_, pe_dnewK, by
  intro e S v S' h H r sg Q hS hE k
  cases h
  exact fun p hp => k _ r _ (ext_new hp) (hS.new hp) (.dic upd_same)⟩
theorem we_dic {e : En} {S : Sto} {Q} : WE fDic e S Q = Q .dic S := (rfl)
def gList : FN := fun xs S => match xs with
  | [x] => (match seqOf S x with | some ys => some (.ref S.length, S ++ [.lst ys]) | none => none)
  | _ => none
theorem seq_ref {S : Sto} {kk : Nat} {ys : List A} (q : seqOf S (.ref kk) = some ys) : S[kk]? = some (.lst ys) ∨ S[kk]? = some (.fz ys) := by
  simp only [seqOf] at q
  split at q
  · rename_i q'; cases q; exact .inl q'
  · rename_i q'; cases q; exact .inr q'
  · cases q
theorem snd_list {K : PySem.W.Frag} : SndC K (fun xs H Q => ∃ p ys, xs = [.ref p] ∧ (SqL K H p ys ∨ SqT K H p ys) ∧ ∀ l, H l = none → Q (.ref l) (upd H l (.lst ys))) gList := by
  intro xs S z S' h H r vs Q hS qs k
  unfold gList at h
  split at h
  · rename_i x
    split at h
    · rename_i ys q
      cases h
      cases qs with
      | cons qx q2 =>
        cases q2
        have fin : ∀ (us : List V), RAs H r S.length ys us → ∀ l, H l = none → Q (.ref l) (upd H l (.lst us)) := fun us h2 l hl => by
          have := k (upd H l (.lst us)) (put r S.length l) (.ref l) (by rw [List.length_append]; exact ext_lst hl) (hS.newLst hl h2) (by
            have e : RA (upd H l (.lst us)) (put r S.length l) (S ++ [SO.lst ys]).length (.ref S.length) (.ref (put r S.length l S.length)) := .ref (by simp)
            rw [put_at] at e
            exact e)
          exact this
        cases qx with
        | tup ha hs =>
          cases q
          exact ⟨_, _, rfl, .inr (SqT.of ha), fin _ hs⟩
        | @ref kk hk =>
          obtain ⟨us, h1, h2⟩ := hS.sq (seq_ref q)
          exact ⟨_, us, rfl, .inl h1, fin _ h2⟩
        | _ => cases q
    · cases h
  · cases h
theorem se_list {X : Cx} {e : Expr} {es : List Expr} {fa : FA} {pos p : Pos} (hm : X.mg "list" = none) (ha : SA X (e :: es) fa) (hg : Gl X "list" := by rfl) (he : starEach (e :: es) X.env = (false, eval e X.env) :: starEach es X.env := by rfl) (hpl : (backTo pos (starEach es X.env)).any (·.1) = false := by rfl) :
    SE X (.Call (.Name "list" p) (e :: es) [] pos) (fCall gList fa) := se_callTy call_list_of snd_list hg hm (by decide +kernel) ha (by decide) (by decide) he hpl
theorem wc_list {x : A} {S : Sto} {Q} : WC gList [x] S Q = (match seqOf S x with | some ys => Q (.ref S.length) (S ++ [.lst ys]) | none => False) := by
  unfold WC gList
  dsimp only
  cases seqOf S x <;> rfl
def gIs (neg : Bool) : FO := fun x y S => match x, y with
  | .bl i, .bl j => some (.bl (if neg then !decide (i = j) else decide (i = j)), S)
  | _, _ => none
section
variable {X : Cx} {a b : Expr} {fa fb : FE} {pos : Pos}
end
theorem wo_is {neg i j : Bool} {S : Sto} {Q} : WO (gIs neg) (.bl i) (.bl j) S Q = Q (.bl (if neg then !decide (i = j) else decide (i = j))) S := (rfl)
theorem fm_map {α β : Type} {f : α → Option β} {g : α → β} : ∀ {l : List α}, (∀ x ∈ l, f x = some (g x)) → l.filterMap f = l.map g
  | [], _ => rfl
  | x :: l, h => by
    rw [List.filterMap_cons, h x (List.mem_cons_self ..), List.map_cons, fm_map fun y hy => h y (List.mem_cons_of_mem _ hy)]
theorem pick_rev (xs : Array Value) : ((List.range xs.size).filterMap fun (m : Nat) => xs[(((xs.size : Nat) : Int) - 1 + (m : Int) * (-1)).toNat]?).toArray = xs.toList.reverse.toArray := by
  congr 1
  have e : ∀ m ∈ List.range xs.size, xs[(((xs.size : Nat) : Int) - 1 + (m : Int) * (-1)).toNat]? = some (xs.toList.reverse.getD m .none) := by
    intro m hm
    have hm' := List.mem_range.mp hm
    have e1 : (((xs.size : Nat) : Int) - 1 + (m : Int) * (-1)).toNat = xs.size - 1 - m := by omega
    have hl : xs.size - 1 - m < xs.size := by omega
    rw [e1, Array.getElem?_eq_getElem hl, List.getD_eq_getElem?_getD, List.getElem?_reverse (by simpa using hm')]
    simp [hl]
  rw [fm_map e]
  apply List.ext_getElem
  · simp
  · intro i h1 h2
    simp only [List.getElem_map, List.getElem_range]
    rw [List.getD_eq_getElem?_getD, List.getElem?_eq_getElem h2]
    rfl
section
variable {prog : Program} {w : World} {A : Around} {E : Value → Shared → Prop} {s : Shared}
theorem applied_rev {sl : Addr} {u : Tok} {n : Nat} {Q : Int × Int × Nat → Shared → Prop} (hs : s.heap.IsSliceOf sl .none .none (.int (-1) u)) (h : Q ((n : Int) - 1, -1, n) s) : wpAny (model prog w) A (Builtin.Slice.sliceApplied (.ref sl) (pure (n : Int))) Q E s := by
  obtain ⟨os, hos, hcs, hds⟩ := id hs
  unfold Builtin.Slice.sliceApplied Builtin.Slice.sliceFields
  refine wpAny_bind (wpAny_bind (wpAny_field hos hds (x := .none) rfl (wpAny_bind (wpAny_field hos hds (x := .none) rfl (wpAny_bind (wpAny_field hos hds (x := .int (-1) u) rfl (wpAny_pure ?_)))))))
  refine wpAny_bind (PyProof.Rows.slicePart_int ?_)
  show wpAny _ _ (if ((-1 : Int) == 0) = true then _ else _) _ _ s
  rw [if_neg (by decide)]
  refine wpAny_bind (PyProof.Rows.slicePart_none (wpAny_bind (PyProof.Rows.slicePart_none (wpAny_bind (wpAny_pure ?_)))))
  show wpAny _ _ (pure ((n : Int) - 1, (-1 : Int), Builtin.Slice.slicePlaces ((n : Int) - 1) (-1) (-1))) _ _ s
  have e : Builtin.Slice.slicePlaces ((n : Int) - 1) (-1) (-1) = n := by
    unfold Builtin.Slice.slicePlaces
    rw [if_neg (by decide)]
    split
    · simp only [Int.neg_neg, Int.ediv_one]
      omega
    · omega
  rw [e]
  exact wpAny_pure h
theorem getItem_rev {t sl : Addr} {items : Array Value} {u : Tok} {Q : Value → Shared → Prop} (ht : IsTup s.heap t items) (hs : s.heap.IsSliceOf sl .none .none (.int (-1) u))
    (h : Q (.ref s.heap.objs.size) { s with heap := s.heap.push { cls := .type "tuple", data := .seq items.toList.reverse.toArray } })
    (hsz : items.size ≤ sizeLine) : wpAny (model prog w) A (getItem (.ref t) (.ref sl)) Q E s := by
  have htake : sizeOk (.seq items.toList.reverse.toArray) := by
    show items.toList.reverse.toArray.size ≤ sizeLine
    rw [List.size_toArray, List.length_reverse, Array.length_toList]
    exact hsz
  obtain ⟨os, hos, hcs, hds⟩ := id hs
  have hTs : s.TypeIs (.ref sl) "slice" := ⟨os, hos, hcs⟩
  unfold getItem
  try with_reducible refine wpAny_holding ?_
  first | refine wpAny_bind (wpAny_pure ?_) | skip
  refine wpAny_bind (wpAny_sequenceKey ht.typeIs (by decide) ?_)
  refine wpAny_bind (wpAny_callSpecial?_slot (name := Str.ofString "__getitem__") ht.typeIs PyProof.Rows.slot_tuple_getitem (wpAny_call_entry PyProof.Rows.slot_tuple_getitem ht.typeIs PyProof.Rows.entry_tuple_getitem ?_ (PyProof.Rows.args_tuple_getitem _ _)))
  show wpAny _ _ (Builtin.Tuple.tupleItemsOf (.ref t) >>= _) _ _ s
  refine wpAny_bind (PyProof.Rows.tupleItemsOf_ ht ?_)
  refine wpAny_bind (wpAny_typeOf hTs ?_)
  rw [if_pos (by decide)]
  refine wpAny_bind (applied_rev hs ?_)
  have hno : ¬ (((((items.size : Nat) : Int) - 1) == 0 && (-1 : Int) == 1 && items.size == items.size) = true) := by
    intro q
    rw [Bool.and_eq_true, Bool.and_eq_true] at q
    exact absurd q.1.2 (by decide)
  show wpAny _ _ (if ((((items.size : Nat) : Int) - 1) == 0 && (-1 : Int) == 1 && items.size == items.size) = true then _ else _) _ _ s
  rw [if_neg hno, pick_rev]
  first
    | exact wpAny_bind (m := Builtin.Tuple.tupleExact _) (wpAny_newObj_type (wpAny_pure ⟨_, rfl, wpAny_pure h⟩) htake)
    | exact wpAny_bind (m := Builtin.Tuple.tupleExact _) (wpAny_newObj_type (wpAny_bind (wpAny_pure (wpAny_pure ⟨_, rfl, wpAny_pure h⟩))) htake)
    | exact wpAny_bind (wpAny_bind (m := Builtin.Tuple.tupleExact _) (wpAny_newObj_type (wpAny_pure (wpAny_pure ⟨_, rfl, wpAny_pure h⟩)) htake))
    | exact wpAny_bind (wpAny_bind (m := Builtin.Tuple.tupleExact _) (wpAny_newObj_type (wpAny_pure ⟨_, rfl, wpAny_pure h⟩) htake))
end
def tRev (K : PySem.W.Frag) (te ts : TE) : TE := fun σ H Q => te σ H fun x H1 => ts σ H1 fun y H2 => y = .int (-1) ∧ ∃ a xs, x = .ref a ∧ SqT K H2 a xs ∧ ∀ p, H2 p = none → Q (.ref p) (upd H2 p (.tup xs.reverse))
theorem Vals.rev {xs : List V} {us : List Value} (r : Vals xs us) : Vals xs.reverse us.reverse := by
  induction r with
  | nil => exact .nil
  | cons h t ih =>
    rw [List.reverse_cons, List.reverse_cons]
    exact ih.append (.cons h .nil)
theorem pe_rev {X : Cx} {e st : Expr} {te ts : TE} {pos p2 : Pos} (he : PE X e te) (hst : PE X st ts) : PE X (.Subscript e (.Slice none none (some st) p2) pos) (tRev X.K te ts) := by
  intro pins s σ H Q I h
  refine PyProof.Rows.Subscript_ (thn (he pins s σ H _ I h) fun v s1 ⟨x, H1, I1, r1, q1⟩ => ?_)
  refine wpAny_Slice ?_
  rw [evalPart_none]
  refine wpAny_pure ?_
  refine wpAny_pure ?_
  rw [evalPart_some]
  refine thn (hst pins s1 σ H1 _ I1 q1) fun vs s3 ⟨y, H3, I3, ry, q3⟩ => ?_
  obtain ⟨rfl, a, xs, rfl, hx, q⟩ := q3
  obtain ⟨u, rfl⟩ := ry
  cases r1
  have I4 : Inv X pins σ H3 { s3 with heap := s3.heap.push { cls := .type "slice", data := .fields #[.none, .none, .int (-1) u] } } := I3.kept (t' := s3.toks) fun b ob q => Heap.get?_push_of_some _ q
  obtain ⟨its, r, ht, hz⟩ := I4.tuple hx
  show wpAny (model X.prog X.w) X.A (PyProof.Rows.subscriptTail e (.Slice none none (some st) p2) (.ref a) (.ref s3.heap.objs.size)) (EP X pins σ Q) X.xe { s3 with heap := s3.heap.push { cls := .type "slice", data := .fields #[.none, .none, .int (-1) u] } }
  refine PyProof.Rows.tail_any (ops := [.ref a, .ref s3.heap.objs.size]) ht.typeIs PyProof.Rows.slot_tuple_getitem.lookup ?_ (by with_unfolding_all rfl)
  refine getItem_rev ht (Heap.IsSliceOf.new ..) ?_ (by rw [List.size_toArray, ← r.length]; exact hz)
  exact ⟨.ref _, _, I4.laid (t' := s3.toks) (a := (s3.heap.push { cls := .type "slice", data := .fields #[.none, .none, .int (-1) u] }).objs.size) (o := .tup xs.reverse) (fun _ _ q => Heap.get?_push_of_some _ q) (Nat.le_refl _) ⟨by rw [List.length_reverse]; exact hz, its.reverse, Vals.rev r, IsTup.new _ _⟩, rfl, q _ (I4.hok.fresh (Nat.le_refl _))⟩
def fRev (fe fs : FE) : FE := fun e S => match fe e S with
  | some (.tup xs, S1) => (match fs e S1 with
    | some (.int i, S2) => if i = -1 then some (.tup xs.reverse, S2) else none
    | _ => none)
  | _ => none
theorem RAs.rev {H : Hp} {r : Nat → Addr} {n : Nat} : ∀ {xs : List A} {vs : List V}, RAs H r n xs vs → RAs H r n xs.reverse vs.reverse
  | _, _, .nil => .nil
  | _, _, .cons h t => by
    rw [List.reverse_cons, List.reverse_cons]
    exact (RAs.rev t).append (.cons h .nil)
theorem se_rev {X : Cx} {e st : Expr} {fe fs : FE} {pos p2 : Pos} (he : SE X e fe) (hst : SE X st fs) : SE X (.Subscript e (.Slice none none (some st) p2) pos) (fRev fe fs) := ⟨_, pe_rev he.p hst.p, by
  intro e S v S' h H r sg Q hS hE k
  unfold fRev at h
  split at h
  · rename_i xs S1 h1
    split at h
    · rename_i i S2 h2
      split at h
      · rename_i hi
        subst hi
        cases h
        refine he.s _ _ _ _ h1 _ _ _ _ hS hE fun H1 r1 x' x1 s1 qx => ?_
        refine hst.s _ _ _ _ h2 _ _ _ _ s1 (hE.ext x1) fun H2 r2 y' x2 s2 qy => ?_
        have qx := qx.ext x2
        cases qx with
        | tup ha hs =>
          refine ⟨qy.int_eq, _, _, rfl, SqT.of ha, fun p hp => k _ r2 _ ((x1.trans x2).trans (ext_new hp)) (s2.new hp) (.tup upd_same ((RAs.rev hs).ext (ext_new hp)))⟩
      · cases h
    · cases h
  · cases h⟩
theorem we_rev {fe fs : FE} {e : En} {S : Sto} {Q} : WE (fRev fe fs) e S Q = WE fe e S fun x S1 => (match x with | .tup xs => WE fs e S1 fun y S2 => (match y with | .int i => i = -1 ∧ Q (.tup xs.reverse) S2 | _ => False) | _ => False) := by
  unfold WE fRev
  cases fe e S with
  | none => rfl
  | some p =>
    obtain ⟨x, S1⟩ := p
    cases x with
    | tup xs =>
      dsimp only [W]
      cases fs e S1 with
      | none => rfl
      | some p =>
        obtain ⟨y, S2⟩ := p
        cases y with
        | int i =>
          dsimp only
          by_cases h : i = -1
          · simp [h]
          · simp [h]
        | _ => rfl
    | _ => rfl
end F
namespace F
open PySem PySem.Spec L2
theorem loop_ok {F : FI} {xs : List A} {g : FG} {b : FS} {Q : Fl → Sto → Prop} (P : Nat → En → Sto → Prop)
    (hk : ∀ (i : Nat) (e : En) (S : Sto), P i e S → F.item S i = some xs[i]?)
    (hs : ∀ (i : Nat) (x : A) (e : En) (S : Sto), xs[i]? = some x → P i e S → WG g x e S fun e1 S1 => WS b e1 S1 fun fl S2 => (match fl with | .nx e2 => P (i + 1) e2 S2 | .ct e2 => P (i + 1) e2 S2 | .bk e2 => Q (.nx e2) S2 | .rt v => Q (.rt v) S2))
    (hd : ∀ (e : En) (S : Sto), P xs.length e S → Q (.nx e) S) : ∀ (n i : Nat) (e : En) (S : Sto), i + n = xs.length → P i e S → WS (lpF F g b n i) e S Q
  | 0, i, e, S, hi, p => by
    have e1 : i = xs.length := by omega
    subst e1
    refine W.of (v := .nx e) (w := S) ?_ (hd e S p)
    unfold lpF loopF
    rw [hk _ _ _ p]
    simp
  | n + 1, i, e, S, hi, p => by
    have hl : i < xs.length := by omega
    have hx : xs[i]? = some xs[i] := List.getElem?_eq_getElem hl
    have hF := hk _ _ _ p
    obtain ⟨e1, S1, h1, h2⟩ := (hs i xs[i] e S hx p).ex
    obtain ⟨fl, S2, h2, h3⟩ := h2.ex
    cases fl with
    | nx e2 =>
      obtain ⟨v, S', h4, h5⟩ := (loop_ok P hk hs hd n (i + 1) e2 S2 (by omega) h3).ex
      refine W.of (v := v) (w := S') ?_ h5
      unfold lpF at h4 ⊢
      rw [loopF]
      simp only [hF, hx, h1, h2]
      exact h4
    | ct e2 =>
      obtain ⟨v, S', h4, h5⟩ := (loop_ok P hk hs hd n (i + 1) e2 S2 (by omega) h3).ex
      refine W.of (v := v) (w := S') ?_ h5
      unfold lpF at h4 ⊢
      rw [loopF]
      simp only [hF, hx, h1, h2]
      exact h4
    | bk e2 =>
      refine W.of (v := .nx e2) (w := S2) ?_ h3
      unfold lpF
      rw [loopF]
      simp only [hF, hx, h1, h2]
    | rt v =>
      refine W.of (v := .rt v) (w := S2) ?_ h3
      unfold lpF
      rw [loopF]
      simp only [hF, hx, h1, h2]
theorem lc_mapE {α : Type} {F : FI} {ys : List α} {emb : α → A} {g : FG} {tt : FT} {te : FE} {e : En} {S : Sto} {R : Sto → Prop} {m : Nat} (p : α → Bool) (f : α → A) (hl : ys.length < sizeLine) (hm : m = ys.length) (hF : ∀ (i : Nat) (R : Sto), F.item (S ++ R) i = some (ys.map emb)[i]?)
    (hs : ∀ y ∈ ys, ∀ (Y : Sto) (Q1 : Bool → A → Sto → Prop), (∀ X, p y = false → Q1 false (f y) (S ++ X)) → (∀ X, p y = true → Q1 true (f y) (S ++ X)) →
      WG g (emb y) e (S ++ Y) fun e1 S2 => WT tt e1 S2 fun t S3 => if t = true then WE te e1 S3 fun v S4 => (∃ Z, S4 = S ++ Y ++ Z) ∧ Q1 true v (S4) else (∃ Z, S3 = S ++ Y ++ Z) ∧ Q1 false (f y) S3)
    (k : ∀ X, R (S ++ .lst ((ys.filter p).map f) :: X)) :
    (match lcF F g tt te S.length e m 0 (S ++ [.lst []]) with | some S2 => R S2 | none => False) := by
  have hm' : m = (ys.map emb).length := by rw [List.length_map]; exact hm
  subst hm'
  refine lc_ok (xs := ys.map emb) (R := R) (fun i S1 => ∃ X, S1 = S ++ .lst (((ys.take i).filter p).map f) :: X) (fun i S1 h => by obtain ⟨X, rfl⟩ := h; exact hF _ _) ?_ ?_ _ 0 _ (Nat.zero_add _) ⟨[], rfl⟩
  · rintro i x S1 hx ⟨X, rfl⟩
    rw [List.getElem?_map] at hx
    cases hy : ys[i]? with
    | none => rw [hy] at hx; cases hx
    | some y =>
      rw [hy] at hx
      cases hx
      have ht : ys.take (i + 1) = ys.take i ++ [y] := by
        rw [List.take_succ, hy]
        rfl
      refine W.mono (hs y (List.mem_of_getElem? hy) _ (fun t v S4 => if t = true then v = f y ∧ p y = true else p y = false) (fun Y hp => ?_) (fun Y hp => ?_)) fun e1 S2 h => W.mono h fun t S3 h => ?_
      · rw [if_neg Bool.false_ne_true]
        exact hp
      · rw [if_pos rfl]
        exact ⟨rfl, hp⟩
      · cases t with
        | true =>
          rw [if_pos rfl] at h ⊢
          refine W.mono h fun v S4 h => ?_
          rw [if_pos rfl] at h
          obtain ⟨⟨Z, rfl⟩, rfl, hp⟩ := h
          rw [List.append_assoc, List.cons_append, get_at]
          refine ⟨?_, X ++ Z, ?_⟩
          · rw [List.length_map]
            refine Nat.lt_of_le_of_lt (List.length_filter_le _ _) (Nat.lt_of_le_of_lt ?_ hl)
            rw [List.length_take]
            exact Nat.min_le_right _ _
          · rw [set_at, ht, List.filter_append, List.map_append]
            simp [hp]
        | false =>
          rw [if_neg Bool.false_ne_true] at h ⊢
          rw [if_neg Bool.false_ne_true] at h
          obtain ⟨⟨Z, rfl⟩, hp⟩ := h
          refine ⟨X ++ Z, ?_⟩
          rw [ht, List.filter_append, List.map_append]
          simp [hp]
  · rintro S1 ⟨X, rfl⟩
    rw [List.length_map, List.take_length]
    exact k X
theorem ds_grow {f g : A → Option PyData} (h : ∀ x d, f x = some d → g x = some d) : ∀ {xs : List A} {ds : List PyData}, dsOf f xs = some ds → dsOf g xs = some ds
  | [], _, e => e
  | x :: xs, ds, e => by
    simp only [dsOf] at e ⊢
    split at e
    · rename_i d q
      split at e
      · rename_i ds' q2
        cases e
        rw [h x d q, ds_grow h q2]
      · cases e
    · cases e
theorem toD_grow {S X : Sto} : ∀ (n : Nat) (x : A) (d : PyData), toD S n x = some d → toD (S ++ X) n x = some d
  | 0, _, _, h => by cases h
  | n + 1, x, d, h => by
    cases x with
    | tup xs =>
      simp only [toD] at h ⊢
      split at h
      · rename_i ds q
        cases h
        rw [ds_grow (toD_grow n) q]
      · cases h
    | ref k =>
      simp only [toD] at h ⊢
      split at h
      · rename_i xs q
        rw [List.getElem?_append_left (getElem_lt q), q]
        split at h
        · rename_i ds q2
          cases h
          simp only [ds_grow (toD_grow n) q2]
        · cases h
      · rename_i xs q
        rw [List.getElem?_append_left (getElem_lt q), q]
        split at h
        · rename_i ds q2
          cases h
          simp only [ds_grow (toD_grow n) q2]
        · cases h
      · cases h
    | _ => exact h
def Known (S : Sto) : A → Prop
  | .ref k => ∃ xs, S[k]? = some (.lst xs)
  | .ty _ => False
  | _ => True
theorem Known.grow {S X : Sto} {x : A} (h : Known S x) : Known (S ++ X) x := by
  cases x with
  | ref k =>
    obtain ⟨xs, e⟩ := h
    exact ⟨xs, by rw [List.getElem?_append_left (getElem_lt e)]; exact e⟩
  | _ => exact h
def isI : A → Bool | .int _ => true | _ => false
def isT : A → Bool | .tup _ => true | _ => false
def isB : A → Bool | .bl _ => true | _ => false
theorem kit_none_int : kit0 "NoneType" "int" = some false := by decide +kernel
theorem kit_none_bool : kit0 "NoneType" "bool" = some false := by decide +kernel
theorem kit_none_tuple : kit0 "NoneType" "tuple" = some false := by decide +kernel
theorem kit_bool_tuple : kit0 "bool" "tuple" = some false := by decide +kernel
theorem kit_int_tuple : kit0 "int" "tuple" = some false := by decide +kernel
theorem kit_str_int : kit0 "str" "int" = some false := by decide +kernel
theorem kit_str_bool : kit0 "str" "bool" = some false := by decide +kernel
theorem kit_str_tuple : kit0 "str" "tuple" = some false := by decide +kernel
theorem kit_tuple_int : kit0 "tuple" "int" = some false := by decide +kernel
theorem kit_tuple_bool : kit0 "tuple" "bool" = some false := by decide +kernel
theorem kit_list_int : kit0 "list" "int" = some false := by decide +kernel
theorem kit_list_bool : kit0 "list" "bool" = some false := by decide +kernel
theorem kit_list_tuple : kit0 "list" "tuple" = some false := by decide +kernel
theorem kit_dict_int : kit0 "dict" "int" = some false := by decide +kernel
theorem kit_dict_bool : kit0 "dict" "bool" = some false := by decide +kernel
theorem kit_dict_tuple : kit0 "dict" "tuple" = some false := by decide +kernel
theorem isi_int {x : A} {S : Sto} {Q} (h : Known S x) : WC gIsi [x, .ty "int"] S Q = Q (.bl (isI x || isB x)) S := by
  rw [wc_isi]
  cases x with
  | ref k =>
    obtain ⟨xs, e⟩ := h
    simp only [tyAS, e, kit_list_int]
    rfl
  | ty c => exact h.elim
  | _ => simp only [tyAS, tyA, kit_none_int, kit_bool_int, kit_int_int, kit_str_int, kit_tuple_int, kit_dict_int]; rfl
theorem isi_bool {x : A} {S : Sto} {Q} (h : Known S x) : WC gIsi [x, .ty "bool"] S Q = Q (.bl (isB x)) S := by
  rw [wc_isi]
  cases x with
  | ref k =>
    obtain ⟨xs, e⟩ := h
    simp only [tyAS, e, kit_list_bool]
    rfl
  | ty c => exact h.elim
  | _ => simp only [tyAS, tyA, kit_none_bool, kit_bool_bool, kit_int_bool, kit_str_bool, kit_tuple_bool, kit_dict_bool]; rfl
theorem isi_tup {x : A} {S : Sto} {Q} (h : Known S x) : WC gIsi [x, .ty "tuple"] S Q = Q (.bl (isT x)) S := by
  rw [wc_isi]
  cases x with
  | ref k =>
    obtain ⟨xs, e⟩ := h
    simp only [tyAS, e, kit_list_tuple]
    rfl
  | ty c => exact h.elim
  | _ => simp only [tyAS, tyA, kit_none_tuple, kit_bool_tuple, kit_int_tuple, kit_str_tuple, kit_tuple_tuple, kit_dict_tuple]; rfl
theorem wo_catL {j k : Nat} {S : Sto} {Q} {xs ys : List A} (h1 : S[j]? = some (.lst xs)) (h2 : S[k]? = some (.lst ys)) : WO gCatL (.ref j) (.ref k) S Q = (xs.length + ys.length ≤ sizeLine ∧ Q (.ref S.length) (S ++ [.lst (xs ++ ys)])) := by
  unfold WO gCatL
  simp only [h1, h2]
  by_cases h : xs.length + ys.length ≤ sizeLine
  · simp only [h, if_true, W, true_and]
  · rw [if_neg h]
    simp only [h, false_and, W]
theorem wo_catT {xs ys : List A} {S : Sto} {Q} : WO gCatT (.tup xs) (.tup ys) S Q = (xs.length + ys.length ≤ sizeLine ∧ Q (.tup (xs ++ ys)) S) := by
  unfold WO gCatT
  dsimp only
  by_cases h : xs.length + ys.length ≤ sizeLine
  · simp only [h, if_true, W, true_and]
  · rw [if_neg h]
    simp only [h, false_and, W]
theorem wo_neLB {a b c d : Bool} {j k : Nat} {S : Sto} {Q} (h1 : S[j]? = some (.lst [.bl a, .bl b])) (h2 : S[k]? = some (.lst [.bl c, .bl d])) : WO (gEqD true) (.ref j) (.ref k) S Q = Q (.bl (!(decide (a = c) && decide (b = d)))) S := by
  rw [wo_eqD]
  have e : ∀ {j : Nat} {a b : Bool}, S[j]? = some (.lst [.bl a, .bl b]) → toD S 12 (.ref j) = some (.list [.bool a, .bool b]) := fun {j a b} h => by
    rw [toD]
    simp only [h, dsOf, toD]
  rw [e h1, e h2]
  have hs : ∀ a b : Bool, SeqAt.shaped (.list [.bool a, .bool b]) = true := by
    intro a b
    unfold SeqAt.shaped
    simp [PyData.canLay0, PyData.canLayAll0, PyData.depth, PyData.depthAll]
  simp only [hs, Bool.and_true, true_and, if_true, PyData.eqv, PyData.eqvAll]
  cases a <;> cases b <;> cases c <;> cases d <;> rfl
end F
namespace F
open PySem PySem.Spec L2
theorem strOk_app {a b : Str} (h1 : PyData.strOk a = true) (h2 : PyData.strOk b = true) : PyData.strOk (a ++ b) = true := by
  show (a.cps ++ b.cps).all _ = true
  rw [Array.all_append]
  exact Bool.and_eq_true_iff.mpr ⟨h1, h2⟩
theorem strOk_of (s : String) : PyData.strOk (Str.ofString s) = true := by
  rw [Str.ofString_eq_toList]
  show ((s.toList.map Char.toNat).toArray).all _ = true
  rw [List.all_toArray, List.all_map]
  refine List.all_eq_true.mpr fun c _ => ?_
  have h := c.valid
  simp only [UInt32.isValidChar, Nat.isValidChar] at h
  have ht : c.toNat = c.val.toNat := rfl
  show decide (c.toNat < 0x110000) = true
  rw [ht]
  exact decide_eq_true (by omega)
theorem strOk_join : ∀ ts : List Str, (∀ t ∈ ts, PyData.strOk t = true) → PyData.strOk (Str.join ", " ts) = true
  | [], _ => by decide +kernel
  | [x], h => h x (List.mem_cons_self ..)
  | x :: y :: r, h => strOk_app (strOk_app (h x (List.mem_cons_self ..)) (strOk_of _)) (strOk_join (y :: r) fun t ht => h t (List.mem_cons_of_mem _ ht))
def kindOk (c : Bool) (d : PyData) : Bool := if c then noList d else !d.hasDict
structure Rp (c : Bool) (d : PyData) (n k : Nat) : Prop where
  sh : d.showable = true
  nd : kindOk c d = true
  dp : d.depth ≤ k
  ln : d.shown.length ≤ n
  ok : PyData.strOk d.shown = true
theorem Rp.mono {c : Bool} {d : PyData} {n k n' k' : Nat} (h : Rp c d n k) (h1 : n ≤ n') (h2 : k ≤ k') : Rp c d n' k' := ⟨h.sh, h.nd, Nat.le_trans h.dp h2, Nat.le_trans h.ln h1, h.ok⟩
theorem rp_int {c : Bool} {i : Int} {j : Nat} (hj : 0 < j) (h : i.natAbs < 10 ^ j) (hb : j ≤ 480 := by decide) : Rp c (.int i) (j + 1) 0 := by
  have hp : i.natAbs.log2 < 1920 := by
    by_cases h0 : i.natAbs = 0
    · rw [h0]
      decide
    · refine (Nat.log2_lt h0).mpr (Nat.lt_of_lt_of_le h (Nat.le_trans (Nat.pow_le_pow_left (show 10 ≤ 2 ^ 4 by decide) j) ?_))
      rw [← Nat.pow_mul]
      exact Nat.pow_le_pow_right (by decide) (by omega)
  refine ⟨?_, ?_, ?_, ?_, ?_⟩
  · rw [PyData.showable]
    exact decide_eq_true hp
  · cases c <;> simp [kindOk, noList, PyData.hasDict]
  · rw [PyData.depth]
    exact Nat.le_refl _
  · rw [PyData.shown, ofString_length]
    exact int_text_length_le10 hj h
  · rw [PyData.shown]
    exact strOk_of _
theorem rp_none {c : Bool} : Rp c .none 4 0 := ⟨by rw [PyData.showable], by cases c <;> simp [kindOk, noList, PyData.hasDict], by rw [PyData.depth]; exact Nat.le_refl _, by rw [PyData.shown]; decide +kernel, by rw [PyData.shown]; exact strOk_of _⟩
theorem rp_bool {c : Bool} (b : Bool) : Rp c (.bool b) 5 0 := ⟨by rw [PyData.showable], by cases c <;> simp [kindOk, noList, PyData.hasDict], by rw [PyData.depth]; exact Nat.le_refl _, by rw [PyData.shown]; cases b <;> decide +kernel, by rw [PyData.shown]; cases b <;> exact strOk_of _⟩
theorem rp_str {c : Bool} {x : Str} {n : Nat} (h2 : (reprText x).length ≤ n) (h3 : PyData.strOk (reprText x) = true) : Rp c (.str x) n 0 := ⟨by rw [PyData.showable], by cases c <;> simp [kindOk, noList, PyData.hasDict], by rw [PyData.depth]; exact Nat.le_refl _, by rw [PyData.shown]; exact h2, by rw [PyData.shown]; exact h3⟩
theorem rp_dic : Rp true (.dict []) 2 1 := ⟨by simp [PyData.showable, PyData.showableKv], by simp [kindOk, noList], by simp [PyData.depth, PyData.depthKv], by simp only [PyData.shown, PyData.shownKv]; decide +kernel, by simp only [PyData.shown, PyData.shownKv]; decide +kernel⟩
def kindAll (c : Bool) (ds : List PyData) : Bool := if c then noListAll ds else !PyData.hasDictAll ds
theorem rp_all {c : Bool} {n k : Nat} : ∀ ds : List PyData, (∀ d ∈ ds, Rp c d n k) → PyData.showableAll ds = true ∧ kindAll c ds = true ∧ PyData.depthAll ds ≤ k ∧ ((PyData.shownAll ds).map (·.length)).sum ≤ ds.length * n ∧ ∀ t ∈ PyData.shownAll ds, PyData.strOk t = true
  | [], _ => by
    refine ⟨by rw [PyData.showableAll], by cases c <;> simp [kindAll, noListAll, PyData.hasDictAll], by rw [PyData.depthAll]; exact Nat.zero_le _, by rw [PyData.shownAll]; exact Nat.zero_le _, ?_⟩
    rw [PyData.shownAll]
    intro t ht
    cases ht
  | d :: ds, h => by
    obtain ⟨a1, a2, a3, a4, a6⟩ := rp_all ds fun d hd => h d (List.mem_cons_of_mem _ hd)
    have b := h d (List.mem_cons_self ..)
    refine ⟨by rw [PyData.showableAll, b.sh, a1]; rfl, ?_, by rw [PyData.depthAll]; exact Nat.max_le.mpr ⟨b.dp, a3⟩, ?_, ?_⟩
    · have b2 := b.nd
      cases c with
      | true =>
        simp only [kindOk, kindAll, if_true, noListAll] at *
        rw [b2, a2]
        rfl
      | false =>
        simp only [kindOk, kindAll, if_false, Bool.false_eq_true, PyData.hasDictAll, Bool.not_or] at *
        rw [b2, a2]
        rfl
    · rw [PyData.shownAll, List.map_cons, List.sum_cons, List.length_cons, Nat.succ_mul, Nat.add_comm]
      exact Nat.add_le_add a4 b.ln
    · rw [PyData.shownAll]
      intro t ht
      rcases List.mem_cons.mp ht with rfl | ht
      · exact b.ok
      · exact a6 t ht
theorem rp_tup {c : Bool} {ds : List PyData} {n k m : Nat} (h : ∀ d ∈ ds, Rp c d n k) (hm : ds.length ≤ m) : Rp c (.tuple ds) (m * (n + 2) + 3) (k + 1) := by
  obtain ⟨a1, a2, a3, a4, a6⟩ := rp_all ds h
  refine ⟨by rw [PyData.showable]; exact a1, ?_, by rw [PyData.depth]; exact Nat.succ_le_succ a3, ?_, ?_⟩
  · cases c with
    | true => simpa [kindOk, kindAll, noList] using a2
    | false => simpa [kindOk, kindAll, PyData.hasDict] using a2
  · rw [PyData.shown]
    have := tupleText_len_le (PyData.shownAll ds)
    rw [PyData.shownAll_length] at this
    have e : ds.length * (n + 2) ≤ m * (n + 2) := Nat.mul_le_mul_right _ hm
    rw [Nat.mul_add] at e
    omega
  · rw [PyData.shown]
    unfold tupleText
    refine strOk_app (strOk_app (strOk_of _) (strOk_join _ a6)) (strOk_of _)
theorem rp_list {ds : List PyData} {n k m : Nat} (h : ∀ d ∈ ds, Rp false d n k) (hm : ds.length ≤ m) : Rp false (.list ds) (m * (n + 2) + 3) (k + 1) := by
  obtain ⟨a1, a2, a3, a4, a6⟩ := rp_all ds h
  refine ⟨by rw [PyData.showable]; exact a1, ?_, by rw [PyData.depth]; exact Nat.succ_le_succ a3, ?_, ?_⟩
  · simpa [kindOk, kindAll, PyData.hasDict] using a2
  · rw [PyData.shown]
    have := listText_len_le (PyData.shownAll ds)
    rw [PyData.shownAll_length] at this
    have e : ds.length * (n + 2) ≤ m * (n + 2) := Nat.mul_le_mul_right _ hm
    rw [Nat.mul_add] at e
    omega
  · rw [PyData.shown_list]
    refine strOk_app (strOk_app (strOk_of _) (strOk_join _ a6)) (strOk_of _)
theorem Rp.can {c : Bool} {d : PyData} {n k : Nat} (h : Rp c d n k) (h1 : n ≤ sizeLine) (h2 : k ≤ 64) : canRepr d = true := by
  unfold canRepr
  have e : (!d.hasDict || noList d) = true := by
    have := h.nd
    cases c with
    | true =>
      simp only [kindOk, if_true] at this
      rw [this, Bool.or_true]
    | false =>
      simp only [kindOk, if_false, Bool.false_eq_true] at this
      rw [this]
      rfl
  rw [h.sh, e, decide_eq_true (Nat.le_trans h.dp h2), decide_eq_true (Nat.le_trans h.ln h1)]
  rfl
theorem Rp.shs {c : Bool} {d : PyData} {n k : Nat} (h : Rp c d n k) : SeqAt.shaped (.str d.shown) = true := by
  unfold SeqAt.shaped
  rw [PyData.canLay0, h.ok]
  simp [PyData.depth]
theorem wc_reprT {x : A} {S : Sto} {Q} {c : Bool} {d : PyData} {n k : Nat} (e : toD S 12 x = some d) (h : Rp c d n k) (h1 : n ≤ sizeLine) (h2 : k ≤ 64) : WC gRepr [x] S Q = Q (.str d.shown) S := by
  unfold WC gRepr
  dsimp only
  rw [e]
  dsimp only
  rw [if_pos (h.can h1 h2)]
  rfl
theorem wo_neS {x y : Str} {S : Sto} {Q} (hx : SeqAt.shaped (.str x) = true) (hy : SeqAt.shaped (.str y) = true) : WO (gEqD true) (.str x) (.str y) S Q = Q (.bl (!(x == y))) S := by
  rw [wo_eqD]
  simp only [toD, hx, hy, Bool.and_true, true_and, PyData.eqv, if_true]
end F
namespace F
open PySem PySem.Spec L2
def TxG (K : PySem.W.Frag) (mg : Str → Option Value) (x : Str) (ss : List Str) : Prop := ∃ a, mg x = some (.ref a) ∧ ∀ H : Hp, SqT K H a (ss.map V.str)
theorem vals_strs : ∀ {ss : List Str} {us : List Value}, Paired (fun x u => ∃ t, u = Value.str x t) ss us → Vals (ss.map V.str) us
  | _, _, .nil => .nil
  | _, _, .cons h t => .cons h (vals_strs t)
theorem TxG.mk {K : PySem.W.Frag} {mg : Str → Option Value} {x : Str} {ss : List Str} {a : Addr} {od : Option Addr} {its : Array Value} {n : Nat} {sl : Array (Option Value)} (h : mg x = some (.ref a)) (hl : K.lookup a = some ⟨.type "tuple", od, .seq its n, sl⟩)
    (hs : its.size ≤ sizeLine) (hv : Paired (fun x u => ∃ t, u = Value.str x t) ss its.toList) : TxG K mg x ss :=
  ⟨a, h, fun H => .inr ⟨_, its, n, hl, rfl, rfl, hs, vals_strs hv⟩⟩
theorem TxG.two {K : PySem.W.Frag} {mg : Str → Option Value} {x s1 s2 : Str} {a : Addr} {od : Option Addr} {n : Nat} {t1 t2 : Tok} {sl : Array (Option Value)} (h : mg x = some (.ref a)) (hl : K.lookup a = some ⟨.type "tuple", od, .seq #[.str s1 t1, .str s2 t2] n, sl⟩) : TxG K mg x [s1, s2] :=
  TxG.mk h hl (show 2 ≤ sizeLine by decide) (.cons ⟨_, rfl⟩ (.cons ⟨_, rfl⟩ .nil))
def fInC (neg : Bool) (ss : List Str) (fa : FE) : FE := fun e S => match fa e S with
  | some (x, S1) => if flatA x = true then some (.bl (if neg then !inV (vOf x) (ss.map V.str) else inV (vOf x) (ss.map V.str)), S1) else none
  | none => none
theorem flat_strs : ∀ ss : List Str, (ss.map V.str).all flatV = true
  | [] => rfl
  | s :: ss => by rw [List.map_cons, List.all_cons, flat_strs ss]; rfl
theorem snd_inC {K : PySem.W.Frag} {neg : Bool} {ss : List Str} {a : Addr} {ta : TE} {fa : FE} (hq : ∀ H : Hp, SqT K H a (ss.map V.str)) (h : SndE K ta fa) : SndE K (tOp (rIn K neg) ta (tC (.ref a))) (fInC neg ss fa) := by
  intro e S v S' q H r sg Q hS hE k
  unfold fInC at q
  split at q
  · rename_i x S1 q1
    split at q
    · rename_i hf
      cases q
      refine h _ _ _ _ q1 _ _ _ _ hS hE fun H1 r1 x' e1 s1 qx => ?_
      obtain ⟨e2, e3⟩ := vOf_eq qx hf
      subst e2
      exact ⟨a, _, rfl, .inr (hq H1), e3, flat_strs ss, k H1 r1 _ e1 s1 (.bl _)⟩
    · cases q
  · cases q
section
variable {X : Cx} {a : Expr} {fa : FE} {pos p : Pos} {x : Str} {ss : List Str}
theorem se_inC (hm : TxG X.K X.mg x ss) (ha : SE X a fa) (hg : Gl X x := by rfl) (hd : (x == ("__debug__" : Str)) = false := by decide) (hk : behindInMarks .In (.Name x p) = false := by with_unfolding_all rfl) :
    SE X (.Compare a [.In] [.Name x p] pos) (fInC false ss fa) := by
  obtain ⟨b, h1, h2⟩ := hm
  exact ⟨_, pe_cmpR op_in_seq ha.p (pe_glob (v := .ref b) hg h1 rfl hd) hk, snd_inC h2 ha.s⟩
end
end F
namespace F
open PySem PySem.Spec L2
theorem we_inC {neg : Bool} {ss : List Str} {f : FE} {e : En} {S : Sto} {Q} : WE (fInC neg ss f) e S Q = WE f e S fun x S1 => flatA x = true ∧ Q (.bl (if neg then !inV (vOf x) (ss.map V.str) else inV (vOf x) (ss.map V.str))) S1 := by
  unfold WE fInC
  cases f e S with
  | none => rfl
  | some p =>
    obtain ⟨x, S1⟩ := p
    by_cases h : flatA x = true
    · simp [h, W]
    · simp [h, W]
end F
namespace G
open PySem PySem.Spec L2 F
def top (i : Nat) : Stmt := PySem.Challenge.pw_meanchoice_k02_choosings_of_anything.main.body.getD i (.Pass ⟨0, 0, 0, 0⟩)
abbrev s_is_whole : Stmt := top 4
abbrev N_is_whole : List Str := ["thing"]
def f_is_whole : FS := (fRet (fAndV (fCall gIsi (fCons (fVar 0) (fCons (fC (.ty "int")) fNil))) (fNotV (fCall gIsi (fCons (fVar 0) (fCons (fC (.ty "bool")) fNil))))))
def m_is_whole : FN := fDef 1 1 f_is_whole
abbrev s_is_within : Stmt := top 5
abbrev N_is_within : List Str := ["thing", "low", "high"]
def f_is_within : FS := (fRet (fAndV (fCall m_is_whole (fCons (fVar 0) fNil)) (fChain gLe gLe (fVar 1) (fVar 0) (fVar 2))))
def m_is_within : FN := fDef 3 3 f_is_within
abbrev s_is_tuple_of : Stmt := top 6
abbrev N_is_tuple_of : List Str := ["thing", "many"]
def f_is_tuple_of : FS := (fRet (fAndV (fCall gIsi (fCons (fVar 0) (fCons (fC (.ty "tuple")) fNil))) (fOp (gEqD false) (fCall gLen (fCons (fVar 0) fNil)) (fVar 1))))
def m_is_tuple_of : FN := fDef 2 2 f_is_tuple_of
abbrev s_are_rising : Stmt := top 7
abbrev N_are_rising : List Str := ["numbers", "one", "other"]
def f_are_rising : FS := (fRet (fCall (gAllAny fun bs => bs.all id) (fCons (fLc (fwZip (fCons (fVar 0) (fCons (fSl (fVar 0) (fSomeP (fC (.int 1))) fNoP) fNil))) (fgSeq 2 (fgCons (fName 1) (fgCons (fName 2) fgNil))) fYes (fOp gLt (fVar 1) (fVar 2)) [1, 2]) fNil)))
def m_are_rising : FN := fDef 1 3 f_are_rising
abbrev s_are_rising_below : Stmt := top 8
abbrev N_are_rising_below : List Str := ["thing", "many", "one"]
def f_are_rising_below : FS := (fSeq (fIf (fNotT (fB (fCall gIsi (fCons (fVar 0) (fCons (fC (.ty "tuple")) fNil))))) (fRet (fC (.bl false))) fNext)
  (fRet (fAndV (fCall (gAllAny fun bs => bs.all id) (fCons (fLc (fwSeq (fVar 0)) (fName 2) fYes (fCall m_is_within (fCons (fVar 2) (fCons (fC (.int 0)) (fCons (fOp gSub' (fVar 1) (fC (.int 1))) fNil)))) [2]) fNil)) (fCall m_are_rising (fCons (fVar 0) fNil)))))
def m_are_rising_below : FN := fDef 2 3 f_are_rising_below
abbrev s_are_ways : Stmt := top 15
abbrev N_are_ways : List Str := ["thing", "many"]
def f_are_ways : FS := (fSeq (fIf (fOrT (fNotT (fB (fCall gIsi (fCons (fVar 0) (fCons (fC (.ty "tuple")) fNil))))) (fB (fOp gGt (fCall gLen (fCons (fVar 0) fNil)) (fC (.int 10))))) (fRet (fC (.bl false))) fNext)
  (fRet (fCall (gAllAny fun bs => bs.all id) (fCons (fLc (fwSeq (fVar 0)) (fName 1) fYes (fCall m_is_within (fCons (fVar 1) (fCons (fC (.int 1)) (fCons (fC (.int 4)) fNil)))) [1]) fNil))))
def m_are_ways : FN := fDef 1 2 f_are_ways
abbrev s_is_part : Stmt := top 16
abbrev N_is_part : List Str := ["ways", "thing", "place", "some"]
def f_is_part : FS := (fSeq (fIf (fNotT (fB (fCall m_is_tuple_of (fCons (fVar 1) (fCons (fC (.int 2)) fNil))))) (fRet (fC (.bl false))) fNext)
  (fSeq (fAsg (fVar 1) (fgSeq 2 (fgCons (fName 2) (fgCons (fName 3) fgNil))))
  (fRet (fAndV (fCall m_is_within (fCons (fVar 2) (fCons (fC (.int 0)) (fCons (fOp gSub' (fCall gLen (fCons (fVar 0) fNil)) (fC (.int 1))) fNil)))) (fCall m_are_rising_below (fCons (fVar 3) (fCons (fOp gIx (fVar 0) (fVar 2)) fNil)))))))
def m_is_part : FN := fDef 2 4 f_is_part
abbrev s_are_parts : Stmt := top 17
abbrev N_are_parts : List Str := ["ways", "thing", "part", "place", "some"]
def f_are_parts : FS := (fSeq (fIf (fOrT (fNotT (fB (fCall gIsi (fCons (fVar 1) (fCons (fC (.ty "tuple")) fNil))))) (fNotT (fB (fCall (gAllAny fun bs => bs.all id) (fCons (fLc (fwSeq (fVar 1)) (fName 2) fYes (fCall m_is_part (fCons (fVar 0) (fCons (fVar 2) fNil))) [2]) fNil))))) (fRet (fC (.bl false))) fNext)
  (fRet (fCall m_are_rising (fCons (fLc (fwSeq (fVar 1)) (fgSeq 2 (fgCons (fName 3) (fgCons (fName 4) fgNil))) fYes (fVar 3) [3, 4]) fNil))))
def m_are_parts : FN := fDef 2 5 f_are_parts
abbrev s_is_wish : Stmt := top 18
abbrev N_is_wish : List Str := ["ways", "thing", "kind", "weight", "parts"]
def f_is_wish : FS := (fSeq (fIf (fNotT (fB (fCall m_is_tuple_of (fCons (fVar 1) (fCons (fC (.int 3)) fNil))))) (fRet (fC (.bl false))) fNext)
  (fSeq (fAsg (fVar 1) (fgSeq 3 (fgCons (fName 2) (fgCons (fName 3) (fgCons (fName 4) fgNil)))))
  (fRet (fAndV (fInC false ["all", "some"] (fVar 2)) (fAndV (fCall m_is_within (fCons (fVar 3) (fCons (fC (.int 0)) (fCons (fC (.int 99)) fNil)))) (fCall m_are_parts (fCons (fVar 0) (fCons (fVar 4) fNil))))))))
def m_is_wish : FN := fDef 2 5 f_is_wish
abbrev s_are_wishes : Stmt := top 19
abbrev N_are_wishes : List Str := ["ways", "thing", "wish"]
def f_are_wishes : FS := (fSeq (fIf (fOrT (fNotT (fB (fCall gIsi (fCons (fVar 1) (fCons (fC (.ty "tuple")) fNil))))) (fB (fOp gGt (fCall gLen (fCons (fVar 1) fNil)) (fC (.int 16))))) (fRet (fC (.bl false))) fNext)
  (fRet (fCall (gAllAny fun bs => bs.all id) (fCons (fLc (fwSeq (fVar 1)) (fName 2) fYes (fCall m_is_wish (fCons (fVar 0) (fCons (fVar 2) fNil))) [2]) fNil))))
def m_are_wishes : FN := fDef 2 3 f_are_wishes
abbrev s_is_sheet : Stmt := top 20
abbrev N_is_sheet : List Str := ["thing", "ways", "wishes"]
def f_is_sheet : FS := (fSeq (fIf (fNotT (fB (fCall m_is_tuple_of (fCons (fVar 0) (fCons (fC (.int 2)) fNil))))) (fRet (fC (.bl false))) fNext)
  (fSeq (fAsg (fVar 0) (fgSeq 2 (fgCons (fName 1) (fgCons (fName 2) fgNil))))
  (fRet (fAndV (fCall m_are_ways (fCons (fVar 1) fNil)) (fCall m_are_wishes (fCons (fVar 1) (fCons (fVar 2) fNil)))))))
def m_is_sheet : FN := fDef 1 3 f_is_sheet
abbrev s_are_first_ways : Stmt := top 21
abbrev N_are_first_ways : List Str := ["ways", "thing", "way", "many"]
def f_are_first_ways : FS := (fSeq (fIf (fOrT (fNotT (fB (fCall gIsi (fCons (fVar 1) (fCons (fC (.ty "tuple")) fNil))))) (fB (fOp gGt (fCall gLen (fCons (fVar 1) fNil)) (fCall gLen (fCons (fVar 0) fNil))))) (fRet (fC (.bl false))) fNext)
  (fRet (fCall (gAllAny fun bs => bs.all id) (fCons (fLc (fwZip (fCons (fVar 1) (fCons (fVar 0) fNil))) (fgSeq 2 (fgCons (fName 2) (fgCons (fName 3) fgNil))) fYes (fCall m_is_within (fCons (fVar 2) (fCons (fC (.int 0)) (fCons (fOp gSub' (fVar 3) (fC (.int 1))) fNil)))) [2, 3]) fNil))))
def m_are_first_ways : FN := fDef 2 4 f_are_first_ways
abbrev s_are_all_ways : Stmt := top 22
abbrev N_are_all_ways : List Str := ["ways", "thing"]
def f_are_all_ways : FS := (fRet (fAndV (fCall m_is_tuple_of (fCons (fVar 1) (fCons (fCall gLen (fCons (fVar 0) fNil)) fNil))) (fCall m_are_first_ways (fCons (fVar 0) (fCons (fVar 1) fNil)))))
def m_are_all_ways : FN := fDef 2 2 f_are_all_ways
abbrev s_need_sheet : Stmt := top 23
abbrev N_need_sheet : List Str := ["thing"]
def f_need_sheet : FS := (fIf (fNotT (fB (fCall m_is_sheet (fCons (fVar 0) fNil)))) fNever fNext)
def m_need_sheet : FN := fDef 1 1 f_need_sheet
abbrev s_is_begun : Stmt := top 24
abbrev N_is_begun : List Str := ["sheet", "thing"]
def f_is_begun : FS := (fSeq (fDrop (fCall m_need_sheet (fCons (fVar 0) fNil)))
  (fRet (fCall m_are_first_ways (fCons (fOp gIx (fVar 0) (fC (.int 0))) (fCons (fVar 1) fNil)))))
def m_is_begun : FN := fDef 2 2 f_is_begun
abbrev s_is_choosing : Stmt := top 25
abbrev N_is_choosing : List Str := ["sheet", "thing"]
def f_is_choosing : FS := (fSeq (fDrop (fCall m_need_sheet (fCons (fVar 0) fNil)))
  (fRet (fCall m_are_all_ways (fCons (fOp gIx (fVar 0) (fC (.int 0))) (fCons (fVar 1) fNil)))))
def m_is_choosing : FN := fDef 2 2 f_is_choosing
abbrev s_b_mixed : Stmt := top 27
abbrev N_b_mixed : List Str := ["cell", "at", "one", "two", "three"]
def f_b_mixed : FS := (fSeq (fIf (fB (fOp gGe (fVar 0) (fOp gPow (fC (.int 10)) (fC (.int 18))))) (fRet (fVar 0)) fNext)
  (fSeq (fAsg (fOp gMod (fOp gAdd (fOp gAdd (fOp gMul (fOp gMod (fVar 0) (fC (.int 2147483549))) (fC (.int 50021))) (fOp gMul (fVar 1) (fC (.int 7993)))) (fC (.int 419))) (fC (.int 2147483543))) (fName 2))
  (fSeq (fAsg (fOp gMod (fOp gAdd (fOp gAdd (fOp gMul (fVar 2) (fVar 2)) (fOp gMul (fC (.int 613)) (fVar 1))) (fC (.int 101))) (fC (.int 2147483497))) (fName 3))
  (fSeq (fAsg (fOp gMod (fOp gAdd (fOp gAdd (fOp gMul (fVar 3) (fVar 3)) (fOp gMul (fC (.int 877)) (fVar 2))) (fVar 1)) (fC (.int 2147483489))) (fName 4))
  (fRet (fOp gAdd (fOp gMul (fVar 3) (fC (.int 2147483489))) (fVar 4)))))))
def m_b_mixed : FN := fDef 2 5 f_b_mixed
abbrev s_b_take : Stmt := top 28
abbrev N_b_take : List Str := ["tape", "many", "at", "cell", "found"]
def f_b_take : FS := (fSeq (fIf (fB (fOp gLt (fOp gIx (fVar 0) (fC (.int 2))) (fVar 1))) (fSeq (fAsg (fOp gIx (fVar 0) (fC (.int 1))) (fName 2))
  (fSeq (fAsg (fOp gAdd (fOp gMul (fC (.int 17)) (fVar 2)) (fC (.int 5))) (fName 3))
  (fSeq (fIf (fB (fOp gLt (fVar 2) (fCall gLen (fCons (fOp gIx (fVar 0) (fC (.int 0))) fNil)))) (fAsg (fOp gIx (fOp gIx (fVar 0) (fC (.int 0))) (fVar 2)) (fName 3)) (fIf (fB (fOp (gEqD true) (fOp gIx (fVar 0) (fC (.int 0))) (fLst fNil))) (fAsg (fOp gAdd (fOp gMod (fOp gIx (fOp gIx (fVar 0) (fC (.int 0))) (fOp gMod (fOp gMul (fVar 2) (fC (.int 11))) (fCall gLen (fCons (fOp gIx (fVar 0) (fC (.int 0))) fNil)))) (fC (.int 1000033))) (fOp gMul (fVar 2) (fC (.int 1000081)))) (fName 3)) fNext))
  (fSeq (fAsg (fOp gAdd (fVar 2) (fC (.int 1))) (fgSub (fVar 0) (fC (.int 1))))
  (fAsg (fCall m_b_mixed (fCons (fVar 3) (fCons (fVar 2) fNil))) (fgSub (fVar 0) (fC (.int 2)))))))) fNext)
  (fSeq (fAsg (fOp gMod (fOp gIx (fVar 0) (fC (.int 2))) (fVar 1)) (fName 4))
  (fSeq (fAsg (fOp gDiv (fOp gIx (fVar 0) (fC (.int 2))) (fVar 1)) (fgSub (fVar 0) (fC (.int 2))))
  (fRet (fVar 4)))))
def m_b_take : FN := fDef 2 5 f_b_take
abbrev s_b_few : Stmt := top 29
abbrev N_b_few : List Str := ["tape", "many", "bits", "way"]
def f_b_few : FS := (fSeq (fAsg (fCall m_b_take (fCons (fVar 0) (fCons (fOp gIx (fLst (fCons (fC (.int 2)) (fCons (fC (.int 4)) (fCons (fC (.int 8)) (fCons (fC (.int 16)) fNil))))) (fOp gSub' (fVar 1) (fC (.int 1)))) fNil))) (fName 2))
  (fRet (fCall gTuple (fCons (fLc (fRng1 (fCons (fVar 1) fNil)) (fName 3) (fB (fOp (gEqD false) (fOp gMod (fOp gDiv (fVar 2) (fOp gIx (fLst (fCons (fC (.int 1)) (fCons (fC (.int 2)) (fCons (fC (.int 4)) (fCons (fC (.int 8)) fNil))))) (fVar 3))) (fC (.int 2))) (fC (.int 1)))) (fVar 3) [3]) fNil))))
def m_b_few : FN := fDef 2 4 f_b_few
abbrev s_b_wish : Stmt := top 30
abbrev N_b_wish : List Str := ["tape", "ways", "kind", "weight", "often", "here", "place"]
def f_b_wish : FS := (fSeq (fAsg (fOp gIx (fLst (fCons (fC (.str "all")) (fCons (fC (.str "some")) fNil))) (fCall m_b_take (fCons (fVar 0) (fCons (fC (.int 2)) fNil)))) (fName 2))
  (fSeq (fAsg (fOp gIx (fLst (fCons (fC (.int 0)) (fCons (fC (.int 1)) (fCons (fC (.int 99)) (fCons (fCall m_b_take (fCons (fVar 0) (fCons (fC (.int 10)) fNil))) (fCons (fCall m_b_take (fCons (fVar 0) (fCons (fC (.int 100)) fNil))) fNil)))))) (fCall m_b_take (fCons (fVar 0) (fCons (fC (.int 5)) fNil)))) (fName 3))
  (fSeq (fAsg (fOp gAdd (fC (.int 1)) (fCall m_b_take (fCons (fVar 0) (fCons (fC (.int 4)) fNil)))) (fName 4))
  (fSeq (fAsg (fLc (fRng1 (fCons (fCall gLen (fCons (fVar 1) fNil)) fNil)) (fName 6) (fB (fOp (gEqD false) (fCall m_b_take (fCons (fVar 0) (fCons (fVar 4) fNil))) (fC (.int 0)))) (fVar 6) [6]) (fName 5))
  (fRet (fTup (fCons (fVar 2) (fCons (fVar 3) (fCons (fCall gTuple (fCons (fLc (fwSeq (fVar 5)) (fName 6) fYes (fTup (fCons (fVar 6) (fCons (fCall m_b_few (fCons (fVar 0) (fCons (fOp gIx (fVar 1) (fVar 6)) fNil))) fNil))) [6]) fNil)) fNil)))))))))
def m_b_wish : FN := fDef 2 7 f_b_wish
abbrev s_b_sheet : Stmt := top 31
abbrev N_b_sheet : List Str := ["tape", "places", "wishes", "many", "alike", "ways", "place", "turn"]
def p1_b_sheet : FS := (fRet (fTup (fCons (fVar 5) (fCons (fCall gTuple (fCons (fLc (fRng1 (fCons (fCall m_b_take (fCons (fVar 0) (fCons (fOp gAdd (fVar 2) (fC (.int 1))) fNil))) fNil)) (fName 7) fYes (fCall m_b_wish (fCons (fVar 0) (fCons (fVar 5) fNil))) [7]) fNil)) fNil))))
def f_b_sheet : FS := (fSeq (fAsg (fCall m_b_take (fCons (fVar 0) (fCons (fOp gAdd (fVar 1) (fC (.int 1))) fNil))) (fName 3))
  (fSeq (fAsg (fCall m_b_take (fCons (fVar 0) (fCons (fC (.int 7)) fNil))) (fName 4))
  (fSeq (fAsg (fOp gRepT (fTup (fCons (fOp gAdd (fC (.int 1)) (fVar 4)) fNil)) (fVar 3)) (fName 5))
  (fSeq (fIf (fB (fOp gGt (fVar 4) (fC (.int 3)))) (fAsg (fCall gTuple (fCons (fLc (fRng1 (fCons (fVar 3) fNil)) (fName 6) fYes (fOp gAdd (fC (.int 1)) (fCall m_b_take (fCons (fVar 0) (fCons (fC (.int 4)) fNil)))) [6]) fNil)) (fName 5)) fNext)
  p1_b_sheet))))
def m_b_sheet : FN := fDef 3 8 f_b_sheet
abbrev s_b_choosing : Stmt := top 32
abbrev N_b_choosing : List Str := ["tape", "ways", "many"]
def f_b_choosing : FS := (fRet (fCall gTuple (fCons (fLc (fwSeq (fVar 1)) (fName 2) fYes (fCall m_b_take (fCons (fVar 0) (fCons (fVar 2) fNil))) [2]) fNil)))
def m_b_choosing : FN := fDef 2 3 f_b_choosing
abbrev s_b_whole : Stmt := top 33
abbrev N_b_whole : List Str := ["thing"]
def f_b_whole : FS := (fRet (fAndV (fCall gIsi (fCons (fVar 0) (fCons (fC (.ty "int")) fNil))) (fNotV (fCall gIsi (fCons (fVar 0) (fCons (fC (.ty "bool")) fNil))))))
def m_b_whole : FN := fDef 1 1 f_b_whole
abbrev s_b_is_begun : Stmt := top 34
abbrev N_b_is_begun : List Str := ["ways", "thing", "many", "way"]
def p1_b_is_begun : FS := (fIf (fOrT (fNotT (fB (fCall m_b_whole (fCons (fVar 3) fNil)))) (fOrT (fB (fOp gLt (fVar 3) (fC (.int 0)))) (fB (fOp gGe (fVar 3) (fVar 2))))) (fRet (fC (.bl false))) fNext)
def p2_b_is_begun : FS := (fRet (fC (.bl true)))
def p3_b_is_begun : FS := (fSeq (fFor (fwZip (fCons (fVar 0) (fCons (fVar 1) fNil))) (fgSeq 2 (fgCons (fName 2) (fgCons (fName 3) fgNil))) p1_b_is_begun)
  p2_b_is_begun)
def f_b_is_begun : FS := (fSeq (fIf (fOrT (fNotT (fB (fCall gIsi (fCons (fVar 1) (fCons (fC (.ty "tuple")) fNil))))) (fB (fOp gGt (fCall gLen (fCons (fVar 1) fNil)) (fCall gLen (fCons (fVar 0) fNil))))) (fRet (fC (.bl false))) fNext)
  p3_b_is_begun)
def m_b_is_begun : FN := fDef 2 4 f_b_is_begun
abbrev s_b_bent : Stmt := top 35
abbrev N_b_bent : List Str := ["tape", "ways", "choosing", "far", "at", "found", "many", "odd"]
def p1_b_bent : FS := (fSeq (fAsg (fOp gCatL (fVar 5) (fLst (fCons (fOp gCatT (fOp gCatT (fSl (fVar 2) fNoP (fSomeP (fVar 4))) (fTup (fCons (fVar 7) fNil))) (fSl (fVar 2) (fSomeP (fOp gAdd (fVar 4) (fC (.int 1)))) fNoP)) (fCons (fOp gCatT (fOp gCatT (fSl (fVar 2) fNoP (fSomeP (fVar 4))) (fTup (fCons (fVar 7) fNil))) (fSl (fVar 2) (fSomeP (fVar 4)) fNoP)) fNil)))) (fName 5))
  (fDrop (fMethV gAppend 5 (fCons (fOp gCatT (fSl (fVar 2) fNoP (fSomeP (fVar 4))) (fTup (fCons (fVar 7) fNil))) fNil))))
def p2_b_bent : FS := (fRet (fVar 5))
def f_b_bent : FS := (fSeq (fAsg (fCall m_b_take (fCons (fVar 0) (fCons (fOp gPow (fC (.int 10)) (fC (.int 20))) fNil))) (fName 3))
  (fSeq (fAsg (fCall m_b_take (fCons (fVar 0) (fCons (fOp gAdd (fCall gLen (fCons (fVar 2) fNil)) (fC (.int 1))) fNil))) (fName 4))
  (fSeq (fAsg (fLc (fRng1 (fCons (fOp gAdd (fCall gLen (fCons (fVar 2) fNil)) (fC (.int 1))) fNil)) (fName 6) fYes (fSl (fVar 2) fNoP (fSomeP (fVar 6))) [6]) (fName 5))
  (fSeq (fAsg (fOp gCatL (fVar 5) (fLst (fCons (fCall gList (fCons (fVar 2) fNil)) (fCons (fOp gCatT (fVar 2) (fTup (fCons (fC (.int 0)) fNil))) (fCons (fRev (fVar 2) (fNeg (fC (.int 1)))) (fCons (fTup (fCons (fVar 2) fNil)) (fCons (fC .non) (fCons (fC (.str "")) (fCons (fC (.str "0")) (fCons (fC (.int 0)) (fCons (fC (.bl true)) (fCons fDic (fCons (fTup fNil) (fCons (fLst fNil) fNil)))))))))))))) (fName 5))
  (fSeq (fFor (fwSeq (fLst (fCons (fC (.int 0)) (fCons (fC (.int 1)) (fCons (fC (.int 2)) (fCons (fC (.int 3)) (fCons (fC (.int 4)) (fCons (fOp gAdd (fC (.int 4)) (fVar 3)) (fCons (fNeg (fC (.int 1))) (fCons (fOp gSub' (fNeg (fC (.int 1))) (fVar 3)) (fCons (fC (.bl true)) (fCons (fC (.bl false)) (fCons (fC .non) (fCons (fC (.str "0")) (fCons (fTup (fCons (fC (.int 0)) fNil)) (fCons (fLst (fCons (fC (.int 0)) fNil)) (fCons fDic (fCons (fC (.str "")) fNil)))))))))))))))))) (fName 7) p1_b_bent)
  p2_b_bent)))))
def m_b_bent : FN := fDef 3 8 f_b_bent
abbrev s_law : Stmt := top 36
abbrev N_law : List Str := ["script", "tape", "k", "sheet", "ways", "choosing", "things", "turn", "thing", "kept", "due", "found", "one"]
def p1_law : FS := (fIf (fB (fOp (gEqD true) (fVar 11) (fLst (fCons (fVar 10) (fCons (fAndV (fVar 10) (fOp (gEqD false) (fCall gLen (fCons (fVar 8) fNil)) (fCall gLen (fCons (fVar 4) fNil)))) fNil))))) (fRet (fC (.bl false))) fNext)
def p2_law : FS := (fSeq (fAsg (fCall gRepr (fCons (fVar 8) fNil)) (fName 9))
  (fSeq (fAsg (fCall m_b_is_begun (fCons (fVar 4) (fCons (fVar 8) fNil))) (fName 10))
  (fSeq (fAsg (fLst (fCons (fCall m_is_begun (fCons (fVar 3) (fCons (fVar 8) fNil))) (fCons (fCall m_is_choosing (fCons (fVar 3) (fCons (fVar 8) fNil))) fNil))) (fName 11))
  (fSeq (fIf (fOrT (fNotT (fB (fCall (gAllAny fun bs => bs.all id) (fCons (fLc (fwSeq (fVar 11)) (fName 12) fYes (fCall gIsi (fCons (fVar 12) (fCons (fC (.ty "bool")) fNil))) [12]) fNil)))) (fB (fOp (gEqD true) (fCall gRepr (fCons (fVar 8) fNil)) (fVar 9)))) (fRet (fC (.bl false))) fNext)
  p1_law))))
def p3_law : FS := (fFor (fwSeq (fVar 6)) (fName 8) p2_law)
def p4_law : FS := (fSeq (fAsg (fCall m_b_sheet (fCons (fVar 1) (fCons (fC (.int 10)) (fCons (fOp gIx (fLst (fCons (fC (.int 16)) (fCons (fC (.int 4)) (fCons (fC (.int 4)) fNil)))) (fVar 2)) fNil)))) (fName 3))
  (fSeq (fAsg (fOp gIx (fVar 3) (fC (.int 0))) (fName 4))
  (fSeq (fAsg (fCall m_b_choosing (fCons (fVar 1) (fCons (fVar 4) fNil))) (fName 5))
  (fSeq (fAsg (fCall m_b_bent (fCons (fVar 1) (fCons (fVar 4) (fCons (fVar 5) fNil)))) (fName 6))
  (fSeq (fIf (fB (fOp (gEqD false) (fVar 2) (fC (.int 0)))) (fAsg (fLc (fRng1 (fCons (fC (.int 20)) fNil)) (fName 7) fYes (fOp gIx (fVar 6) (fCall m_b_take (fCons (fVar 1) (fCons (fCall gLen (fCons (fVar 6) fNil)) fNil)))) [7]) (fName 6)) fNext)
  p3_law)))))
def p5_law : FS := (fSeq (fIf (fAndT (fB (fOp gGt (fVar 2) (fC (.int 1)))) (fB (fOp gGe (fOp gIx (fVar 1) (fC (.int 1))) (fCall gLen (fCons (fVar 0) fNil))))) fBreak fNext)
  p4_law)
def p6_law : FS := (fRet (fC (.bl true)))
def f_law : FS := (fSeq (fAsg (fLst (fCons (fVar 0) (fCons (fC (.int 0)) (fCons (fC (.int 0)) fNil)))) (fName 1))
  (fSeq (fFor (fRng1 (fCons (fC (.int 3)) fNil)) (fName 2) p5_law)
  p6_law))
def m_law : FN := fDef 1 13 f_law
end G
namespace G
open PySem PySem.Spec L2 F
structure Txt (K : PySem.W.Frag) (mg : Str → Option Value) : Prop where
  n_all : mg "all" = none
  n_bool : mg "bool" = none
  n_int : mg "int" = none
  n_isinstance : mg "isinstance" = none
  n_len : mg "len" = none
  n_list : mg "list" = none
  n_range : mg "range" = none
  n_repr : mg "repr" = none
  n_tuple : mg "tuple" = none
  n_zip : mg "zip" = none
  g_KINDS : TxG K mg "KINDS" ["all", "some"]
  g_MOST_PLACES : ∃ t, mg "MOST_PLACES" = some (.int 10 t)
  g_MOST_WAYS : ∃ t, mg "MOST_WAYS" = some (.int 4 t)
  g_MOST_WEIGHT : ∃ t, mg "MOST_WEIGHT" = some (.int 99 t)
  g_MOST_WISHES : ∃ t, mg "MOST_WISHES" = some (.int 16 t)
section
variable {P : Program} {w : World} {K : PySem.W.Frag} {mg : Str → Option Value} {base : Heap}
theorem sc_is_whole : FnScope N_is_whole ["thing"] (defScope s_is_whole) := ⟨rfl, rfl, rfl, by decide +kernel, rfl, by decide +kernel, by decide +kernel⟩
theorem ok_is_whole {f : Addr} {fd : FuncData} (T : Txt K mg) (F : Fun K "is_whole" "is_whole" s_is_whole f fd) (hm : mg "is_whole" = some (.ref f))  : FnF P w K mg base 1 "is_whole" ["thing"] m_is_whole := by
  refine fnf_at (fb := f_is_whole) F sc_is_whole hm (F.binds fun _ _ _ _ _ _ us hl => match us, hl with | [_], _ => by kernel_rfl) rfl rfl fun cdv A outer s H E hr => ?_
  conv => arg 2; whnf
  conv => arg 1; arg 1; arg 9; whnf
  exact (sss_one (ss_ret (se_and (se_isi T.n_isinstance (sa_cons (se_var 0) (sa_cons (se_ty "int" T.n_int (by decide +kernel)) sa_nil))) (se_one (se_not (se_isi T.n_isinstance (sa_cons (se_var 0) (sa_cons (se_ty "bool" T.n_bool (by decide +kernel)) sa_nil))))))))
theorem sc_is_within : FnScope N_is_within ["thing", "low", "high"] (defScope s_is_within) := ⟨rfl, rfl, rfl, by decide +kernel, rfl, by decide +kernel, by decide +kernel⟩
theorem ok_is_within {f : Addr} {fd : FuncData} (T : Txt K mg) (F : Fun K "is_within" "is_within" s_is_within f fd) (hm : mg "is_within" = some (.ref f)) (G_is_whole : FnF P w K mg base 1 "is_whole" ["thing"] m_is_whole) : FnF P w K mg base 2 "is_within" ["thing", "low", "high"] m_is_within := by
  refine fnf_at (fb := f_is_within) F sc_is_within hm (F.binds fun _ _ _ _ _ _ us hl => match us, hl with | [_, _, _], _ => by kernel_rfl) rfl rfl fun cdv A outer s H E hr => ?_
  conv => arg 2; whnf
  conv => arg 1; arg 1; arg 9; whnf
  exact (sss_one (ss_ret (se_and (se_call G_is_whole (hr.mono (by decide)) (sa_cons (se_var 0) sa_nil)) (se_one (se_chain_le_le (se_var 1) (se_var 0) (se_var 2))))))
theorem sc_is_tuple_of : FnScope N_is_tuple_of ["thing", "many"] (defScope s_is_tuple_of) := ⟨rfl, rfl, rfl, by decide +kernel, rfl, by decide +kernel, by decide +kernel⟩
theorem ok_is_tuple_of {f : Addr} {fd : FuncData} (T : Txt K mg) (F : Fun K "is_tuple_of" "is_tuple_of" s_is_tuple_of f fd) (hm : mg "is_tuple_of" = some (.ref f))  : FnF P w K mg base 1 "is_tuple_of" ["thing", "many"] m_is_tuple_of := by
  refine fnf_at (fb := f_is_tuple_of) F sc_is_tuple_of hm (F.binds fun _ _ _ _ _ _ us hl => match us, hl with | [_, _], _ => by kernel_rfl) rfl rfl fun cdv A outer s H E hr => ?_
  conv => arg 2; whnf
  conv => arg 1; arg 1; arg 9; whnf
  exact (sss_one (ss_ret (se_and (se_isi T.n_isinstance (sa_cons (se_var 0) (sa_cons (se_ty "tuple" T.n_tuple (by decide +kernel)) sa_nil))) (se_one (se_eq hr (se_len T.n_len (sa_cons (se_var 0) sa_nil)) (se_var 1))))))
theorem sc_are_rising : FnScope N_are_rising ["numbers"] (defScope s_are_rising) := ⟨rfl, rfl, rfl, by decide +kernel, rfl, by decide +kernel, by decide +kernel⟩
theorem ok_are_rising {f : Addr} {fd : FuncData} (T : Txt K mg) (F : Fun K "are_rising" "are_rising" s_are_rising f fd) (hm : mg "are_rising" = some (.ref f))  : FnF P w K mg base 1 "are_rising" ["numbers"] m_are_rising := by
  refine fnf_at (fb := f_are_rising) F sc_are_rising hm (F.binds fun _ _ _ _ _ _ us hl => match us, hl with | [_], _ => by kernel_rfl) rfl rfl fun cdv A outer s H E hr => ?_
  conv => arg 2; whnf
  conv => arg 1; arg 1; arg 9; whnf
  exact (sss_one (ss_ret (se_all T.n_all (sa_cons (se_lc [1, 2] [("one", 1), ("other", 2)] sc_are_rising.nd (si_zip T.n_zip (sa_cons (se_var 0) (sa_cons (se_slice (se_var 0) (sp_some se_int) sp_none) sa_nil))) (blkOk_by (own := [("one", 1), ("other", 2)]) (N := N_are_rising) (sc := defScope s_are_rising) (by decide +kernel)) (fun _ _ _ _ _ => (sg_seq (sgs_cons (sg_name 1 sc_are_rising.nd) (sgs_cons (sg_name 2 sc_are_rising.nd) sgs_nil)))) (fun _ _ _ _ _ => sts_nil) (fun _ _ _ _ _ => (se_lt (se_var 1) (se_var 2)))) sa_nil))))
theorem sc_are_rising_below : FnScope N_are_rising_below ["thing", "many"] (defScope s_are_rising_below) := ⟨rfl, rfl, rfl, by decide +kernel, rfl, by decide +kernel, by decide +kernel⟩
theorem ok_are_rising_below {f : Addr} {fd : FuncData} (T : Txt K mg) (F : Fun K "are_rising_below" "are_rising_below" s_are_rising_below f fd) (hm : mg "are_rising_below" = some (.ref f)) (G_is_within : FnF P w K mg base 2 "is_within" ["thing", "low", "high"] m_is_within) (G_are_rising : FnF P w K mg base 1 "are_rising" ["numbers"] m_are_rising) : FnF P w K mg base 3 "are_rising_below" ["thing", "many"] m_are_rising_below := by
  refine fnf_at (fb := f_are_rising_below) F sc_are_rising_below hm (F.binds fun _ _ _ _ _ _ us hl => match us, hl with | [_, _], _ => by kernel_rfl) rfl rfl fun cdv A outer s H E hr => ?_
  conv => arg 2; whnf
  conv => arg 1; arg 1; arg 9; whnf
  exact (sss_cons (ss_if (st_not (st_val (se_isi T.n_isinstance (sa_cons (se_var 0) (sa_cons (se_ty "tuple" T.n_tuple (by decide +kernel)) sa_nil))))) (sss_one (ss_ret se_bl)) sss_nil)
  (sss_one (ss_ret (se_and (se_all T.n_all (sa_cons (se_lc [2] [("one", 2)] sc_are_rising_below.nd (si_seq (se_var 0)) (blkOk_by (own := [("one", 2)]) (N := N_are_rising_below) (sc := defScope s_are_rising_below) (by decide +kernel)) (fun _ _ _ _ _ => (sg_name 2 sc_are_rising_below.nd)) (fun _ _ _ _ _ => sts_nil) (fun _ _ _ _ _ => (se_call G_is_within (hr.mono (by decide)) (sa_cons (se_var 2) (sa_cons se_int (sa_cons (se_sub (se_var 1) se_int) sa_nil)))))) sa_nil)) (se_one (se_call G_are_rising (hr.mono (by decide)) (sa_cons (se_var 0) sa_nil)))))))
theorem sc_are_ways : FnScope N_are_ways ["thing"] (defScope s_are_ways) := ⟨rfl, rfl, rfl, by decide +kernel, rfl, by decide +kernel, by decide +kernel⟩
theorem ok_are_ways {f : Addr} {fd : FuncData} (T : Txt K mg) (F : Fun K "are_ways" "are_ways" s_are_ways f fd) (hm : mg "are_ways" = some (.ref f)) (G_is_within : FnF P w K mg base 2 "is_within" ["thing", "low", "high"] m_is_within) : FnF P w K mg base 3 "are_ways" ["thing"] m_are_ways := by
  refine fnf_at (fb := f_are_ways) F sc_are_ways hm (F.binds fun _ _ _ _ _ _ us hl => match us, hl with | [_], _ => by kernel_rfl) rfl rfl fun cdv A outer s H E hr => ?_
  conv => arg 2; whnf
  conv => arg 1; arg 1; arg 9; whnf
  exact (sss_cons (ss_if ((sw_or (st_not (st_val (se_isi T.n_isinstance (sa_cons (se_var 0) (sa_cons (se_ty "tuple" T.n_tuple (by decide +kernel)) sa_nil))))) (sw_or1 (st_gt (se_len T.n_len (sa_cons (se_var 0) sa_nil)) (se_globE T.g_MOST_PLACES))))).st (sss_one (ss_ret se_bl)) sss_nil)
  (sss_one (ss_ret (se_all T.n_all (sa_cons (se_lc [1] [("many", 1)] sc_are_ways.nd (si_seq (se_var 0)) (blkOk_by (own := [("many", 1)]) (N := N_are_ways) (sc := defScope s_are_ways) (by decide +kernel)) (fun _ _ _ _ _ => (sg_name 1 sc_are_ways.nd)) (fun _ _ _ _ _ => sts_nil) (fun _ _ _ _ _ => (se_call G_is_within (hr.mono (by decide)) (sa_cons (se_var 1) (sa_cons se_int (sa_cons (se_globE T.g_MOST_WAYS) sa_nil)))))) sa_nil)))))
theorem sc_is_part : FnScope N_is_part ["ways", "thing"] (defScope s_is_part) := ⟨rfl, rfl, rfl, by decide +kernel, rfl, by decide +kernel, by decide +kernel⟩
theorem ok_is_part {f : Addr} {fd : FuncData} (T : Txt K mg) (F : Fun K "is_part" "is_part" s_is_part f fd) (hm : mg "is_part" = some (.ref f)) (G_is_within : FnF P w K mg base 2 "is_within" ["thing", "low", "high"] m_is_within) (G_is_tuple_of : FnF P w K mg base 1 "is_tuple_of" ["thing", "many"] m_is_tuple_of) (G_are_rising_below : FnF P w K mg base 3 "are_rising_below" ["thing", "many"] m_are_rising_below) : FnF P w K mg base 4 "is_part" ["ways", "thing"] m_is_part := by
  refine fnf_at (fb := f_is_part) F sc_is_part hm (F.binds fun _ _ _ _ _ _ us hl => match us, hl with | [_, _], _ => by kernel_rfl) rfl rfl fun cdv A outer s H E hr => ?_
  conv => arg 2; whnf
  conv => arg 1; arg 1; arg 9; whnf
  exact (sss_cons (ss_if (st_not (st_val (se_call G_is_tuple_of (hr.mono (by decide)) (sa_cons (se_var 1) (sa_cons se_int sa_nil))))) (sss_one (ss_ret se_bl)) sss_nil)
  (sss_cons (ss_asg (se_var 1) (sg_seq (sgs_cons (sg_name 2 sc_is_part.nd) (sgs_cons (sg_name 3 sc_is_part.nd) sgs_nil))))
  (sss_one (ss_ret (se_and (se_call G_is_within (hr.mono (by decide)) (sa_cons (se_var 2) (sa_cons se_int (sa_cons (se_sub (se_len T.n_len (sa_cons (se_var 0) sa_nil)) se_int) sa_nil)))) (se_one (se_call G_are_rising_below (hr.mono (by decide)) (sa_cons (se_var 3) (sa_cons (se_item (se_var 0) (se_var 2)) sa_nil)))))))))
theorem sc_are_parts : FnScope N_are_parts ["ways", "thing"] (defScope s_are_parts) := ⟨rfl, rfl, rfl, by decide +kernel, rfl, by decide +kernel, by decide +kernel⟩
theorem ok_are_parts {f : Addr} {fd : FuncData} (T : Txt K mg) (F : Fun K "are_parts" "are_parts" s_are_parts f fd) (hm : mg "are_parts" = some (.ref f)) (G_are_rising : FnF P w K mg base 1 "are_rising" ["numbers"] m_are_rising) (G_is_part : FnF P w K mg base 4 "is_part" ["ways", "thing"] m_is_part) : FnF P w K mg base 5 "are_parts" ["ways", "thing"] m_are_parts := by
  refine fnf_at (fb := f_are_parts) F sc_are_parts hm (F.binds fun _ _ _ _ _ _ us hl => match us, hl with | [_, _], _ => by kernel_rfl) rfl rfl fun cdv A outer s H E hr => ?_
  conv => arg 2; whnf
  conv => arg 1; arg 1; arg 9; whnf
  exact (sss_cons (ss_if ((sw_or (st_not (st_val (se_isi T.n_isinstance (sa_cons (se_var 1) (sa_cons (se_ty "tuple" T.n_tuple (by decide +kernel)) sa_nil))))) (sw_or1 (st_not (st_val (se_all T.n_all (sa_cons (se_lc [2] [("part", 2)] sc_are_parts.nd (si_seq (se_var 1)) (blkOk_by (own := [("part", 2)]) (N := N_are_parts) (sc := defScope s_are_parts) (by decide +kernel)) (fun _ _ _ _ _ => (sg_name 2 sc_are_parts.nd)) (fun _ _ _ _ _ => sts_nil) (fun _ _ _ _ _ => (se_call G_is_part (hr.mono (by decide)) (sa_cons (se_var 0) (sa_cons (se_var 2) sa_nil))))) sa_nil))))))).st (sss_one (ss_ret se_bl)) sss_nil)
  (sss_one (ss_ret (se_call G_are_rising (hr.mono (by decide)) (sa_cons (se_lc [3, 4] [("place", 3), ("some", 4)] sc_are_parts.nd (si_seq (se_var 1)) (blkOk_by (own := [("place", 3), ("some", 4)]) (N := N_are_parts) (sc := defScope s_are_parts) (by decide +kernel)) (fun _ _ _ _ _ => (sg_seq (sgs_cons (sg_name 3 sc_are_parts.nd) (sgs_cons (sg_name 4 sc_are_parts.nd) sgs_nil)))) (fun _ _ _ _ _ => sts_nil) (fun _ _ _ _ _ => (se_var 3))) sa_nil)))))
theorem sc_is_wish : FnScope N_is_wish ["ways", "thing"] (defScope s_is_wish) := ⟨rfl, rfl, rfl, by decide +kernel, rfl, by decide +kernel, by decide +kernel⟩
theorem ok_is_wish {f : Addr} {fd : FuncData} (T : Txt K mg) (F : Fun K "is_wish" "is_wish" s_is_wish f fd) (hm : mg "is_wish" = some (.ref f)) (G_is_within : FnF P w K mg base 2 "is_within" ["thing", "low", "high"] m_is_within) (G_is_tuple_of : FnF P w K mg base 1 "is_tuple_of" ["thing", "many"] m_is_tuple_of) (G_are_parts : FnF P w K mg base 5 "are_parts" ["ways", "thing"] m_are_parts) : FnF P w K mg base 6 "is_wish" ["ways", "thing"] m_is_wish := by
  refine fnf_at (fb := f_is_wish) F sc_is_wish hm (F.binds fun _ _ _ _ _ _ us hl => match us, hl with | [_, _], _ => by kernel_rfl) rfl rfl fun cdv A outer s H E hr => ?_
  conv => arg 2; whnf
  conv => arg 1; arg 1; arg 9; whnf
  exact (sss_cons (ss_if (st_not (st_val (se_call G_is_tuple_of (hr.mono (by decide)) (sa_cons (se_var 1) (sa_cons se_int sa_nil))))) (sss_one (ss_ret se_bl)) sss_nil)
  (sss_cons (ss_asg (se_var 1) (sg_seq (sgs_cons (sg_name 2 sc_is_wish.nd) (sgs_cons (sg_name 3 sc_is_wish.nd) (sgs_cons (sg_name 4 sc_is_wish.nd) sgs_nil)))))
  (sss_one (ss_ret (se_and (se_inC T.g_KINDS (se_var 2)) (se_and (se_call G_is_within (hr.mono (by decide)) (sa_cons (se_var 3) (sa_cons se_int (sa_cons (se_globE T.g_MOST_WEIGHT) sa_nil)))) (se_one (se_call G_are_parts (hr.mono (by decide)) (sa_cons (se_var 0) (sa_cons (se_var 4) sa_nil))))))))))
theorem sc_are_wishes : FnScope N_are_wishes ["ways", "thing"] (defScope s_are_wishes) := ⟨rfl, rfl, rfl, by decide +kernel, rfl, by decide +kernel, by decide +kernel⟩
theorem ok_are_wishes {f : Addr} {fd : FuncData} (T : Txt K mg) (F : Fun K "are_wishes" "are_wishes" s_are_wishes f fd) (hm : mg "are_wishes" = some (.ref f)) (G_is_wish : FnF P w K mg base 6 "is_wish" ["ways", "thing"] m_is_wish) : FnF P w K mg base 7 "are_wishes" ["ways", "thing"] m_are_wishes := by
  refine fnf_at (fb := f_are_wishes) F sc_are_wishes hm (F.binds fun _ _ _ _ _ _ us hl => match us, hl with | [_, _], _ => by kernel_rfl) rfl rfl fun cdv A outer s H E hr => ?_
  conv => arg 2; whnf
  conv => arg 1; arg 1; arg 9; whnf
  exact (sss_cons (ss_if ((sw_or (st_not (st_val (se_isi T.n_isinstance (sa_cons (se_var 1) (sa_cons (se_ty "tuple" T.n_tuple (by decide +kernel)) sa_nil))))) (sw_or1 (st_gt (se_len T.n_len (sa_cons (se_var 1) sa_nil)) (se_globE T.g_MOST_WISHES))))).st (sss_one (ss_ret se_bl)) sss_nil)
  (sss_one (ss_ret (se_all T.n_all (sa_cons (se_lc [2] [("wish", 2)] sc_are_wishes.nd (si_seq (se_var 1)) (blkOk_by (own := [("wish", 2)]) (N := N_are_wishes) (sc := defScope s_are_wishes) (by decide +kernel)) (fun _ _ _ _ _ => (sg_name 2 sc_are_wishes.nd)) (fun _ _ _ _ _ => sts_nil) (fun _ _ _ _ _ => (se_call G_is_wish (hr.mono (by decide)) (sa_cons (se_var 0) (sa_cons (se_var 2) sa_nil))))) sa_nil)))))
theorem sc_is_sheet : FnScope N_is_sheet ["thing"] (defScope s_is_sheet) := ⟨rfl, rfl, rfl, by decide +kernel, rfl, by decide +kernel, by decide +kernel⟩
theorem ok_is_sheet {f : Addr} {fd : FuncData} (T : Txt K mg) (F : Fun K "is_sheet" "is_sheet" s_is_sheet f fd) (hm : mg "is_sheet" = some (.ref f)) (G_is_tuple_of : FnF P w K mg base 1 "is_tuple_of" ["thing", "many"] m_is_tuple_of) (G_are_ways : FnF P w K mg base 3 "are_ways" ["thing"] m_are_ways) (G_are_wishes : FnF P w K mg base 7 "are_wishes" ["ways", "thing"] m_are_wishes) : FnF P w K mg base 8 "is_sheet" ["thing"] m_is_sheet := by
  refine fnf_at (fb := f_is_sheet) F sc_is_sheet hm (F.binds fun _ _ _ _ _ _ us hl => match us, hl with | [_], _ => by kernel_rfl) rfl rfl fun cdv A outer s H E hr => ?_
  conv => arg 2; whnf
  conv => arg 1; arg 1; arg 9; whnf
  exact (sss_cons (ss_if (st_not (st_val (se_call G_is_tuple_of (hr.mono (by decide)) (sa_cons (se_var 0) (sa_cons se_int sa_nil))))) (sss_one (ss_ret se_bl)) sss_nil)
  (sss_cons (ss_asg (se_var 0) (sg_seq (sgs_cons (sg_name 1 sc_is_sheet.nd) (sgs_cons (sg_name 2 sc_is_sheet.nd) sgs_nil))))
  (sss_one (ss_ret (se_and (se_call G_are_ways (hr.mono (by decide)) (sa_cons (se_var 1) sa_nil)) (se_one (se_call G_are_wishes (hr.mono (by decide)) (sa_cons (se_var 1) (sa_cons (se_var 2) sa_nil)))))))))
theorem sc_are_first_ways : FnScope N_are_first_ways ["ways", "thing"] (defScope s_are_first_ways) := ⟨rfl, rfl, rfl, by decide +kernel, rfl, by decide +kernel, by decide +kernel⟩
theorem ok_are_first_ways {f : Addr} {fd : FuncData} (T : Txt K mg) (F : Fun K "are_first_ways" "are_first_ways" s_are_first_ways f fd) (hm : mg "are_first_ways" = some (.ref f)) (G_is_within : FnF P w K mg base 2 "is_within" ["thing", "low", "high"] m_is_within) : FnF P w K mg base 3 "are_first_ways" ["ways", "thing"] m_are_first_ways := by
  refine fnf_at (fb := f_are_first_ways) F sc_are_first_ways hm (F.binds fun _ _ _ _ _ _ us hl => match us, hl with | [_, _], _ => by kernel_rfl) rfl rfl fun cdv A outer s H E hr => ?_
  conv => arg 2; whnf
  conv => arg 1; arg 1; arg 9; whnf
  exact (sss_cons (ss_if ((sw_or (st_not (st_val (se_isi T.n_isinstance (sa_cons (se_var 1) (sa_cons (se_ty "tuple" T.n_tuple (by decide +kernel)) sa_nil))))) (sw_or1 (st_gt (se_len T.n_len (sa_cons (se_var 1) sa_nil)) (se_len T.n_len (sa_cons (se_var 0) sa_nil)))))).st (sss_one (ss_ret se_bl)) sss_nil)
  (sss_one (ss_ret (se_all T.n_all (sa_cons (se_lc [2, 3] [("way", 2), ("many", 3)] sc_are_first_ways.nd (si_zip T.n_zip (sa_cons (se_var 1) (sa_cons (se_var 0) sa_nil))) (blkOk_by (own := [("way", 2), ("many", 3)]) (N := N_are_first_ways) (sc := defScope s_are_first_ways) (by decide +kernel)) (fun _ _ _ _ _ => (sg_seq (sgs_cons (sg_name 2 sc_are_first_ways.nd) (sgs_cons (sg_name 3 sc_are_first_ways.nd) sgs_nil)))) (fun _ _ _ _ _ => sts_nil) (fun _ _ _ _ _ => (se_call G_is_within (hr.mono (by decide)) (sa_cons (se_var 2) (sa_cons se_int (sa_cons (se_sub (se_var 3) se_int) sa_nil)))))) sa_nil)))))
theorem sc_are_all_ways : FnScope N_are_all_ways ["ways", "thing"] (defScope s_are_all_ways) := ⟨rfl, rfl, rfl, by decide +kernel, rfl, by decide +kernel, by decide +kernel⟩
theorem ok_are_all_ways {f : Addr} {fd : FuncData} (T : Txt K mg) (F : Fun K "are_all_ways" "are_all_ways" s_are_all_ways f fd) (hm : mg "are_all_ways" = some (.ref f)) (G_is_tuple_of : FnF P w K mg base 1 "is_tuple_of" ["thing", "many"] m_is_tuple_of) (G_are_first_ways : FnF P w K mg base 3 "are_first_ways" ["ways", "thing"] m_are_first_ways) : FnF P w K mg base 4 "are_all_ways" ["ways", "thing"] m_are_all_ways := by
  refine fnf_at (fb := f_are_all_ways) F sc_are_all_ways hm (F.binds fun _ _ _ _ _ _ us hl => match us, hl with | [_, _], _ => by kernel_rfl) rfl rfl fun cdv A outer s H E hr => ?_
  conv => arg 2; whnf
  conv => arg 1; arg 1; arg 9; whnf
  exact (sss_one (ss_ret (se_and (se_call G_is_tuple_of (hr.mono (by decide)) (sa_cons (se_var 1) (sa_cons (se_len T.n_len (sa_cons (se_var 0) sa_nil)) sa_nil))) (se_one (se_call G_are_first_ways (hr.mono (by decide)) (sa_cons (se_var 0) (sa_cons (se_var 1) sa_nil)))))))
theorem sc_need_sheet : FnScope N_need_sheet ["thing"] (defScope s_need_sheet) := ⟨rfl, rfl, rfl, by decide +kernel, rfl, by decide +kernel, by decide +kernel⟩
theorem ok_need_sheet {f : Addr} {fd : FuncData} (T : Txt K mg) (F : Fun K "need_sheet" "need_sheet" s_need_sheet f fd) (hm : mg "need_sheet" = some (.ref f)) (G_is_sheet : FnF P w K mg base 8 "is_sheet" ["thing"] m_is_sheet) : FnF P w K mg base 9 "need_sheet" ["thing"] m_need_sheet := by
  refine fnf_at (fb := f_need_sheet) F sc_need_sheet hm (F.binds fun _ _ _ _ _ _ us hl => match us, hl with | [_], _ => by kernel_rfl) rfl rfl fun cdv A outer s H E hr => ?_
  conv => arg 2; whnf
  conv => arg 1; arg 1; arg 9; whnf
  exact (sss_one (ss_if (st_not (st_val (se_call G_is_sheet (hr.mono (by decide)) (sa_cons (se_var 0) sa_nil)))) (sss_one ss_never) sss_nil))
theorem sc_is_begun : FnScope N_is_begun ["sheet", "thing"] (defScope s_is_begun) := ⟨rfl, rfl, rfl, by decide +kernel, rfl, by decide +kernel, by decide +kernel⟩
theorem ok_is_begun {f : Addr} {fd : FuncData} (T : Txt K mg) (F : Fun K "is_begun" "is_begun" s_is_begun f fd) (hm : mg "is_begun" = some (.ref f)) (G_are_first_ways : FnF P w K mg base 3 "are_first_ways" ["ways", "thing"] m_are_first_ways) (G_need_sheet : FnF P w K mg base 9 "need_sheet" ["thing"] m_need_sheet) : FnF P w K mg base 10 "is_begun" ["sheet", "thing"] m_is_begun := by
  refine fnf_at (fb := f_is_begun) F sc_is_begun hm (F.binds fun _ _ _ _ _ _ us hl => match us, hl with | [_, _], _ => by kernel_rfl) rfl rfl fun cdv A outer s H E hr => ?_
  conv => arg 2; whnf
  conv => arg 1; arg 1; arg 9; whnf
  exact (sss_cons (ss_expr (se_call G_need_sheet (hr.mono (by decide)) (sa_cons (se_var 0) sa_nil)))
  (sss_one (ss_ret (se_call G_are_first_ways (hr.mono (by decide)) (sa_cons (se_item (se_var 0) se_int) (sa_cons (se_var 1) sa_nil))))))
theorem sc_is_choosing : FnScope N_is_choosing ["sheet", "thing"] (defScope s_is_choosing) := ⟨rfl, rfl, rfl, by decide +kernel, rfl, by decide +kernel, by decide +kernel⟩
theorem ok_is_choosing {f : Addr} {fd : FuncData} (T : Txt K mg) (F : Fun K "is_choosing" "is_choosing" s_is_choosing f fd) (hm : mg "is_choosing" = some (.ref f)) (G_are_all_ways : FnF P w K mg base 4 "are_all_ways" ["ways", "thing"] m_are_all_ways) (G_need_sheet : FnF P w K mg base 9 "need_sheet" ["thing"] m_need_sheet) : FnF P w K mg base 10 "is_choosing" ["sheet", "thing"] m_is_choosing := by
  refine fnf_at (fb := f_is_choosing) F sc_is_choosing hm (F.binds fun _ _ _ _ _ _ us hl => match us, hl with | [_, _], _ => by kernel_rfl) rfl rfl fun cdv A outer s H E hr => ?_
  conv => arg 2; whnf
  conv => arg 1; arg 1; arg 9; whnf
  exact (sss_cons (ss_expr (se_call G_need_sheet (hr.mono (by decide)) (sa_cons (se_var 0) sa_nil)))
  (sss_one (ss_ret (se_call G_are_all_ways (hr.mono (by decide)) (sa_cons (se_item (se_var 0) se_int) (sa_cons (se_var 1) sa_nil))))))
theorem sc_b_mixed : FnScope N_b_mixed ["cell", "at"] (defScope s_b_mixed) := ⟨rfl, rfl, rfl, by decide +kernel, rfl, by decide +kernel, by decide +kernel⟩
theorem ok_b_mixed {f : Addr} {fd : FuncData} (T : Txt K mg) (F : Fun K "_law_b_mixed" "_law_b_mixed" s_b_mixed f fd) (hm : mg "_law_b_mixed" = some (.ref f))  : FnF P w K mg base 1 "_law_b_mixed" ["cell", "at"] m_b_mixed := by
  refine fnf_at (fb := f_b_mixed) F sc_b_mixed hm (F.binds fun _ _ _ _ _ _ us hl => match us, hl with | [_, _], _ => by kernel_rfl) rfl rfl fun cdv A outer s H E hr => ?_
  conv => arg 2; whnf
  conv => arg 1; arg 1; arg 9; whnf
  exact (sss_cons (ss_if (st_ge (se_var 0) (se_pow se_int se_int)) (sss_one (ss_ret (se_var 0))) sss_nil)
  (sss_cons (ss_set 2 sc_b_mixed.nd (se_mod (se_add (se_add (se_mul (se_mod (se_var 0) se_int) se_int) (se_mul (se_var 1) se_int)) se_int) se_int))
  (sss_cons (ss_set 3 sc_b_mixed.nd (se_mod (se_add (se_add (se_mul (se_var 2) (se_var 2)) (se_mul se_int (se_var 1))) se_int) se_int))
  (sss_cons (ss_set 4 sc_b_mixed.nd (se_mod (se_add (se_add (se_mul (se_var 3) (se_var 3)) (se_mul se_int (se_var 2))) (se_var 1)) se_int))
  (sss_one (ss_ret (se_add (se_mul (se_var 3) se_int) (se_var 4))))))))
theorem sc_b_take : FnScope N_b_take ["tape", "many"] (defScope s_b_take) := ⟨rfl, rfl, rfl, by decide +kernel, rfl, by decide +kernel, by decide +kernel⟩
theorem ok_b_take {f : Addr} {fd : FuncData} (T : Txt K mg) (F : Fun K "_law_b_take" "_law_b_take" s_b_take f fd) (hm : mg "_law_b_take" = some (.ref f)) (G_b_mixed : FnF P w K mg base 1 "_law_b_mixed" ["cell", "at"] m_b_mixed) : FnF P w K mg base 2 "_law_b_take" ["tape", "many"] m_b_take := by
  refine fnf_at (fb := f_b_take) F sc_b_take hm (F.binds fun _ _ _ _ _ _ us hl => match us, hl with | [_, _], _ => by kernel_rfl) rfl rfl fun cdv A outer s H E hr => ?_
  conv => arg 2; whnf
  conv => arg 1; arg 1; arg 9; whnf
  exact (sss_cons (ss_if (st_lt (se_item (se_var 0) se_int) (se_var 1)) (sss_cons (ss_set 2 sc_b_take.nd (se_item (se_var 0) se_int))
  (sss_cons (ss_set 3 sc_b_take.nd (se_add (se_mul se_int (se_var 2)) se_int))
  (sss_cons (ss_if (st_lt (se_var 2) (se_len T.n_len (sa_cons (se_item (se_var 0) se_int) sa_nil))) (sss_one (ss_set 3 sc_b_take.nd (se_item (se_item (se_var 0) se_int) (se_var 2)))) (sss_one (ss_if (st_ne hr (se_item (se_var 0) se_int) (se_lst sa_nil)) (sss_one (ss_set 3 sc_b_take.nd (se_add (se_mod (se_item (se_item (se_var 0) se_int) (se_mod (se_mul (se_var 2) se_int) (se_len T.n_len (sa_cons (se_item (se_var 0) se_int) sa_nil)))) se_int) (se_mul (se_var 2) se_int)))) sss_nil)))
  (sss_cons (ss_asg (se_add (se_var 2) se_int) (sg_sub (se_var 0) se_int))
  (sss_one (ss_asg (se_call G_b_mixed (hr.mono (by decide)) (sa_cons (se_var 3) (sa_cons (se_var 2) sa_nil))) (sg_sub (se_var 0) se_int))))))) sss_nil)
  (sss_cons (ss_set 4 sc_b_take.nd (se_mod (se_item (se_var 0) se_int) (se_var 1)))
  (sss_cons (ss_asg (se_div (se_item (se_var 0) se_int) (se_var 1)) (sg_sub (se_var 0) se_int))
  (sss_one (ss_ret (se_var 4))))))
theorem sc_b_few : FnScope N_b_few ["tape", "many"] (defScope s_b_few) := ⟨rfl, rfl, rfl, by decide +kernel, rfl, by decide +kernel, by decide +kernel⟩
theorem ok_b_few {f : Addr} {fd : FuncData} (T : Txt K mg) (F : Fun K "_law_b_few" "_law_b_few" s_b_few f fd) (hm : mg "_law_b_few" = some (.ref f)) (G_b_take : FnF P w K mg base 2 "_law_b_take" ["tape", "many"] m_b_take) : FnF P w K mg base 3 "_law_b_few" ["tape", "many"] m_b_few := by
  refine fnf_at (fb := f_b_few) F sc_b_few hm (F.binds fun _ _ _ _ _ _ us hl => match us, hl with | [_, _], _ => by kernel_rfl) rfl rfl fun cdv A outer s H E hr => ?_
  conv => arg 2; whnf
  conv => arg 1; arg 1; arg 9; whnf
  exact (sss_cons (ss_set 2 sc_b_few.nd (se_call G_b_take (hr.mono (by decide)) (sa_cons (se_var 0) (sa_cons (se_item (se_lst (sa_cons se_int (sa_cons se_int (sa_cons se_int (sa_cons se_int sa_nil))))) (se_sub (se_var 1) se_int)) sa_nil))))
  (sss_one (ss_ret (se_tuple T.n_tuple (sa_cons (se_lc [3] [("way", 3)] sc_b_few.nd (si_rng1 T.n_range (sa_cons (se_var 1) sa_nil)) (blkOk_by (own := [("way", 3)]) (N := N_b_few) (sc := defScope s_b_few) (by decide +kernel)) (fun _ _ _ _ _ => (sg_name 3 sc_b_few.nd)) (fun _ _ _ _ _ => (sts_one (st_eq hr (se_mod (se_div (se_var 2) (se_item (se_lst (sa_cons se_int (sa_cons se_int (sa_cons se_int (sa_cons se_int sa_nil))))) (se_var 3))) se_int) se_int))) (fun _ _ _ _ _ => (se_var 3))) sa_nil)))))
theorem sc_b_wish : FnScope N_b_wish ["tape", "ways"] (defScope s_b_wish) := ⟨rfl, rfl, rfl, by decide +kernel, rfl, by decide +kernel, by decide +kernel⟩
theorem ok_b_wish {f : Addr} {fd : FuncData} (T : Txt K mg) (F : Fun K "_law_b_wish" "_law_b_wish" s_b_wish f fd) (hm : mg "_law_b_wish" = some (.ref f)) (G_b_take : FnF P w K mg base 2 "_law_b_take" ["tape", "many"] m_b_take) (G_b_few : FnF P w K mg base 3 "_law_b_few" ["tape", "many"] m_b_few) : FnF P w K mg base 4 "_law_b_wish" ["tape", "ways"] m_b_wish := by
  refine fnf_at (fb := f_b_wish) F sc_b_wish hm (F.binds fun _ _ _ _ _ _ us hl => match us, hl with | [_, _], _ => by kernel_rfl) rfl rfl fun cdv A outer s H E hr => ?_
  conv => arg 2; whnf
  conv => arg 1; arg 1; arg 9; whnf
  exact (sss_cons (ss_set 2 sc_b_wish.nd (se_item (se_lst (sa_cons se_str (sa_cons se_str sa_nil))) (se_call G_b_take (hr.mono (by decide)) (sa_cons (se_var 0) (sa_cons se_int sa_nil)))))
  (sss_cons (ss_set 3 sc_b_wish.nd (se_item (se_lst (sa_cons se_int (sa_cons se_int (sa_cons se_int (sa_cons (se_call G_b_take (hr.mono (by decide)) (sa_cons (se_var 0) (sa_cons se_int sa_nil))) (sa_cons (se_call G_b_take (hr.mono (by decide)) (sa_cons (se_var 0) (sa_cons se_int sa_nil))) sa_nil)))))) (se_call G_b_take (hr.mono (by decide)) (sa_cons (se_var 0) (sa_cons se_int sa_nil)))))
  (sss_cons (ss_set 4 sc_b_wish.nd (se_add se_int (se_call G_b_take (hr.mono (by decide)) (sa_cons (se_var 0) (sa_cons se_int sa_nil)))))
  (sss_cons (ss_setLc [6] [("place", 6)] sc_b_wish.nd (si_rng1 T.n_range (sa_cons (se_len T.n_len (sa_cons (se_var 1) sa_nil)) sa_nil)) (blkOk_by (own := [("place", 6)]) (N := N_b_wish) (sc := defScope s_b_wish) (by decide +kernel)) (fun _ _ _ _ _ => (sg_name 6 sc_b_wish.nd)) (fun _ _ _ _ _ => (sts_one (st_eq hr (se_call G_b_take (hr.mono (by decide)) (sa_cons (se_var 0) (sa_cons (se_var 4) sa_nil))) se_int))) (fun _ _ _ _ _ => (se_var 6)) (sw_true rfl rfl rfl (by decide +kernel)))
  (sss_one (ss_ret (se_tup (sa_cons (se_var 2) (sa_cons (se_var 3) (sa_cons (se_tuple T.n_tuple (sa_cons (se_lc [6] [("place", 6)] sc_b_wish.nd (si_seq (se_var 5)) (blkOk_by (own := [("place", 6)]) (N := N_b_wish) (sc := defScope s_b_wish) (by decide +kernel)) (fun _ _ _ _ _ => (sg_name 6 sc_b_wish.nd)) (fun _ _ _ _ _ => sts_nil) (fun _ _ _ _ _ => (se_tup (sa_cons (se_var 6) (sa_cons (se_call G_b_few (hr.mono (by decide)) (sa_cons (se_var 0) (sa_cons (se_item (se_var 1) (se_var 6)) sa_nil))) sa_nil))))) sa_nil)) sa_nil))))))))))
theorem sc_b_sheet : FnScope N_b_sheet ["tape", "places", "wishes"] (defScope s_b_sheet) := ⟨rfl, rfl, rfl, by decide +kernel, rfl, by decide +kernel, by decide +kernel⟩
theorem ok_b_sheet {f : Addr} {fd : FuncData} (T : Txt K mg) (F : Fun K "_law_b_sheet" "_law_b_sheet" s_b_sheet f fd) (hm : mg "_law_b_sheet" = some (.ref f)) (G_b_take : FnF P w K mg base 2 "_law_b_take" ["tape", "many"] m_b_take) (G_b_wish : FnF P w K mg base 4 "_law_b_wish" ["tape", "ways"] m_b_wish) : FnF P w K mg base 5 "_law_b_sheet" ["tape", "places", "wishes"] m_b_sheet := by
  refine fnf_at (fb := f_b_sheet) F sc_b_sheet hm (F.binds fun _ _ _ _ _ _ us hl => match us, hl with | [_, _, _], _ => by kernel_rfl) rfl rfl fun cdv A outer s H E hr => ?_
  conv => arg 2; whnf
  conv => arg 1; arg 1; arg 9; whnf
  exact (sss_cons (ss_set 3 sc_b_sheet.nd (se_call G_b_take (hr.mono (by decide)) (sa_cons (se_var 0) (sa_cons (se_add (se_var 1) se_int) sa_nil))))
  (sss_cons (ss_set 4 sc_b_sheet.nd (se_call G_b_take (hr.mono (by decide)) (sa_cons (se_var 0) (sa_cons se_int sa_nil))))
  (sss_cons (ss_set 5 sc_b_sheet.nd (se_mulT (se_tup (sa_cons (se_add se_int (se_var 4)) sa_nil)) (se_var 3)))
  (sss_cons (ss_if (st_gt (se_var 4) se_int) (sss_one (ss_set 5 sc_b_sheet.nd (se_tuple T.n_tuple (sa_cons (se_lc [6] [("place", 6)] sc_b_sheet.nd (si_rng1 T.n_range (sa_cons (se_var 3) sa_nil)) (blkOk_by (own := [("place", 6)]) (N := N_b_sheet) (sc := defScope s_b_sheet) (by decide +kernel)) (fun _ _ _ _ _ => (sg_name 6 sc_b_sheet.nd)) (fun _ _ _ _ _ => sts_nil) (fun _ _ _ _ _ => (se_add se_int (se_call G_b_take (hr.mono (by decide)) (sa_cons (se_var 0) (sa_cons se_int sa_nil)))))) sa_nil)))) sss_nil)
  (sss_one (ss_ret (se_tup (sa_cons (se_var 5) (sa_cons (se_tuple T.n_tuple (sa_cons (se_lc [7] [("turn", 7)] sc_b_sheet.nd (si_rng1 T.n_range (sa_cons (se_call G_b_take (hr.mono (by decide)) (sa_cons (se_var 0) (sa_cons (se_add (se_var 2) se_int) sa_nil))) sa_nil)) (blkOk_by (own := [("turn", 7)]) (N := N_b_sheet) (sc := defScope s_b_sheet) (by decide +kernel)) (fun _ _ _ _ _ => (sg_name 7 sc_b_sheet.nd)) (fun _ _ _ _ _ => sts_nil) (fun _ _ _ _ _ => (se_call G_b_wish (hr.mono (by decide)) (sa_cons (se_var 0) (sa_cons (se_var 5) sa_nil))))) sa_nil)) sa_nil)))))))))
theorem sc_b_choosing : FnScope N_b_choosing ["tape", "ways"] (defScope s_b_choosing) := ⟨rfl, rfl, rfl, by decide +kernel, rfl, by decide +kernel, by decide +kernel⟩
theorem ok_b_choosing {f : Addr} {fd : FuncData} (T : Txt K mg) (F : Fun K "_law_b_choosing" "_law_b_choosing" s_b_choosing f fd) (hm : mg "_law_b_choosing" = some (.ref f)) (G_b_take : FnF P w K mg base 2 "_law_b_take" ["tape", "many"] m_b_take) : FnF P w K mg base 3 "_law_b_choosing" ["tape", "ways"] m_b_choosing := by
  refine fnf_at (fb := f_b_choosing) F sc_b_choosing hm (F.binds fun _ _ _ _ _ _ us hl => match us, hl with | [_, _], _ => by kernel_rfl) rfl rfl fun cdv A outer s H E hr => ?_
  conv => arg 2; whnf
  conv => arg 1; arg 1; arg 9; whnf
  exact (sss_one (ss_ret (se_tuple T.n_tuple (sa_cons (se_lc [2] [("many", 2)] sc_b_choosing.nd (si_seq (se_var 1)) (blkOk_by (own := [("many", 2)]) (N := N_b_choosing) (sc := defScope s_b_choosing) (by decide +kernel)) (fun _ _ _ _ _ => (sg_name 2 sc_b_choosing.nd)) (fun _ _ _ _ _ => sts_nil) (fun _ _ _ _ _ => (se_call G_b_take (hr.mono (by decide)) (sa_cons (se_var 0) (sa_cons (se_var 2) sa_nil))))) sa_nil))))
theorem sc_b_whole : FnScope N_b_whole ["thing"] (defScope s_b_whole) := ⟨rfl, rfl, rfl, by decide +kernel, rfl, by decide +kernel, by decide +kernel⟩
theorem ok_b_whole {f : Addr} {fd : FuncData} (T : Txt K mg) (F : Fun K "_law_b_whole" "_law_b_whole" s_b_whole f fd) (hm : mg "_law_b_whole" = some (.ref f))  : FnF P w K mg base 1 "_law_b_whole" ["thing"] m_b_whole := by
  refine fnf_at (fb := f_b_whole) F sc_b_whole hm (F.binds fun _ _ _ _ _ _ us hl => match us, hl with | [_], _ => by kernel_rfl) rfl rfl fun cdv A outer s H E hr => ?_
  conv => arg 2; whnf
  conv => arg 1; arg 1; arg 9; whnf
  exact (sss_one (ss_ret (se_and (se_isi T.n_isinstance (sa_cons (se_var 0) (sa_cons (se_ty "int" T.n_int (by decide +kernel)) sa_nil))) (se_one (se_not (se_isi T.n_isinstance (sa_cons (se_var 0) (sa_cons (se_ty "bool" T.n_bool (by decide +kernel)) sa_nil))))))))
theorem sc_b_is_begun : FnScope N_b_is_begun ["ways", "thing"] (defScope s_b_is_begun) := ⟨rfl, rfl, rfl, by decide +kernel, rfl, by decide +kernel, by decide +kernel⟩
theorem ok_b_is_begun {f : Addr} {fd : FuncData} (T : Txt K mg) (F : Fun K "_law_b_is_begun" "_law_b_is_begun" s_b_is_begun f fd) (hm : mg "_law_b_is_begun" = some (.ref f)) (G_b_whole : FnF P w K mg base 1 "_law_b_whole" ["thing"] m_b_whole) : FnF P w K mg base 2 "_law_b_is_begun" ["ways", "thing"] m_b_is_begun := by
  refine fnf_at (fb := f_b_is_begun) F sc_b_is_begun hm (F.binds fun _ _ _ _ _ _ us hl => match us, hl with | [_, _], _ => by kernel_rfl) rfl rfl fun cdv A outer s H E hr => ?_
  conv => arg 2; whnf
  conv => arg 1; arg 1; arg 9; whnf
  exact (sss_cons (ss_if ((sw_or (st_not (st_val (se_isi T.n_isinstance (sa_cons (se_var 1) (sa_cons (se_ty "tuple" T.n_tuple (by decide +kernel)) sa_nil))))) (sw_or1 (st_gt (se_len T.n_len (sa_cons (se_var 1) sa_nil)) (se_len T.n_len (sa_cons (se_var 0) sa_nil)))))).st (sss_one (ss_ret se_bl)) sss_nil)
  (sss_cons (ss_for PassesOwn.never (si_zip T.n_zip (sa_cons (se_var 0) (sa_cons (se_var 1) sa_nil))) (sg_seq (sgs_cons (sg_name 2 sc_b_is_begun.nd) (sgs_cons (sg_name 3 sc_b_is_begun.nd) sgs_nil))) (sss_one (ss_if ((sw_or (st_not (st_val (se_call G_b_whole (hr.mono (by decide)) (sa_cons (se_var 3) sa_nil)))) (sw_or (st_lt (se_var 3) se_int) (sw_or1 (st_ge (se_var 3) (se_var 2)))))).st (sss_one (ss_ret se_bl)) sss_nil)))
  (sss_one (ss_ret se_bl))))
theorem sc_b_bent : FnScope N_b_bent ["tape", "ways", "choosing"] (defScope s_b_bent) := ⟨rfl, rfl, rfl, by decide +kernel, rfl, by decide +kernel, by decide +kernel⟩
theorem ok_b_bent {f : Addr} {fd : FuncData} (T : Txt K mg) (F : Fun K "_law_b_bent" "_law_b_bent" s_b_bent f fd) (hm : mg "_law_b_bent" = some (.ref f)) (G_b_take : FnF P w K mg base 2 "_law_b_take" ["tape", "many"] m_b_take) : FnF P w K mg base 3 "_law_b_bent" ["tape", "ways", "choosing"] m_b_bent := by
  refine fnf_at (fb := f_b_bent) F sc_b_bent hm (F.binds fun _ _ _ _ _ _ us hl => match us, hl with | [_, _, _], _ => by kernel_rfl) rfl rfl fun cdv A outer s H E hr => ?_
  conv => arg 2; whnf
  conv => arg 1; arg 1; arg 9; whnf
  exact (sss_cons (ss_set 3 sc_b_bent.nd (se_call G_b_take (hr.mono (by decide)) (sa_cons (se_var 0) (sa_cons (se_pow se_int se_int) sa_nil))))
  (sss_cons (ss_set 4 sc_b_bent.nd (se_call G_b_take (hr.mono (by decide)) (sa_cons (se_var 0) (sa_cons (se_add (se_len T.n_len (sa_cons (se_var 2) sa_nil)) se_int) sa_nil))))
  (sss_cons (ss_setLc [6] [("many", 6)] sc_b_bent.nd (si_rng1 T.n_range (sa_cons (se_add (se_len T.n_len (sa_cons (se_var 2) sa_nil)) se_int) sa_nil)) (blkOk_by (own := [("many", 6)]) (N := N_b_bent) (sc := defScope s_b_bent) (by decide +kernel)) (fun _ _ _ _ _ => (sg_name 6 sc_b_bent.nd)) (fun _ _ _ _ _ => sts_nil) (fun _ _ _ _ _ => (se_slice (se_var 2) sp_none (sp_some (se_var 6)))) (sw_true rfl rfl rfl (by decide +kernel)))
  (sss_cons (ss_set 5 sc_b_bent.nd (se_addL (se_var 5) (se_lst (sa_cons (se_list T.n_list (sa_cons (se_var 2) sa_nil)) (sa_cons (se_addT (se_var 2) (se_tup (sa_cons se_int sa_nil))) (sa_cons (se_rev (se_var 2) (se_neg se_int)) (sa_cons (se_tup (sa_cons (se_var 2) sa_nil)) (sa_cons se_non (sa_cons se_str (sa_cons se_str (sa_cons se_int (sa_cons se_bl (sa_cons se_dic (sa_cons (se_tup sa_nil) (sa_cons (se_lst sa_nil) sa_nil)))))))))))))))
  (sss_cons (ss_for PassesOwn.never (si_seq (se_lst (sa_cons se_int (sa_cons se_int (sa_cons se_int (sa_cons se_int (sa_cons se_int (sa_cons (se_add se_int (se_var 3)) (sa_cons (se_neg se_int) (sa_cons (se_sub (se_neg se_int) (se_var 3)) (sa_cons se_bl (sa_cons se_bl (sa_cons se_non (sa_cons se_str (sa_cons (se_tup (sa_cons se_int sa_nil)) (sa_cons (se_lst (sa_cons se_int sa_nil)) (sa_cons se_dic (sa_cons se_str sa_nil)))))))))))))))))) (sg_name 7 sc_b_bent.nd) (sss_cons (ss_set 5 sc_b_bent.nd (se_addL (se_var 5) (se_lst (sa_cons (se_addT (se_addT (se_slice (se_var 2) sp_none (sp_some (se_var 4))) (se_tup (sa_cons (se_var 7) sa_nil))) (se_slice (se_var 2) (sp_some (se_add (se_var 4) se_int)) sp_none)) (sa_cons (se_addT (se_addT (se_slice (se_var 2) sp_none (sp_some (se_var 4))) (se_tup (sa_cons (se_var 7) sa_nil))) (se_slice (se_var 2) (sp_some (se_var 4)) sp_none)) sa_nil)))))
  (sss_one (ss_expr (se_append 5 (sa_cons (se_addT (se_slice (se_var 2) sp_none (sp_some (se_var 4))) (se_tup (sa_cons (se_var 7) sa_nil))) sa_nil))))))
  (sss_one (ss_ret (se_var 5))))))))
theorem sc_law : FnScope N_law ["script"] (defScope s_law) := ⟨rfl, rfl, rfl, by decide +kernel, rfl, by decide +kernel, by decide +kernel⟩
end
theorem fnOk_law {P : Program} {w : World} {K : PySem.W.Frag} {mg : Str → Option Value} {base : Heap} {f : Addr} {fd : FuncData} (T : Txt K mg) (F : Fun K "law" "law" s_law f fd) (hm : mg "law" = some (.ref f)) (G_is_begun : FnF P w K mg base 10 "is_begun" ["sheet", "thing"] m_is_begun) (G_is_choosing : FnF P w K mg base 10 "is_choosing" ["sheet", "thing"] m_is_choosing) (G_b_take : FnF P w K mg base 2 "_law_b_take" ["tape", "many"] m_b_take) (G_b_sheet : FnF P w K mg base 5 "_law_b_sheet" ["tape", "places", "wishes"] m_b_sheet) (G_b_choosing : FnF P w K mg base 3 "_law_b_choosing" ["tape", "ways"] m_b_choosing) (G_b_is_begun : FnF P w K mg base 2 "_law_b_is_begun" ["ways", "thing"] m_b_is_begun) (G_b_bent : FnF P w K mg base 3 "_law_b_bent" ["tape", "ways", "choosing"] m_b_bent) : FnOk P w K mg base CX0 11 f fd ["script"] (spF K 1 m_law) := by
  refine fn_at (fb := f_law) F sc_law rfl rfl fun cdv A outer s H E hr => ?_
  conv => arg 2; whnf
  conv => arg 1; arg 1; arg 9; whnf
  exact (sss_cons (ss_set 1 sc_law.nd (se_lst (sa_cons (se_var 0) (sa_cons se_int (sa_cons se_int sa_nil)))))
  (sss_cons (ss_for PassesOwn.never (si_rng1 T.n_range (sa_cons se_int sa_nil)) (sg_name 2 sc_law.nd) (sss_cons (ss_if ((sw_and (st_gt (se_var 2) se_int) (sw_and1 (st_ge (se_item (se_var 1) se_int) (se_len T.n_len (sa_cons (se_var 0) sa_nil)))))).st (sss_one ss_break) sss_nil)
  (sss_cons (ss_set 3 sc_law.nd (se_call G_b_sheet (hr.mono (by decide)) (sa_cons (se_var 1) (sa_cons se_int (sa_cons (se_item (se_lst (sa_cons se_int (sa_cons se_int (sa_cons se_int sa_nil)))) (se_var 2)) sa_nil)))))
  (sss_cons (ss_set 4 sc_law.nd (se_item (se_var 3) se_int))
  (sss_cons (ss_set 5 sc_law.nd (se_call G_b_choosing (hr.mono (by decide)) (sa_cons (se_var 1) (sa_cons (se_var 4) sa_nil))))
  (sss_cons (ss_set 6 sc_law.nd (se_call G_b_bent (hr.mono (by decide)) (sa_cons (se_var 1) (sa_cons (se_var 4) (sa_cons (se_var 5) sa_nil)))))
  (sss_cons (ss_if (st_eq hr (se_var 2) se_int) (sss_one (ss_set 6 sc_law.nd (se_lc [7] [("turn", 7)] sc_law.nd (si_rng1 T.n_range (sa_cons se_int sa_nil)) (blkOk_by (own := [("turn", 7)]) (N := N_law) (sc := defScope s_law) (by decide +kernel)) (fun _ _ _ _ _ => (sg_name 7 sc_law.nd)) (fun _ _ _ _ _ => sts_nil) (fun _ _ _ _ _ => (se_item (se_var 6) (se_call G_b_take (hr.mono (by decide)) (sa_cons (se_var 1) (sa_cons (se_len T.n_len (sa_cons (se_var 6) sa_nil)) sa_nil)))))))) sss_nil)
  (sss_one (ss_for PassesOwn.never (si_seq (se_var 6)) (sg_name 8 sc_law.nd) (sss_cons (ss_set 9 sc_law.nd (se_repr hr T.n_repr (sa_cons (se_var 8) sa_nil)))
  (sss_cons (ss_set 10 sc_law.nd (se_call G_b_is_begun (hr.mono (by decide)) (sa_cons (se_var 4) (sa_cons (se_var 8) sa_nil))))
  (sss_cons (ss_set 11 sc_law.nd (se_lst (sa_cons (se_call G_is_begun (hr.mono (by decide)) (sa_cons (se_var 3) (sa_cons (se_var 8) sa_nil))) (sa_cons (se_call G_is_choosing (hr.mono (by decide)) (sa_cons (se_var 3) (sa_cons (se_var 8) sa_nil))) sa_nil))))
  (sss_cons (ss_if ((sw_or (st_not (st_val (se_all T.n_all (sa_cons (se_lc [12] [("one", 12)] sc_law.nd (si_seq (se_var 11)) (blkOk_by (own := [("one", 12)]) (N := N_law) (sc := defScope s_law) (by decide +kernel)) (fun _ _ _ _ _ => (sg_name 12 sc_law.nd)) (fun _ _ _ _ _ => sts_nil) (fun _ _ _ _ _ => (se_isi T.n_isinstance (sa_cons (se_var 12) (sa_cons (se_ty "bool" T.n_bool (by decide +kernel)) sa_nil))))) sa_nil)))) (sw_or1 (st_ne hr (se_repr hr T.n_repr (sa_cons (se_var 8) sa_nil)) (se_var 9))))).st (sss_one (ss_ret se_bl)) sss_nil)
  (sss_one (ss_if (st_ne hr (se_var 11) (se_lst (sa_cons (se_var 10) (sa_cons (se_and (se_var 10) (se_one (se_eq hr (se_len T.n_len (sa_cons (se_var 8) sa_nil)) (se_len T.n_len (sa_cons (se_var 4) sa_nil))))) sa_nil)))) (sss_one (ss_ret se_bl)) sss_nil)))))))))))))))
  (sss_one (ss_ret se_bl))))
theorem all_mk {l : PySem.W.OpenLaw} {w : World} {K : PySem.W.Frag} {h : Heap} {mg : Str → Option Value} {fa : Addr} (X : K.In h) (G : h.Ns mainGlobals mg) (hfa : mg "law" = some (.ref fa))
    {a0 : Addr} {od0 an0 : Option Addr} {sl0 : Array (Option Value)} {oc0 kV0 dc0 pm0 cd0 ct0 : Value}
    {a1 : Addr} {od1 an1 : Option Addr} {sl1 : Array (Option Value)} {oc1 kV1 dc1 pm1 cd1 ct1 : Value}
    {a2 : Addr} {od2 an2 : Option Addr} {sl2 : Array (Option Value)} {oc2 kV2 dc2 pm2 cd2 ct2 : Value}
    {a3 : Addr} {od3 an3 : Option Addr} {sl3 : Array (Option Value)} {oc3 kV3 dc3 pm3 cd3 ct3 : Value}
    {a4 : Addr} {od4 an4 : Option Addr} {sl4 : Array (Option Value)} {oc4 kV4 dc4 pm4 cd4 ct4 : Value}
    {a5 : Addr} {od5 an5 : Option Addr} {sl5 : Array (Option Value)} {oc5 kV5 dc5 pm5 cd5 ct5 : Value}
    {a6 : Addr} {od6 an6 : Option Addr} {sl6 : Array (Option Value)} {oc6 kV6 dc6 pm6 cd6 ct6 : Value}
    {a7 : Addr} {od7 an7 : Option Addr} {sl7 : Array (Option Value)} {oc7 kV7 dc7 pm7 cd7 ct7 : Value}
    {a8 : Addr} {od8 an8 : Option Addr} {sl8 : Array (Option Value)} {oc8 kV8 dc8 pm8 cd8 ct8 : Value}
    {a9 : Addr} {od9 an9 : Option Addr} {sl9 : Array (Option Value)} {oc9 kV9 dc9 pm9 cd9 ct9 : Value}
    {a10 : Addr} {od10 an10 : Option Addr} {sl10 : Array (Option Value)} {oc10 kV10 dc10 pm10 cd10 ct10 : Value}
    {a11 : Addr} {od11 an11 : Option Addr} {sl11 : Array (Option Value)} {oc11 kV11 dc11 pm11 cd11 ct11 : Value}
    {a12 : Addr} {od12 an12 : Option Addr} {sl12 : Array (Option Value)} {oc12 kV12 dc12 pm12 cd12 ct12 : Value}
    {a13 : Addr} {od13 an13 : Option Addr} {sl13 : Array (Option Value)} {oc13 kV13 dc13 pm13 cd13 ct13 : Value}
    {a14 : Addr} {od14 an14 : Option Addr} {sl14 : Array (Option Value)} {oc14 kV14 dc14 pm14 cd14 ct14 : Value}
    {a15 : Addr} {od15 an15 : Option Addr} {sl15 : Array (Option Value)} {oc15 kV15 dc15 pm15 cd15 ct15 : Value}
    {a16 : Addr} {od16 an16 : Option Addr} {sl16 : Array (Option Value)} {oc16 kV16 dc16 pm16 cd16 ct16 : Value}
    {a17 : Addr} {od17 an17 : Option Addr} {sl17 : Array (Option Value)} {oc17 kV17 dc17 pm17 cd17 ct17 : Value}
    {a18 : Addr} {od18 an18 : Option Addr} {sl18 : Array (Option Value)} {oc18 kV18 dc18 pm18 cd18 ct18 : Value}
    {a19 : Addr} {od19 an19 : Option Addr} {sl19 : Array (Option Value)} {oc19 kV19 dc19 pm19 cd19 ct19 : Value}
    {a20 : Addr} {od20 an20 : Option Addr} {sl20 : Array (Option Value)} {oc20 kV20 dc20 pm20 cd20 ct20 : Value}
    {a21 : Addr} {od21 an21 : Option Addr} {sl21 : Array (Option Value)} {oc21 kV21 dc21 pm21 cd21 ct21 : Value}
    {a22 : Addr} {od22 an22 : Option Addr} {sl22 : Array (Option Value)} {oc22 kV22 dc22 pm22 cd22 ct22 : Value}
    {a23 : Addr} {od23 an23 : Option Addr} {sl23 : Array (Option Value)} {oc23 kV23 dc23 pm23 cd23 ct23 : Value}
    {a24 : Addr} {od24 an24 : Option Addr} {sl24 : Array (Option Value)} {oc24 kV24 dc24 pm24 cd24 ct24 : Value}
    {a25 : Addr} {od25 an25 : Option Addr} {sl25 : Array (Option Value)} {oc25 kV25 dc25 pm25 cd25 ct25 : Value}
    {a_KINDS : Addr} {od_KINDS : Option Addr} {n_KINDS : Nat} {sl_KINDS : Array (Option Value)} {t0_KINDS t1_KINDS : Tok}
    {t_MOST_PLACES : Tok}
    {t_MOST_WAYS : Tok}
    {t_MOST_WEIGHT : Tok}
    {t_MOST_WISHES : Tok}
    (q0 : PySem.W.nsIn K mainGlobals "is_whole" = some (some (.ref a0))) (l0 : K.lookup a0 = some ⟨oc0, od0, .func (PySem.W.fnOf "is_whole" "is_whole" (defArgs s_is_whole) (defBody s_is_whole) (defScope s_is_whole) .none kV0 dc0 pm0 an0 cd0 ct0), sl0⟩) (c0 : PySem.W.codeIn K cd0 "is_whole" = true) (k0 : PySem.W.keepIn K (.ref a0) = true)
    (q1 : PySem.W.nsIn K mainGlobals "is_within" = some (some (.ref a1))) (l1 : K.lookup a1 = some ⟨oc1, od1, .func (PySem.W.fnOf "is_within" "is_within" (defArgs s_is_within) (defBody s_is_within) (defScope s_is_within) .none kV1 dc1 pm1 an1 cd1 ct1), sl1⟩) (c1 : PySem.W.codeIn K cd1 "is_within" = true) (k1 : PySem.W.keepIn K (.ref a1) = true)
    (q2 : PySem.W.nsIn K mainGlobals "is_tuple_of" = some (some (.ref a2))) (l2 : K.lookup a2 = some ⟨oc2, od2, .func (PySem.W.fnOf "is_tuple_of" "is_tuple_of" (defArgs s_is_tuple_of) (defBody s_is_tuple_of) (defScope s_is_tuple_of) .none kV2 dc2 pm2 an2 cd2 ct2), sl2⟩) (c2 : PySem.W.codeIn K cd2 "is_tuple_of" = true) (k2 : PySem.W.keepIn K (.ref a2) = true)
    (q3 : PySem.W.nsIn K mainGlobals "are_rising" = some (some (.ref a3))) (l3 : K.lookup a3 = some ⟨oc3, od3, .func (PySem.W.fnOf "are_rising" "are_rising" (defArgs s_are_rising) (defBody s_are_rising) (defScope s_are_rising) .none kV3 dc3 pm3 an3 cd3 ct3), sl3⟩) (c3 : PySem.W.codeIn K cd3 "are_rising" = true) (k3 : PySem.W.keepIn K (.ref a3) = true)
    (q4 : PySem.W.nsIn K mainGlobals "are_rising_below" = some (some (.ref a4))) (l4 : K.lookup a4 = some ⟨oc4, od4, .func (PySem.W.fnOf "are_rising_below" "are_rising_below" (defArgs s_are_rising_below) (defBody s_are_rising_below) (defScope s_are_rising_below) .none kV4 dc4 pm4 an4 cd4 ct4), sl4⟩) (c4 : PySem.W.codeIn K cd4 "are_rising_below" = true) (k4 : PySem.W.keepIn K (.ref a4) = true)
    (q5 : PySem.W.nsIn K mainGlobals "are_ways" = some (some (.ref a5))) (l5 : K.lookup a5 = some ⟨oc5, od5, .func (PySem.W.fnOf "are_ways" "are_ways" (defArgs s_are_ways) (defBody s_are_ways) (defScope s_are_ways) .none kV5 dc5 pm5 an5 cd5 ct5), sl5⟩) (c5 : PySem.W.codeIn K cd5 "are_ways" = true) (k5 : PySem.W.keepIn K (.ref a5) = true)
    (q6 : PySem.W.nsIn K mainGlobals "is_part" = some (some (.ref a6))) (l6 : K.lookup a6 = some ⟨oc6, od6, .func (PySem.W.fnOf "is_part" "is_part" (defArgs s_is_part) (defBody s_is_part) (defScope s_is_part) .none kV6 dc6 pm6 an6 cd6 ct6), sl6⟩) (c6 : PySem.W.codeIn K cd6 "is_part" = true) (k6 : PySem.W.keepIn K (.ref a6) = true)
    (q7 : PySem.W.nsIn K mainGlobals "are_parts" = some (some (.ref a7))) (l7 : K.lookup a7 = some ⟨oc7, od7, .func (PySem.W.fnOf "are_parts" "are_parts" (defArgs s_are_parts) (defBody s_are_parts) (defScope s_are_parts) .none kV7 dc7 pm7 an7 cd7 ct7), sl7⟩) (c7 : PySem.W.codeIn K cd7 "are_parts" = true) (k7 : PySem.W.keepIn K (.ref a7) = true)
    (q8 : PySem.W.nsIn K mainGlobals "is_wish" = some (some (.ref a8))) (l8 : K.lookup a8 = some ⟨oc8, od8, .func (PySem.W.fnOf "is_wish" "is_wish" (defArgs s_is_wish) (defBody s_is_wish) (defScope s_is_wish) .none kV8 dc8 pm8 an8 cd8 ct8), sl8⟩) (c8 : PySem.W.codeIn K cd8 "is_wish" = true) (k8 : PySem.W.keepIn K (.ref a8) = true)
    (q9 : PySem.W.nsIn K mainGlobals "are_wishes" = some (some (.ref a9))) (l9 : K.lookup a9 = some ⟨oc9, od9, .func (PySem.W.fnOf "are_wishes" "are_wishes" (defArgs s_are_wishes) (defBody s_are_wishes) (defScope s_are_wishes) .none kV9 dc9 pm9 an9 cd9 ct9), sl9⟩) (c9 : PySem.W.codeIn K cd9 "are_wishes" = true) (k9 : PySem.W.keepIn K (.ref a9) = true)
    (q10 : PySem.W.nsIn K mainGlobals "is_sheet" = some (some (.ref a10))) (l10 : K.lookup a10 = some ⟨oc10, od10, .func (PySem.W.fnOf "is_sheet" "is_sheet" (defArgs s_is_sheet) (defBody s_is_sheet) (defScope s_is_sheet) .none kV10 dc10 pm10 an10 cd10 ct10), sl10⟩) (c10 : PySem.W.codeIn K cd10 "is_sheet" = true) (k10 : PySem.W.keepIn K (.ref a10) = true)
    (q11 : PySem.W.nsIn K mainGlobals "are_first_ways" = some (some (.ref a11))) (l11 : K.lookup a11 = some ⟨oc11, od11, .func (PySem.W.fnOf "are_first_ways" "are_first_ways" (defArgs s_are_first_ways) (defBody s_are_first_ways) (defScope s_are_first_ways) .none kV11 dc11 pm11 an11 cd11 ct11), sl11⟩) (c11 : PySem.W.codeIn K cd11 "are_first_ways" = true) (k11 : PySem.W.keepIn K (.ref a11) = true)
    (q12 : PySem.W.nsIn K mainGlobals "are_all_ways" = some (some (.ref a12))) (l12 : K.lookup a12 = some ⟨oc12, od12, .func (PySem.W.fnOf "are_all_ways" "are_all_ways" (defArgs s_are_all_ways) (defBody s_are_all_ways) (defScope s_are_all_ways) .none kV12 dc12 pm12 an12 cd12 ct12), sl12⟩) (c12 : PySem.W.codeIn K cd12 "are_all_ways" = true) (k12 : PySem.W.keepIn K (.ref a12) = true)
    (q13 : PySem.W.nsIn K mainGlobals "need_sheet" = some (some (.ref a13))) (l13 : K.lookup a13 = some ⟨oc13, od13, .func (PySem.W.fnOf "need_sheet" "need_sheet" (defArgs s_need_sheet) (defBody s_need_sheet) (defScope s_need_sheet) .none kV13 dc13 pm13 an13 cd13 ct13), sl13⟩) (c13 : PySem.W.codeIn K cd13 "need_sheet" = true) (k13 : PySem.W.keepIn K (.ref a13) = true)
    (q14 : PySem.W.nsIn K mainGlobals "is_begun" = some (some (.ref a14))) (l14 : K.lookup a14 = some ⟨oc14, od14, .func (PySem.W.fnOf "is_begun" "is_begun" (defArgs s_is_begun) (defBody s_is_begun) (defScope s_is_begun) .none kV14 dc14 pm14 an14 cd14 ct14), sl14⟩) (c14 : PySem.W.codeIn K cd14 "is_begun" = true) (k14 : PySem.W.keepIn K (.ref a14) = true)
    (q15 : PySem.W.nsIn K mainGlobals "is_choosing" = some (some (.ref a15))) (l15 : K.lookup a15 = some ⟨oc15, od15, .func (PySem.W.fnOf "is_choosing" "is_choosing" (defArgs s_is_choosing) (defBody s_is_choosing) (defScope s_is_choosing) .none kV15 dc15 pm15 an15 cd15 ct15), sl15⟩) (c15 : PySem.W.codeIn K cd15 "is_choosing" = true) (k15 : PySem.W.keepIn K (.ref a15) = true)
    (q16 : PySem.W.nsIn K mainGlobals "_law_b_mixed" = some (some (.ref a16))) (l16 : K.lookup a16 = some ⟨oc16, od16, .func (PySem.W.fnOf "_law_b_mixed" "_law_b_mixed" (defArgs s_b_mixed) (defBody s_b_mixed) (defScope s_b_mixed) .none kV16 dc16 pm16 an16 cd16 ct16), sl16⟩) (c16 : PySem.W.codeIn K cd16 "_law_b_mixed" = true) (k16 : PySem.W.keepIn K (.ref a16) = true)
    (q17 : PySem.W.nsIn K mainGlobals "_law_b_take" = some (some (.ref a17))) (l17 : K.lookup a17 = some ⟨oc17, od17, .func (PySem.W.fnOf "_law_b_take" "_law_b_take" (defArgs s_b_take) (defBody s_b_take) (defScope s_b_take) .none kV17 dc17 pm17 an17 cd17 ct17), sl17⟩) (c17 : PySem.W.codeIn K cd17 "_law_b_take" = true) (k17 : PySem.W.keepIn K (.ref a17) = true)
    (q18 : PySem.W.nsIn K mainGlobals "_law_b_few" = some (some (.ref a18))) (l18 : K.lookup a18 = some ⟨oc18, od18, .func (PySem.W.fnOf "_law_b_few" "_law_b_few" (defArgs s_b_few) (defBody s_b_few) (defScope s_b_few) .none kV18 dc18 pm18 an18 cd18 ct18), sl18⟩) (c18 : PySem.W.codeIn K cd18 "_law_b_few" = true) (k18 : PySem.W.keepIn K (.ref a18) = true)
    (q19 : PySem.W.nsIn K mainGlobals "_law_b_wish" = some (some (.ref a19))) (l19 : K.lookup a19 = some ⟨oc19, od19, .func (PySem.W.fnOf "_law_b_wish" "_law_b_wish" (defArgs s_b_wish) (defBody s_b_wish) (defScope s_b_wish) .none kV19 dc19 pm19 an19 cd19 ct19), sl19⟩) (c19 : PySem.W.codeIn K cd19 "_law_b_wish" = true) (k19 : PySem.W.keepIn K (.ref a19) = true)
    (q20 : PySem.W.nsIn K mainGlobals "_law_b_sheet" = some (some (.ref a20))) (l20 : K.lookup a20 = some ⟨oc20, od20, .func (PySem.W.fnOf "_law_b_sheet" "_law_b_sheet" (defArgs s_b_sheet) (defBody s_b_sheet) (defScope s_b_sheet) .none kV20 dc20 pm20 an20 cd20 ct20), sl20⟩) (c20 : PySem.W.codeIn K cd20 "_law_b_sheet" = true) (k20 : PySem.W.keepIn K (.ref a20) = true)
    (q21 : PySem.W.nsIn K mainGlobals "_law_b_choosing" = some (some (.ref a21))) (l21 : K.lookup a21 = some ⟨oc21, od21, .func (PySem.W.fnOf "_law_b_choosing" "_law_b_choosing" (defArgs s_b_choosing) (defBody s_b_choosing) (defScope s_b_choosing) .none kV21 dc21 pm21 an21 cd21 ct21), sl21⟩) (c21 : PySem.W.codeIn K cd21 "_law_b_choosing" = true) (k21 : PySem.W.keepIn K (.ref a21) = true)
    (q22 : PySem.W.nsIn K mainGlobals "_law_b_whole" = some (some (.ref a22))) (l22 : K.lookup a22 = some ⟨oc22, od22, .func (PySem.W.fnOf "_law_b_whole" "_law_b_whole" (defArgs s_b_whole) (defBody s_b_whole) (defScope s_b_whole) .none kV22 dc22 pm22 an22 cd22 ct22), sl22⟩) (c22 : PySem.W.codeIn K cd22 "_law_b_whole" = true) (k22 : PySem.W.keepIn K (.ref a22) = true)
    (q23 : PySem.W.nsIn K mainGlobals "_law_b_is_begun" = some (some (.ref a23))) (l23 : K.lookup a23 = some ⟨oc23, od23, .func (PySem.W.fnOf "_law_b_is_begun" "_law_b_is_begun" (defArgs s_b_is_begun) (defBody s_b_is_begun) (defScope s_b_is_begun) .none kV23 dc23 pm23 an23 cd23 ct23), sl23⟩) (c23 : PySem.W.codeIn K cd23 "_law_b_is_begun" = true) (k23 : PySem.W.keepIn K (.ref a23) = true)
    (q24 : PySem.W.nsIn K mainGlobals "_law_b_bent" = some (some (.ref a24))) (l24 : K.lookup a24 = some ⟨oc24, od24, .func (PySem.W.fnOf "_law_b_bent" "_law_b_bent" (defArgs s_b_bent) (defBody s_b_bent) (defScope s_b_bent) .none kV24 dc24 pm24 an24 cd24 ct24), sl24⟩) (c24 : PySem.W.codeIn K cd24 "_law_b_bent" = true) (k24 : PySem.W.keepIn K (.ref a24) = true)
    (q25 : PySem.W.nsIn K mainGlobals "law" = some (some (.ref a25))) (l25 : K.lookup a25 = some ⟨oc25, od25, .func (PySem.W.fnOf "law" "law" (defArgs s_law) (defBody s_law) (defScope s_law) .none kV25 dc25 pm25 an25 cd25 ct25), sl25⟩) (c25 : PySem.W.codeIn K cd25 "law" = true) (k25 : PySem.W.keepIn K (.ref a25) = true)
    (z_all : PySem.W.nsIn K mainGlobals "all" = some none)
    (z_bool : PySem.W.nsIn K mainGlobals "bool" = some none)
    (z_int : PySem.W.nsIn K mainGlobals "int" = some none)
    (z_isinstance : PySem.W.nsIn K mainGlobals "isinstance" = some none)
    (z_len : PySem.W.nsIn K mainGlobals "len" = some none)
    (z_list : PySem.W.nsIn K mainGlobals "list" = some none)
    (z_range : PySem.W.nsIn K mainGlobals "range" = some none)
    (z_repr : PySem.W.nsIn K mainGlobals "repr" = some none)
    (z_tuple : PySem.W.nsIn K mainGlobals "tuple" = some none)
    (z_zip : PySem.W.nsIn K mainGlobals "zip" = some none)
    (z_KINDS : PySem.W.nsIn K mainGlobals "KINDS" = some (some (.ref a_KINDS))) (l_KINDS : K.lookup a_KINDS = some ⟨.type "tuple", od_KINDS, .seq #[.str "all" t0_KINDS, .str "some" t1_KINDS] n_KINDS, sl_KINDS⟩)
    (z_MOST_PLACES : PySem.W.nsIn K mainGlobals "MOST_PLACES" = some (some (.int 10 t_MOST_PLACES)))
    (z_MOST_WAYS : PySem.W.nsIn K mainGlobals "MOST_WAYS" = some (some (.int 4 t_MOST_WAYS)))
    (z_MOST_WEIGHT : PySem.W.nsIn K mainGlobals "MOST_WEIGHT" = some (some (.int 99 t_MOST_WEIGHT)))
    (z_MOST_WISHES : PySem.W.nsIn K mainGlobals "MOST_WISHES" = some (some (.int 16 t_MOST_WISHES))) :
    ∃ fd : FuncData, (∀ (s : Shared) (v : Value), BindsTo s fd ⟨[v], []⟩ [("script", v)]) ∧ ∀ base : Heap, K.In base → base.Ns mainGlobals mg → FnOk l.prog w K mg base CX0 11 fa fd ["script"] (spF K 1 m_law) := by
  have e := hfa.symm.trans (PySem.W.mg_of X G q25)
  cases e
  have T : Txt K mg := ⟨PySem.W.mg_none_of X G z_all, PySem.W.mg_none_of X G z_bool, PySem.W.mg_none_of X G z_int, PySem.W.mg_none_of X G z_isinstance, PySem.W.mg_none_of X G z_len, PySem.W.mg_none_of X G z_list, PySem.W.mg_none_of X G z_range, PySem.W.mg_none_of X G z_repr, PySem.W.mg_none_of X G z_tuple, PySem.W.mg_none_of X G z_zip, TxG.two (PySem.W.mg_of X G z_KINDS) l_KINDS, ⟨_, PySem.W.mg_of X G z_MOST_PLACES⟩, ⟨_, PySem.W.mg_of X G z_MOST_WAYS⟩, ⟨_, PySem.W.mg_of X G z_MOST_WEIGHT⟩, ⟨_, PySem.W.mg_of X G z_MOST_WISHES⟩⟩
  have F_is_whole := fun_mk (st := s_is_whole) l0 c0 k0
  have F_is_within := fun_mk (st := s_is_within) l1 c1 k1
  have F_is_tuple_of := fun_mk (st := s_is_tuple_of) l2 c2 k2
  have F_are_rising := fun_mk (st := s_are_rising) l3 c3 k3
  have F_are_rising_below := fun_mk (st := s_are_rising_below) l4 c4 k4
  have F_are_ways := fun_mk (st := s_are_ways) l5 c5 k5
  have F_is_part := fun_mk (st := s_is_part) l6 c6 k6
  have F_are_parts := fun_mk (st := s_are_parts) l7 c7 k7
  have F_is_wish := fun_mk (st := s_is_wish) l8 c8 k8
  have F_are_wishes := fun_mk (st := s_are_wishes) l9 c9 k9
  have F_is_sheet := fun_mk (st := s_is_sheet) l10 c10 k10
  have F_are_first_ways := fun_mk (st := s_are_first_ways) l11 c11 k11
  have F_are_all_ways := fun_mk (st := s_are_all_ways) l12 c12 k12
  have F_need_sheet := fun_mk (st := s_need_sheet) l13 c13 k13
  have F_is_begun := fun_mk (st := s_is_begun) l14 c14 k14
  have F_is_choosing := fun_mk (st := s_is_choosing) l15 c15 k15
  have F_b_mixed := fun_mk (st := s_b_mixed) l16 c16 k16
  have F_b_take := fun_mk (st := s_b_take) l17 c17 k17
  have F_b_few := fun_mk (st := s_b_few) l18 c18 k18
  have F_b_wish := fun_mk (st := s_b_wish) l19 c19 k19
  have F_b_sheet := fun_mk (st := s_b_sheet) l20 c20 k20
  have F_b_choosing := fun_mk (st := s_b_choosing) l21 c21 k21
  have F_b_whole := fun_mk (st := s_b_whole) l22 c22 k22
  have F_b_is_begun := fun_mk (st := s_b_is_begun) l23 c23 k23
  have F_b_bent := fun_mk (st := s_b_bent) l24 c24 k24
  have F_law := fun_mk (st := s_law) l25 c25 k25
  refine ⟨PySem.W.fnOf "law" "law" (defArgs s_law) (defBody s_law) (defScope s_law) .none kV25 dc25 pm25 an25 cd25 ct25, fun s v => .of_eq rfl, fun base _ _ => ?_⟩
  have G_is_whole := ok_is_whole (P := l.prog) (w := w) (base := base) T F_is_whole (PySem.W.mg_of X G q0)
  have G_is_within := ok_is_within (P := l.prog) (w := w) (base := base) T F_is_within (PySem.W.mg_of X G q1) G_is_whole
  have G_is_tuple_of := ok_is_tuple_of (P := l.prog) (w := w) (base := base) T F_is_tuple_of (PySem.W.mg_of X G q2)
  have G_are_rising := ok_are_rising (P := l.prog) (w := w) (base := base) T F_are_rising (PySem.W.mg_of X G q3)
  have G_are_rising_below := ok_are_rising_below (P := l.prog) (w := w) (base := base) T F_are_rising_below (PySem.W.mg_of X G q4) G_is_within G_are_rising
  have G_are_ways := ok_are_ways (P := l.prog) (w := w) (base := base) T F_are_ways (PySem.W.mg_of X G q5) G_is_within
  have G_is_part := ok_is_part (P := l.prog) (w := w) (base := base) T F_is_part (PySem.W.mg_of X G q6) G_is_within G_is_tuple_of G_are_rising_below
  have G_are_parts := ok_are_parts (P := l.prog) (w := w) (base := base) T F_are_parts (PySem.W.mg_of X G q7) G_are_rising G_is_part
  have G_is_wish := ok_is_wish (P := l.prog) (w := w) (base := base) T F_is_wish (PySem.W.mg_of X G q8) G_is_within G_is_tuple_of G_are_parts
  have G_are_wishes := ok_are_wishes (P := l.prog) (w := w) (base := base) T F_are_wishes (PySem.W.mg_of X G q9) G_is_wish
  have G_is_sheet := ok_is_sheet (P := l.prog) (w := w) (base := base) T F_is_sheet (PySem.W.mg_of X G q10) G_is_tuple_of G_are_ways G_are_wishes
  have G_are_first_ways := ok_are_first_ways (P := l.prog) (w := w) (base := base) T F_are_first_ways (PySem.W.mg_of X G q11) G_is_within
  have G_are_all_ways := ok_are_all_ways (P := l.prog) (w := w) (base := base) T F_are_all_ways (PySem.W.mg_of X G q12) G_is_tuple_of G_are_first_ways
  have G_need_sheet := ok_need_sheet (P := l.prog) (w := w) (base := base) T F_need_sheet (PySem.W.mg_of X G q13) G_is_sheet
  have G_is_begun := ok_is_begun (P := l.prog) (w := w) (base := base) T F_is_begun (PySem.W.mg_of X G q14) G_are_first_ways G_need_sheet
  have G_is_choosing := ok_is_choosing (P := l.prog) (w := w) (base := base) T F_is_choosing (PySem.W.mg_of X G q15) G_are_all_ways G_need_sheet
  have G_b_mixed := ok_b_mixed (P := l.prog) (w := w) (base := base) T F_b_mixed (PySem.W.mg_of X G q16)
  have G_b_take := ok_b_take (P := l.prog) (w := w) (base := base) T F_b_take (PySem.W.mg_of X G q17) G_b_mixed
  have G_b_few := ok_b_few (P := l.prog) (w := w) (base := base) T F_b_few (PySem.W.mg_of X G q18) G_b_take
  have G_b_wish := ok_b_wish (P := l.prog) (w := w) (base := base) T F_b_wish (PySem.W.mg_of X G q19) G_b_take G_b_few
  have G_b_sheet := ok_b_sheet (P := l.prog) (w := w) (base := base) T F_b_sheet (PySem.W.mg_of X G q20) G_b_take G_b_wish
  have G_b_choosing := ok_b_choosing (P := l.prog) (w := w) (base := base) T F_b_choosing (PySem.W.mg_of X G q21) G_b_take
  have G_b_whole := ok_b_whole (P := l.prog) (w := w) (base := base) T F_b_whole (PySem.W.mg_of X G q22)
  have G_b_is_begun := ok_b_is_begun (P := l.prog) (w := w) (base := base) T F_b_is_begun (PySem.W.mg_of X G q23) G_b_whole
  have G_b_bent := ok_b_bent (P := l.prog) (w := w) (base := base) T F_b_bent (PySem.W.mg_of X G q24) G_b_take
  exact (fnOk_law (P := l.prog) (w := w) (base := base) T F_law (PySem.W.mg_of X G q25) G_is_begun G_is_choosing G_b_take G_b_sheet G_b_choosing G_b_is_begun G_b_bent)
theorem walk {l : PySem.W.OpenLaw} {q : Program} {loose : List Str} {XP : (Str → Option Value) → Heap → Prop} {YP : World → Heap → Prop} {d : DefRec} {K : Params → PySem.W.Frag} (hn : l.most = some 63) (hdf : d.params.defaults = [])
    (hY : ∀ (w : World) (h : Heap), YP w h → (K w.params).In h)
    (hlaw : ∀ ns : List Int, ns.length ≤ 63 → ∃ S', m_law [.ref 0] [.fz (ns.map A.int)] = some (.bl true, S'))
    (Fq : ∀ (w : World) (mg : Str → Option Value) (fa : Addr) (h : Heap), (K w.params).In h → h.Ns mainGlobals mg → mg d.name = some (.ref fa) →
      ∃ fd : FuncData, (∀ (s : Shared) (u : Value), BindsTo s fd ⟨[u], []⟩ [("script", u)]) ∧ ∀ base : Heap, (K w.params).In base → base.Ns mainGlobals mg → FnOk l.prog w (K w.params) mg base CX0 11 fa fd ["script"] (spF (K w.params) 1 m_law)) :
    PySem.W.WalkO q loose XP YP l.row.toRowW d [] (fun f vs => PySem.call f vs) :=
  L2.walk_of (n := 63) (k := 11) (x := "script") (CX := fun _ => CX0) (sp := fun w => spF (K w.params) 1 m_law) hn (by decide) hdf ⟨rfl, by decide, by decide, rfl⟩ hY Fq (fun _ _ a ns hl hO hS => let ⟨_, h⟩ := hlaw ns hl; law_sp hO hS h) fun _ _ _ _ _ z => z
end G
namespace G
open PySem PySem.Spec L2 F
theorem at0 {α : Type} (a : α) (l : List α) : atI (a :: l) 0 = some a := by simp [atI, ixN]
theorem at31 {α : Type} (a b c : α) : atI [a, b, c] 1 = some b := by simp [atI, ixN]
theorem at32 {α : Type} (a b c : α) : atI [a, b, c] 2 = some c := by simp [atI, ixN]
theorem ix31 : ixN 3 1 = some 1 := by simp [ixN]
theorem ix32 : ixN 3 2 = some 2 := by simp [ixN]
theorem pow18 : powOk 10 18 = true := by decide +kernel
theorem b_mixed_ok (c a : Int) (S : Sto) {Q : A → Sto → Prop} (k : ∀ v, 0 ≤ v → Q (.int v) S) : WC m_b_mixed [.int c, .int a] S Q := by
  unfold m_b_mixed f_b_mixed
  simp only [wc_def, ws_seq, ws_if, ws_asg, ws_ret, ws_retN, ws_next, ws_break, ws_cont, ws_drop, ws_par, ws_for, ws_while, wt_b, wt_and, wt_or, wt_not, wt_yes, we_op, we_var, we_c, we_neg, we_and, we_or, we_not, we_ifE, we_tup, we_lst, we_call, wa_nil, wa_cons, wo_ge, wo_gt, wo_le, wo_lt, wo_pow, wo_mod, wo_mul, wo_add, wo_sub, wo_div, wo_ix, wg_name, wg_nil, wg_cons, wg_seq, wg_sub, wc_len, wc_abs, wc_min2, we_chain, we_dic, wc_list, we_rev, wo_is, wc_tuple, wp_none, wp_some, we_slice, ww_zip, zip_tt, we_lc, wo_eqI, wo_neI, wo_eqB, wo_eqP, Nat.zero_add, Nat.reduceAdd, ww_rng1, ww_seq, List.length_cons, List.length_nil, List.map_cons, List.map_nil, List.replicate, List.cons_append, List.nil_append, List.getElem?_cons_zero, List.getElem?_cons_succ, List.set_cons_zero, List.set_cons_succ, wipeE]
  refine ⟨trivial, pow18, ?_⟩
  split
  · rename_i h
    have h' := of_decide_eq_true h
    exact k _ (Int.le_trans (by decide +kernel) h')
  · refine ⟨by decide, mulOk_r (by decide) (by decide), mulOk_r (by decide) (by decide), by decide, mulOk_l (by omega) (by omega), mulOk_l (by decide) (by decide), by decide, mulOk_l (by omega) (by omega), mulOk_l (by decide) (by decide), by decide, mulOk_r (by decide) (by decide), k _ ?_⟩
    have h1 : ∀ x y : Int, 0 ≤ x → 0 ≤ y → 0 ≤ x * 2147483489 + y := by intro x y _ _; omega
    exact h1 _ _ (Int.emod_nonneg _ (by decide)) (Int.emod_nonneg _ (by decide))
def TS (ns : List Int) (p q : Int) (G : Sto) : Sto := .fz (ns.map A.int) :: .lst [.ref 0, .int p, .int q] :: G
theorem at_ints {ns : List Int} {p : Int} (h0 : 0 ≤ p) (h1 : p < (ns.length : Int)) : ∃ c, atI (ns.map A.int) p = some (.int c) := by
  have hl : p.toNat < ns.length := by omega
  have z : atI (ns.map A.int) ((p.toNat : Nat) : Int) = some (.int ns[p.toNat]) := atI_nat (by rw [List.getElem?_map, List.getElem?_eq_getElem hl]; rfl)
  rw [Int.toNat_of_nonneg h0] at z
  exact ⟨_, z⟩
theorem at_mem {α : Type} {xs : List α} {p : Int} (h0 : 0 ≤ p) (h1 : p < (xs.length : Int)) : ∃ c, atI xs p = some c ∧ c ∈ xs := by
  have hl : p.toNat < xs.length := by omega
  have z : atI xs ((p.toNat : Nat) : Int) = some xs[p.toNat] := atI_nat (List.getElem?_eq_getElem hl)
  rw [Int.toNat_of_nonneg h0] at z
  exact ⟨_, z, List.getElem_mem hl⟩
theorem take_ok {ns : List Int} {p q m : Int} {G : Sto} {Q : A → Sto → Prop} (h0 : 0 ≤ p) (hm : 0 < m) (hb : m.natAbs.log2 < 9000)
    (k : ∀ v p' q' X, 0 ≤ v → v < m → p ≤ p' → Q (.int v) (TS ns p' q' (G ++ X))) : WC m_b_take [.ref 1, .int m] (TS ns p q G) Q := by
  have fin : ∀ (v p' : Int) (X : Sto), p ≤ p' → (0 < m ∧ divOk v m = true ∧ Q (A.int (v % m)) (SO.fz (List.map A.int ns) :: SO.lst [A.ref 0, A.int p', A.int (v / m)] :: (G ++ X))) := fun v p' X hp =>
    ⟨hm, divOk_of hm hb, k _ _ _ X (Int.emod_nonneg _ (by omega)) (Int.emod_lt_of_pos _ hm) hp⟩
  have fin0 : ∀ (v p' : Int), p ≤ p' → (0 < m ∧ divOk v m = true ∧ Q (A.int (v % m)) (SO.fz (List.map A.int ns) :: SO.lst [A.ref 0, A.int p', A.int (v / m)] :: G)) := fun v p' hp => by
    have z := fin v p' [] hp
    rw [List.append_nil] at z
    exact z
  unfold m_b_take f_b_take TS
  simp only [wc_def, ws_seq, ws_if, ws_asg, ws_ret, ws_retN, ws_next, ws_break, ws_cont, ws_drop, ws_par, ws_for, ws_while, wt_b, wt_and, wt_or, wt_not, wt_yes, we_op, we_var, we_c, we_neg, we_and, we_or, we_not, we_ifE, we_tup, we_lst, we_call, wa_nil, wa_cons, wo_ge, wo_gt, wo_le, wo_lt, wo_pow, wo_mod, wo_mul, wo_add, wo_sub, wo_div, wo_ix, wg_name, wg_nil, wg_cons, wg_seq, wg_sub, wc_len, wc_abs, wc_min2, we_chain, we_dic, wc_list, we_rev, wo_is, wc_tuple, wp_none, wp_some, we_slice, ww_zip, zip_tt, we_lc, wo_eqI, wo_neI, wo_eqB, wo_eqP, Nat.zero_add, Nat.reduceAdd, ww_rng1, ww_seq, List.length_cons, List.length_nil, List.map_cons, List.map_nil, List.replicate, List.cons_append, List.nil_append, List.getElem?_cons_zero, List.getElem?_cons_succ, List.set_cons_zero, List.set_cons_succ, wipeE, seqOf, at0, at31, at32, ix31, ix32]
  refine ⟨trivial, ?_⟩
  split
  · refine ⟨mulOk_l (by decide) (by decide), ?_⟩
    split
    · rename_i h
      have h' := of_decide_eq_true h
      rw [List.length_map] at h'
      obtain ⟨c, hc⟩ := at_ints h0 h'
      simp only [hc]
      refine b_mixed_ok _ _ _ fun v hv => ?_
      simp only [wc_def, ws_seq, ws_if, ws_asg, ws_ret, ws_retN, ws_next, ws_break, ws_cont, ws_drop, ws_par, ws_for, ws_while, wt_b, wt_and, wt_or, wt_not, wt_yes, we_op, we_var, we_c, we_neg, we_and, we_or, we_not, we_ifE, we_tup, we_lst, we_call, wa_nil, wa_cons, wo_ge, wo_gt, wo_le, wo_lt, wo_pow, wo_mod, wo_mul, wo_add, wo_sub, wo_div, wo_ix, wg_name, wg_nil, wg_cons, wg_seq, wg_sub, wc_len, wc_abs, wc_min2, we_chain, we_dic, wc_list, we_rev, wo_is, wc_tuple, wp_none, wp_some, we_slice, ww_zip, zip_tt, we_lc, wo_eqI, wo_neI, wo_eqB, wo_eqP, Nat.zero_add, Nat.reduceAdd, ww_rng1, ww_seq, List.length_cons, List.length_nil, List.map_cons, List.map_nil, List.replicate, List.cons_append, List.nil_append, List.getElem?_cons_zero, List.getElem?_cons_succ, List.set_cons_zero, List.set_cons_succ, wipeE, seqOf, at0, at31, at32, ix31, ix32]
      exact fin0 v (p + 1) (by omega)
    · refine ⟨Nat.zero_le _, ?_⟩
      rw [wo_neNil (ns := ns) (by rfl) (by simp)]
      simp only [wc_def, ws_seq, ws_if, ws_asg, ws_ret, ws_retN, ws_next, ws_break, ws_cont, ws_drop, ws_par, ws_for, ws_while, wt_b, wt_and, wt_or, wt_not, wt_yes, we_op, we_var, we_c, we_neg, we_and, we_or, we_not, we_ifE, we_tup, we_lst, we_call, wa_nil, wa_cons, wo_ge, wo_gt, wo_le, wo_lt, wo_pow, wo_mod, wo_mul, wo_add, wo_sub, wo_div, wo_ix, wg_name, wg_nil, wg_cons, wg_seq, wg_sub, wc_len, wc_abs, wc_min2, we_chain, we_dic, wc_list, we_rev, wo_is, wc_tuple, wp_none, wp_some, we_slice, ww_zip, zip_tt, we_lc, wo_eqI, wo_neI, wo_eqB, wo_eqP, Nat.zero_add, Nat.reduceAdd, ww_rng1, ww_seq, List.length_cons, List.length_nil, List.map_cons, List.map_nil, List.replicate, List.cons_append, List.nil_append, List.getElem?_cons_zero, List.getElem?_cons_succ, List.set_cons_zero, List.set_cons_succ, wipeE, seqOf, at0, at31, at32, ix31, ix32]
      split
      · rename_i h
        refine ⟨mulOk_r (by decide) (by decide), ?_⟩
        have hne : 0 < ns.length := by
          cases ns with
          | nil => simp at h
          | cons _ _ => simp
        have hp : (0 : Int) < ((List.map A.int ns).length : Int) := by rw [List.length_map]; omega
        refine ⟨hp, ?_⟩
        obtain ⟨c, hc⟩ := at_ints (ns := ns) (p := p * 11 % ((List.map A.int ns).length : Int)) (Int.emod_nonneg _ (by omega)) (by rw [List.length_map] at hp ⊢; exact Int.emod_lt_of_pos _ hp)
        simp only [hc]
        simp only [wc_def, ws_seq, ws_if, ws_asg, ws_ret, ws_retN, ws_next, ws_break, ws_cont, ws_drop, ws_par, ws_for, ws_while, wt_b, wt_and, wt_or, wt_not, wt_yes, we_op, we_var, we_c, we_neg, we_and, we_or, we_not, we_ifE, we_tup, we_lst, we_call, wa_nil, wa_cons, wo_ge, wo_gt, wo_le, wo_lt, wo_pow, wo_mod, wo_mul, wo_add, wo_sub, wo_div, wo_ix, wg_name, wg_nil, wg_cons, wg_seq, wg_sub, wc_len, wc_abs, wc_min2, we_chain, we_dic, wc_list, we_rev, wo_is, wc_tuple, wp_none, wp_some, we_slice, ww_zip, zip_tt, we_lc, wo_eqI, wo_neI, wo_eqB, wo_eqP, Nat.zero_add, Nat.reduceAdd, ww_rng1, ww_seq, List.length_cons, List.length_nil, List.map_cons, List.map_nil, List.replicate, List.cons_append, List.nil_append, List.getElem?_cons_zero, List.getElem?_cons_succ, List.set_cons_zero, List.set_cons_succ, wipeE, seqOf, at0, at31, at32, ix31, ix32]
        refine ⟨by decide, mulOk_r (by decide) (by decide), ?_⟩
        refine b_mixed_ok _ _ _ fun v hv => ?_
        simp only [wc_def, ws_seq, ws_if, ws_asg, ws_ret, ws_retN, ws_next, ws_break, ws_cont, ws_drop, ws_par, ws_for, ws_while, wt_b, wt_and, wt_or, wt_not, wt_yes, we_op, we_var, we_c, we_neg, we_and, we_or, we_not, we_ifE, we_tup, we_lst, we_call, wa_nil, wa_cons, wo_ge, wo_gt, wo_le, wo_lt, wo_pow, wo_mod, wo_mul, wo_add, wo_sub, wo_div, wo_ix, wg_name, wg_nil, wg_cons, wg_seq, wg_sub, wc_len, wc_abs, wc_min2, we_chain, we_dic, wc_list, we_rev, wo_is, wc_tuple, wp_none, wp_some, we_slice, ww_zip, zip_tt, we_lc, wo_eqI, wo_neI, wo_eqB, wo_eqP, Nat.zero_add, Nat.reduceAdd, ww_rng1, ww_seq, List.length_cons, List.length_nil, List.map_cons, List.map_nil, List.replicate, List.cons_append, List.nil_append, List.getElem?_cons_zero, List.getElem?_cons_succ, List.set_cons_zero, List.set_cons_succ, wipeE, seqOf, at0, at31, at32, ix31, ix32]
        exact fin v (p + 1) _ (by omega)
      · refine b_mixed_ok _ _ _ fun v hv => ?_
        simp only [wc_def, ws_seq, ws_if, ws_asg, ws_ret, ws_retN, ws_next, ws_break, ws_cont, ws_drop, ws_par, ws_for, ws_while, wt_b, wt_and, wt_or, wt_not, wt_yes, we_op, we_var, we_c, we_neg, we_and, we_or, we_not, we_ifE, we_tup, we_lst, we_call, wa_nil, wa_cons, wo_ge, wo_gt, wo_le, wo_lt, wo_pow, wo_mod, wo_mul, wo_add, wo_sub, wo_div, wo_ix, wg_name, wg_nil, wg_cons, wg_seq, wg_sub, wc_len, wc_abs, wc_min2, we_chain, we_dic, wc_list, we_rev, wo_is, wc_tuple, wp_none, wp_some, we_slice, ww_zip, zip_tt, we_lc, wo_eqI, wo_neI, wo_eqB, wo_eqP, Nat.zero_add, Nat.reduceAdd, ww_rng1, ww_seq, List.length_cons, List.length_nil, List.map_cons, List.map_nil, List.replicate, List.cons_append, List.nil_append, List.getElem?_cons_zero, List.getElem?_cons_succ, List.set_cons_zero, List.set_cons_succ, wipeE, seqOf, at0, at31, at32, ix31, ix32]
        exact fin v (p + 1) _ (by omega)
  · exact fin0 q p (by omega)
theorem ts_app {ns : List Int} {p q : Int} {G X : Sto} : TS ns p q G ++ X = TS ns p q (G ++ X) := rfl
theorem ts_len {ns : List Int} {p q : Int} {G : Sto} : (TS ns p q G).length = G.length + 2 := rfl
theorem ts_get {ns : List Int} {p q : Int} {G X : Sto} {o : SO} : (TS ns p q (G ++ o :: X))[G.length + 2]? = some o := by simp [TS]
theorem ts_set {ns : List Int} {p q : Int} {G X : Sto} {o u : SO} : (TS ns p q (G ++ o :: X)).set (G.length + 2) u = TS ns p q (G ++ u :: X) := by simp [TS]
theorem ts_seq {ns : List Int} {p q : Int} {G X : Sto} {xs : List A} : seqOf (TS ns p q (G ++ .lst xs :: X)) (.ref (G.length + 2)) = some xs := by simp [seqOf, TS]
theorem ts_tape {ns : List Int} {p q : Int} {G : Sto} : seqOf (TS ns p q G) (.ref 1) = some [.ref 0, .int p, .int q] := rfl
def Tk (g : FN) (xs : List A) (P : A → Prop) : Prop := ∀ (ns : List Int) (p q : Int) (G : Sto) (Q : A → Sto → Prop), 0 ≤ p → (∀ v p' q' X, P v → 0 ≤ p' → Q v (TS ns p' q' (G ++ X))) → WC g xs (TS ns p q G) Q
theorem Tk.go {g : FN} {xs : List A} {P : A → Prop} (h : Tk g xs P) {ns : List Int} {p q : Int} {G : Sto} {Q : A → Sto → Prop} (h0 : 0 ≤ p) (k : ∀ v p' q' X, P v → 0 ≤ p' → Q v (TS ns p' q' (G ++ X))) : WC g xs (TS ns p q G) Q := h ns p q G Q h0 k
theorem take_tk {m : Int} (hm : 0 < m) (hb : m.natAbs.log2 < 9000) : Tk m_b_take [.ref 1, .int m] fun v => ∃ i, v = .int i ∧ 0 ≤ i ∧ i < m := fun ns p q G Q h0 k =>
  take_ok h0 hm hb fun v p' q' X h1 h2 h3 => k _ p' q' X ⟨v, rfl, h1, h2⟩ (Int.le_trans h0 h3)
theorem lc_tape {α β : Type} {ns : List Int} {p q : Int} {G : Sto} {F : FI} {xs : List α} {ea : α → A} {eb : β → A} {g : FG} {te : FE} {e : En} {R : Sto → Prop} {m : Nat} (Pv : α → β → Prop) (h0 : 0 ≤ p) (hl : xs.length < sizeLine) (hm : m = xs.length)
    (hF : ∀ (i : Nat) (p' q' : Int) (R : Sto), F.item (TS ns p' q' (G ++ R)) i = some (xs.map ea)[i]?)
    (hs : ∀ x ∈ xs, ∀ (p q : Int) (R : Sto) (Q1 : A → Sto → Prop), 0 ≤ p → (∀ v p' q' X, Pv x v → 0 ≤ p' → Q1 (eb v) (TS ns p' q' ((G ++ R) ++ X))) → WG g (ea x) e (TS ns p q (G ++ R)) fun e1 S2 => WE te e1 S2 Q1)
    (k : ∀ (p' q' : Int) (X : Sto) (zs : List (α × β)), 0 ≤ p' → zs.map Prod.fst = xs → (∀ z ∈ zs, Pv z.1 z.2) → R (TS ns p' q' (G ++ .lst (zs.map fun z => eb z.2) :: X))) :
    (match lcF F g fYes te (G.length + 2) e m 0 (TS ns p q (G ++ [.lst []])) with | some S2 => R S2 | none => False) := by
  have hm' : m = (xs.map ea).length := by rw [List.length_map]; exact hm
  subst hm'
  refine lc_ok (xs := xs.map ea) (R := R) (fun i S1 => ∃ (p' q' : Int) (X : Sto) (zs : List (α × β)), S1 = TS ns p' q' (G ++ .lst (zs.map fun z => eb z.2) :: X) ∧ 0 ≤ p' ∧ zs.map Prod.fst = xs.take i ∧ ∀ z ∈ zs, Pv z.1 z.2) (fun i S1 h => by obtain ⟨p', q', X, zs, rfl, _⟩ := h; exact hF i _ _ _) ?_ ?_ _ 0 _ (Nat.zero_add _) ⟨p, q, [], [], rfl, h0, rfl, fun _ h => by cases h⟩
  · rintro i x S1 hx ⟨p', q', X, zs, rfl, hp, hz, hv⟩
    rw [List.getElem?_map] at hx
    cases hy : xs[i]? with
    | none => rw [hy] at hx; cases hx
    | some y =>
      rw [hy] at hx
      cases hx
      have ht : xs.take (i + 1) = xs.take i ++ [y] := by
        rw [List.take_succ, hy]
        rfl
      refine W.mono (hs y (List.mem_of_getElem? hy) p' q' _ (fun v S4 => ∃ (w : β) (p' q' : Int) (X : Sto), v = eb w ∧ Pv y w ∧ 0 ≤ p' ∧ S4 = TS ns p' q' (G ++ .lst (zs.map fun z => eb z.2) :: X)) hp fun w p1 q1 X1 hw h1 => ⟨w, p1, q1, X ++ X1, rfl, hw, h1, by rw [List.append_assoc]; rfl⟩) fun e1 S2 h => ?_
      rw [wt_yes, if_pos rfl]
      refine W.mono h fun v S4 h => ?_
      obtain ⟨w, p1, q1, X1, rfl, hw, h1, rfl⟩ := h
      rw [ts_get]
      refine ⟨?_, p1, q1, X1, zs ++ [(y, w)], ?_, h1, ?_, ?_⟩
      · have : (zs.map Prod.fst).length = (xs.take i).length := by rw [hz]
        rw [List.length_map, List.length_take] at this
        rw [List.length_map, this]
        exact Nat.lt_of_le_of_lt (Nat.min_le_right _ _) hl
      · rw [ts_set, List.map_append]
        rfl
      · rw [List.map_append, hz, ht]
        rfl
      · intro z hz'
        rcases List.mem_append.mp hz' with h | h
        · exact hv z h
        · cases List.mem_singleton.mp h
          exact hw
  · rintro S1 ⟨p', q', X, zs, rfl, hp, hz, hv⟩
    rw [List.length_map, List.take_length] at hz
    exact k p' q' X zs hp hz hv
theorem lc_tapeF {α : Type} {ns : List Int} {p q : Int} {G : Sto} {F : FI} {xs : List α} {ea : α → A} {g : FG} {tt : FT} {te : FE} {e : En} {R : Sto → Prop} {m : Nat} (h0 : 0 ≤ p) (hl : xs.length < sizeLine) (hm : m = xs.length)
    (hF : ∀ (i : Nat) (p' q' : Int) (R : Sto), F.item (TS ns p' q' (G ++ R)) i = some (xs.map ea)[i]?)
    (hs : ∀ x ∈ xs, ∀ (p q : Int) (R : Sto) (Q1 : Bool → A → Sto → Prop), 0 ≤ p → (∀ t p' q' X, 0 ≤ p' → Q1 t (ea x) (TS ns p' q' ((G ++ R) ++ X))) → WG g (ea x) e (TS ns p q (G ++ R)) fun e1 S2 => WT tt e1 S2 fun t S3 => if t = true then WE te e1 S3 fun y S4 => Q1 true y S4 else Q1 false (ea x) S3)
    (k : ∀ (p' q' : Int) (X : Sto) (zs : List α), 0 ≤ p' → zs.Sublist xs → R (TS ns p' q' (G ++ .lst (zs.map ea) :: X))) :
    (match lcF F g tt te (G.length + 2) e m 0 (TS ns p q (G ++ [.lst []])) with | some S2 => R S2 | none => False) := by
  have hm' : m = (xs.map ea).length := by rw [List.length_map]; exact hm
  subst hm'
  refine lc_ok (xs := xs.map ea) (R := R) (fun i S1 => ∃ (p' q' : Int) (X : Sto) (zs : List α), S1 = TS ns p' q' (G ++ .lst (zs.map ea) :: X) ∧ 0 ≤ p' ∧ zs.Sublist (xs.take i)) (fun i S1 h => by obtain ⟨p', q', X, zs, rfl, _⟩ := h; exact hF i _ _ _) ?_ ?_ _ 0 _ (Nat.zero_add _) ⟨p, q, [], [], rfl, h0, List.nil_sublist _⟩
  · rintro i x S1 hx ⟨p', q', X, zs, rfl, hp, hz⟩
    rw [List.getElem?_map] at hx
    cases hy : xs[i]? with
    | none => rw [hy] at hx; cases hx
    | some y =>
      rw [hy] at hx
      cases hx
      have ht : xs.take (i + 1) = xs.take i ++ [y] := by
        rw [List.take_succ, hy]
        rfl
      refine W.mono (hs y (List.mem_of_getElem? hy) p' q' _ (fun t v S4 => v = ea y ∧ ∃ (p' q' : Int) (X : Sto), 0 ≤ p' ∧ S4 = TS ns p' q' (G ++ .lst (zs.map ea) :: X)) hp fun t p1 q1 X1 h1 => ⟨rfl, p1, q1, X ++ X1, h1, by rw [List.append_assoc]; rfl⟩) fun e1 S2 h => W.mono h fun t S3 h => ?_
      cases t with
      | true =>
        rw [if_pos rfl] at h ⊢
        refine W.mono h fun v S4 h => ?_
        obtain ⟨rfl, p1, q1, X1, h1, rfl⟩ := h
        rw [ts_get]
        refine ⟨?_, p1, q1, X1, zs ++ [y], ?_, h1, ?_⟩
        · have := hz.length_le
          rw [List.length_take] at this
          rw [List.length_map]
          exact Nat.lt_of_le_of_lt (Nat.le_trans this (Nat.min_le_right _ _)) hl
        · rw [ts_set, List.map_append]
          rfl
        · rw [ht]
          exact hz.append (List.Sublist.refl _)
      | false =>
        rw [if_neg Bool.false_ne_true] at h ⊢
        obtain ⟨_, p1, q1, X1, h1, rfl⟩ := h
        refine ⟨p1, q1, X1, zs, rfl, h1, ?_⟩
        rw [ht]
        exact hz.trans (List.sublist_append_left _ _)
  · rintro S1 ⟨p', q', X, zs, rfl, hp, hz⟩
    rw [List.length_map, List.take_length] at hz
    exact k p' q' X zs hp hz
def Ext (G G' : Sto) : Prop := ∃ X, G' = G ++ X
theorem Ext.refl (G : Sto) : Ext G G := ⟨[], (List.append_nil _).symm⟩
theorem Ext.trans {G1 G2 G3 : Sto} (h : Ext G1 G2) (k : Ext G2 G3) : Ext G1 G3 := by
  obtain ⟨X, rfl⟩ := h
  obtain ⟨Y, rfl⟩ := k
  exact ⟨X ++ Y, List.append_assoc ..⟩
theorem Ext.app (G X : Sto) : Ext G (G ++ X) := ⟨X, rfl⟩
theorem Ext.of {G X G' : Sto} (h : Ext (G ++ X) G') : Ext G G' := (Ext.app G X).trans h
theorem Tk.ge {g : FN} {xs : List A} {P : A → Prop} (h : Tk g xs P) {ns : List Int} {p q : Int} {G : Sto} {Q : A → Sto → Prop} (h0 : 0 ≤ p) (k : ∀ v p' q' G', P v → 0 ≤ p' → Ext G G' → Q v (TS ns p' q' G')) : WC g xs (TS ns p q G) Q := h ns p q G Q h0 fun v p' q' X hv hp => k v p' q' _ hv hp ⟨X, rfl⟩
theorem Tk.mk' {g : FN} {xs : List A} {P : A → Prop} (h : ∀ (ns : List Int) (p q : Int) (G : Sto) (Q : A → Sto → Prop), 0 ≤ p → (∀ v p' q' G', P v → 0 ≤ p' → Ext G G' → Q v (TS ns p' q' G')) → WC g xs (TS ns p q G) Q) : Tk g xs P := fun ns p q G Q h0 k => h ns p q G Q h0 fun v p' q' G' hv hp hx => by
  obtain ⟨X, rfl⟩ := hx
  exact k v p' q' X hv hp
theorem _root_.F.Pu.ge {g : FN} {xs : List A} {v : A} (h : Pu g xs v) {ns : List Int} {p q : Int} {G : Sto} {Q : A → Sto → Prop} (k : ∀ G', Ext G G' → Q v (TS ns p q G')) : WC g xs (TS ns p q G) Q := h _ Q fun X => k _ ⟨X, rfl⟩
theorem ts_sq {ns : List Int} {p q : Int} {G G' : Sto} {xs : List A} (h : Ext (G ++ [.lst xs]) G') : seqOf (TS ns p q G') (.ref (G.length + 2)) = some xs := by
  obtain ⟨X, rfl⟩ := h
  rw [List.append_assoc]
  exact ts_seq
theorem ts_gt {ns : List Int} {p q : Int} {G G' : Sto} {o : SO} (h : Ext (G ++ [o]) G') : (TS ns p q G')[G.length + 2]? = some o := by
  obtain ⟨X, rfl⟩ := h
  rw [List.append_assoc]
  exact ts_get
theorem lc_tp {α β : Type} {ns : List Int} {p q : Int} {G : Sto} {F : FI} {xs : List α} {ea : α → A} {eb : β → A} {g : FG} {te : FE} {e : En} {R : Sto → Prop} {m : Nat} (Pv : α → β → Prop) (h0 : 0 ≤ p) (hl : xs.length < sizeLine) (hm : m = xs.length)
    (hF : ∀ (i : Nat) (p' q' : Int) (G' : Sto), Ext G G' → F.item (TS ns p' q' G') i = some (xs.map ea)[i]?)
    (hs : ∀ x ∈ xs, ∀ (p q : Int) (G1 : Sto) (Q1 : A → Sto → Prop), 0 ≤ p → Ext G G1 → (∀ v p' q' G2, Pv x v → 0 ≤ p' → Ext G1 G2 → Q1 (eb v) (TS ns p' q' G2)) → WG g (ea x) e (TS ns p q G1) fun e1 S2 => WE te e1 S2 Q1)
    (k : ∀ (p' q' : Int) (G' : Sto) (zs : List (α × β)), 0 ≤ p' → zs.map Prod.fst = xs → (∀ z ∈ zs, Pv z.1 z.2) → Ext (G ++ [.lst (zs.map fun z => eb z.2)]) G' → R (TS ns p' q' G')) :
    (match lcF F g fYes te (G.length + 2) e m 0 (TS ns p q (G ++ [.lst []])) with | some S2 => R S2 | none => False) :=
  lc_tape Pv h0 hl hm (fun i p' q' R => hF i p' q' _ ⟨R, rfl⟩) (fun x hx p q R Q1 hp k1 => hs x hx p q _ Q1 hp ⟨R, rfl⟩ fun v p' q' G2 hv hp' hg => by
    obtain ⟨X, rfl⟩ := hg
    exact k1 v p' q' X hv hp') fun p' q' X zs hp hz hv => k p' q' _ zs hp hz hv ⟨X, by rw [List.append_assoc]; rfl⟩
theorem lc_tpF {α : Type} {ns : List Int} {p q : Int} {G : Sto} {F : FI} {xs : List α} {ea : α → A} {g : FG} {tt : FT} {te : FE} {e : En} {R : Sto → Prop} {m : Nat} (h0 : 0 ≤ p) (hl : xs.length < sizeLine) (hm : m = xs.length)
    (hF : ∀ (i : Nat) (p' q' : Int) (G' : Sto), Ext G G' → F.item (TS ns p' q' G') i = some (xs.map ea)[i]?)
    (hs : ∀ x ∈ xs, ∀ (p q : Int) (G1 : Sto) (Q1 : Bool → A → Sto → Prop), 0 ≤ p → Ext G G1 → (∀ t p' q' G2, 0 ≤ p' → Ext G1 G2 → Q1 t (ea x) (TS ns p' q' G2)) → WG g (ea x) e (TS ns p q G1) fun e1 S2 => WT tt e1 S2 fun t S3 => if t = true then WE te e1 S3 fun y S4 => Q1 true y S4 else Q1 false (ea x) S3)
    (k : ∀ (p' q' : Int) (G' : Sto) (zs : List α), 0 ≤ p' → zs.Sublist xs → Ext (G ++ [.lst (zs.map ea)]) G' → R (TS ns p' q' G')) :
    (match lcF F g tt te (G.length + 2) e m 0 (TS ns p q (G ++ [.lst []])) with | some S2 => R S2 | none => False) :=
  lc_tapeF h0 hl hm (fun i p' q' R => hF i p' q' _ ⟨R, rfl⟩) (fun x hx p q R Q1 hp k1 => hs x hx p q _ Q1 hp ⟨R, rfl⟩ fun t p' q' G2 hp' hg => by
    obtain ⟨X, rfl⟩ := hg
    exact k1 t p' q' X hp') fun p' q' X zs hp hz => k p' q' _ zs hp hz ⟨X, by rw [List.append_assoc]; rfl⟩
theorem tp_items {ns : List Int} {G : Sto} {xs : List A} : ∀ (i : Nat) (p' q' : Int) (G' : Sto), Ext G G' → FI.item (TS ns p' q' G') i (.items xs) = some xs[i]? := fun _ _ _ _ _ => rfl
theorem tp_live {ns : List Int} {G G1 : Sto} {xs : List A} (h : Ext (G ++ [.lst xs]) G1) : ∀ (i : Nat) (p' q' : Int) (G' : Sto), Ext G1 G' → FI.item (TS ns p' q' G') i (.live (G.length + 2)) = some xs[i]? := fun i p' q' G' hg => by
  simp only [FI.item, ts_gt (h.trans hg)]
theorem whole_pu (i : Int) : Pu m_is_whole [.int i] (.bl true) := by
  intro S Q k
  unfold m_is_whole f_is_whole
  simp only [wc_def, ws_seq, ws_if, ws_asg, ws_ret, ws_retN, ws_next, ws_break, ws_cont, ws_drop, ws_par, ws_for, ws_while, wt_b, wt_and, wt_or, wt_not, wt_yes, we_op, we_var, we_c, we_neg, we_and, we_or, we_not, we_ifE, we_tup, we_lst, we_call, wa_nil, wa_cons, wo_ge, wo_gt, wo_le, wo_lt, wo_pow, wo_mod, wo_mul, wo_add, wo_sub, wo_div, wo_ix, wg_name, wg_nil, wg_cons, wg_seq, wg_sub, wc_len, wc_abs, wc_min2, we_chain, we_dic, wc_list, we_rev, wo_is, wc_tuple, wp_none, wp_some, we_slice, ww_zip, zip_tt, we_lc, wo_eqI, wo_neI, wo_eqB, wo_eqP, Nat.zero_add, Nat.reduceAdd, ww_rng1, ww_seq, List.length_cons, List.length_nil, List.map_cons, List.map_nil, List.replicate, List.cons_append, List.nil_append, List.getElem?_cons_zero, List.getElem?_cons_succ, List.set_cons_zero, List.set_cons_succ, wipeE, wc_isi, tyAS, tyA, kit_int_int, kit_int_bool, if_true, Bool.not_false]
  exact ⟨trivial, k0 k⟩
theorem within_pu {i lo hi : Int} (h1 : lo ≤ i) (h2 : i ≤ hi) : Pu m_is_within [.int i, .int lo, .int hi] (.bl true) := by
  intro S Q k
  unfold m_is_within f_is_within
  simp only [wc_def, ws_seq, ws_if, ws_asg, ws_ret, ws_retN, ws_next, ws_break, ws_cont, ws_drop, ws_par, ws_for, ws_while, wt_b, wt_and, wt_or, wt_not, wt_yes, we_op, we_var, we_c, we_neg, we_and, we_or, we_not, we_ifE, we_tup, we_lst, we_call, wa_nil, wa_cons, wo_ge, wo_gt, wo_le, wo_lt, wo_pow, wo_mod, wo_mul, wo_add, wo_sub, wo_div, wo_ix, wg_name, wg_nil, wg_cons, wg_seq, wg_sub, wc_len, wc_abs, wc_min2, we_chain, we_dic, wc_list, we_rev, wo_is, wc_tuple, wp_none, wp_some, we_slice, ww_zip, zip_tt, we_lc, wo_eqI, wo_neI, wo_eqB, wo_eqP, Nat.zero_add, Nat.reduceAdd, ww_rng1, ww_seq, List.length_cons, List.length_nil, List.map_cons, List.map_nil, List.replicate, List.cons_append, List.nil_append, List.getElem?_cons_zero, List.getElem?_cons_succ, List.set_cons_zero, List.set_cons_succ, wipeE]
  refine ⟨trivial, (whole_pu i).go fun X => ?_⟩
  simp only [wc_def, ws_seq, ws_if, ws_asg, ws_ret, ws_retN, ws_next, ws_break, ws_cont, ws_drop, ws_par, ws_for, ws_while, wt_b, wt_and, wt_or, wt_not, wt_yes, we_op, we_var, we_c, we_neg, we_and, we_or, we_not, we_ifE, we_tup, we_lst, we_call, wa_nil, wa_cons, wo_ge, wo_gt, wo_le, wo_lt, wo_pow, wo_mod, wo_mul, wo_add, wo_sub, wo_div, wo_ix, wg_name, wg_nil, wg_cons, wg_seq, wg_sub, wc_len, wc_abs, wc_min2, we_chain, we_dic, wc_list, we_rev, wo_is, wc_tuple, wp_none, wp_some, we_slice, ww_zip, zip_tt, we_lc, wo_eqI, wo_neI, wo_eqB, wo_eqP, Nat.zero_add, Nat.reduceAdd, ww_rng1, ww_seq, List.length_cons, List.length_nil, List.map_cons, List.map_nil, List.replicate, List.cons_append, List.nil_append, List.getElem?_cons_zero, List.getElem?_cons_succ, List.set_cons_zero, List.set_cons_succ, wipeE, if_true]
  rw [if_pos (decide_eq_true h1), decide_eq_true h2]
  exact k X
theorem tupof_pu {xs : List A} {n : Nat} (h : xs.length = n) : Pu m_is_tuple_of [.tup xs, .int (n : Nat)] (.bl true) := by
  intro S Q k
  unfold m_is_tuple_of f_is_tuple_of
  simp only [wc_def, ws_seq, ws_if, ws_asg, ws_ret, ws_retN, ws_next, ws_break, ws_cont, ws_drop, ws_par, ws_for, ws_while, wt_b, wt_and, wt_or, wt_not, wt_yes, we_op, we_var, we_c, we_neg, we_and, we_or, we_not, we_ifE, we_tup, we_lst, we_call, wa_nil, wa_cons, wo_ge, wo_gt, wo_le, wo_lt, wo_pow, wo_mod, wo_mul, wo_add, wo_sub, wo_div, wo_ix, wg_name, wg_nil, wg_cons, wg_seq, wg_sub, wc_len, wc_abs, wc_min2, we_chain, we_dic, wc_list, we_rev, wo_is, wc_tuple, wp_none, wp_some, we_slice, ww_zip, zip_tt, we_lc, wo_eqI, wo_neI, wo_eqB, wo_eqP, Nat.zero_add, Nat.reduceAdd, ww_rng1, ww_seq, List.length_cons, List.length_nil, List.map_cons, List.map_nil, List.replicate, List.cons_append, List.nil_append, List.getElem?_cons_zero, List.getElem?_cons_succ, List.set_cons_zero, List.set_cons_succ, wipeE, wc_isi, tyAS, tyA, kit_tuple_tuple, seqOf, if_true]
  refine ⟨trivial, ?_⟩
  rw [decide_eq_true (by rw [h])]
  exact k0 k
theorem rise_pairs : ∀ {ns : List Int}, ns.Pairwise (· < ·) → ∀ x ∈ List.zipWith (fun x y => A.tup [x, y]) (ns.map A.int) ((ns.map A.int).drop 1), ∃ a b, x = A.tup [.int a, .int b] ∧ a < b
  | [], _, x, hx => by simp at hx
  | [a], _, x, hx => by simp at hx
  | a :: b :: ns, h, x, hx => by
    simp only [List.map_cons, List.drop_succ_cons, List.drop_zero, List.zipWith_cons_cons, List.mem_cons] at hx
    rcases hx with rfl | hx
    · exact ⟨a, b, rfl, (List.pairwise_cons.mp h).1 b (List.mem_cons_self ..)⟩
    · exact rise_pairs (List.pairwise_cons.mp h).2 x (by simpa using hx)
theorem pair_lt {S : Sto} {e : En} {a b : Int} (h : a < b) : ∀ (x0 : Option A) (S1 : Sto) (Q1 : A → Sto → Prop), (∀ X, Q1 (.bl true) (S1 ++ X)) →
    WG (fgSeq 2 (fgCons (fName 1) (fgCons (fName 2) fgNil))) (.tup [.int a, .int b]) [x0, none, none] S1 fun e1 S2 => WE (fOp gLt (fVar 1) (fVar 2)) e1 S2 Q1 := by
  intro x0 S1 Q1 k
  simp only [wc_def, ws_seq, ws_if, ws_asg, ws_ret, ws_retN, ws_next, ws_break, ws_cont, ws_drop, ws_par, ws_for, ws_while, wt_b, wt_and, wt_or, wt_not, wt_yes, we_op, we_var, we_c, we_neg, we_and, we_or, we_not, we_ifE, we_tup, we_lst, we_call, wa_nil, wa_cons, wo_ge, wo_gt, wo_le, wo_lt, wo_pow, wo_mod, wo_mul, wo_add, wo_sub, wo_div, wo_ix, wg_name, wg_nil, wg_cons, wg_seq, wg_sub, wc_len, wc_abs, wc_min2, we_chain, we_dic, wc_list, we_rev, wo_is, wc_tuple, wp_none, wp_some, we_slice, ww_zip, zip_tt, we_lc, wo_eqI, wo_neI, wo_eqB, wo_eqP, Nat.zero_add, Nat.reduceAdd, ww_rng1, ww_seq, List.length_cons, List.length_nil, List.map_cons, List.map_nil, List.replicate, List.cons_append, List.nil_append, List.getElem?_cons_zero, List.getElem?_cons_succ, List.set_cons_zero, List.set_cons_succ, wipeE, seqOf]
  refine ⟨trivial, ?_⟩
  rw [decide_eq_true h]
  exact k0 k
theorem rising_pu {ns : List Int} (h : ns.Pairwise (· < ·)) (hl : ns.length ≤ 100) : Pu m_are_rising [.tup (ns.map A.int)] (.bl true) := by
  intro S Q k
  unfold m_are_rising f_are_rising
  simp only [wc_def, ws_seq, ws_if, ws_asg, ws_ret, ws_retN, ws_next, ws_break, ws_cont, ws_drop, ws_par, ws_for, ws_while, wt_b, wt_and, wt_or, wt_not, wt_yes, we_op, we_var, we_c, we_neg, we_and, we_or, we_not, we_ifE, we_tup, we_lst, we_call, wa_nil, wa_cons, wo_ge, wo_gt, wo_le, wo_lt, wo_pow, wo_mod, wo_mul, wo_add, wo_sub, wo_div, wo_ix, wg_name, wg_nil, wg_cons, wg_seq, wg_sub, wc_len, wc_abs, wc_min2, we_chain, we_dic, wc_list, we_rev, wo_is, wc_tuple, wp_none, wp_some, we_slice, ww_zip, zip_tt, we_lc, wo_eqI, wo_neI, wo_eqB, wo_eqP, Nat.zero_add, Nat.reduceAdd, ww_rng1, ww_seq, List.length_cons, List.length_nil, List.map_cons, List.map_nil, List.replicate, List.cons_append, List.nil_append, List.getElem?_cons_zero, List.getElem?_cons_succ, List.set_cons_zero, List.set_cons_succ, wipeE, cut_tail]
  refine ⟨trivial, ?_⟩
  refine all_grow (xs := List.zipWith (fun x y => A.tup [x, y]) (ns.map A.int) ((ns.map A.int).drop 1)) ?_ rfl item_items (fun x hx S1 Q1 k1 => ?_) fun X => k X
  · rw [List.length_zipWith, List.length_map]
    exact Nat.lt_of_le_of_lt (Nat.min_le_left _ _) (Nat.lt_of_le_of_lt hl (by decide))
  · obtain ⟨a, b, rfl, hab⟩ := rise_pairs h x hx
    exact pair_lt (S := S) (e := []) hab _ S1 Q1 k1
theorem below_pu {ns : List Int} {m : Int} (h : ns.Pairwise (· < ·)) (hl : ns.length ≤ 100) (hb : ∀ i ∈ ns, 0 ≤ i ∧ i ≤ m - 1) : Pu m_are_rising_below [.tup (ns.map A.int), .int m] (.bl true) := by
  intro S Q k
  unfold m_are_rising_below f_are_rising_below
  simp only [wc_def, ws_seq, ws_if, ws_asg, ws_ret, ws_retN, ws_next, ws_break, ws_cont, ws_drop, ws_par, ws_for, ws_while, wt_b, wt_and, wt_or, wt_not, wt_yes, we_op, we_var, we_c, we_neg, we_and, we_or, we_not, we_ifE, we_tup, we_lst, we_call, wa_nil, wa_cons, wo_ge, wo_gt, wo_le, wo_lt, wo_pow, wo_mod, wo_mul, wo_add, wo_sub, wo_div, wo_ix, wg_name, wg_nil, wg_cons, wg_seq, wg_sub, wc_len, wc_abs, wc_min2, we_chain, we_dic, wc_list, we_rev, wo_is, wc_tuple, wp_none, wp_some, we_slice, ww_zip, zip_tt, we_lc, wo_eqI, wo_neI, wo_eqB, wo_eqP, Nat.zero_add, Nat.reduceAdd, ww_rng1, ww_seq, List.length_cons, List.length_nil, List.map_cons, List.map_nil, List.replicate, List.cons_append, List.nil_append, List.getElem?_cons_zero, List.getElem?_cons_succ, List.set_cons_zero, List.set_cons_succ, wipeE, wc_isi, tyAS, tyA, kit_tuple_tuple]
  refine ⟨trivial, ?_⟩
  rw [if_neg (by decide)]
  refine all_grow (xs := ns.map A.int) ?_ rfl item_items (fun x hx S1 Q1 k1 => ?_) fun X => ?_
  · rw [List.length_map]
    exact Nat.lt_of_le_of_lt hl (by decide)
  · obtain ⟨i, hi, rfl⟩ := List.mem_map.mp hx
    simp only [wc_def, ws_seq, ws_if, ws_asg, ws_ret, ws_retN, ws_next, ws_break, ws_cont, ws_drop, ws_par, ws_for, ws_while, wt_b, wt_and, wt_or, wt_not, wt_yes, we_op, we_var, we_c, we_neg, we_and, we_or, we_not, we_ifE, we_tup, we_lst, we_call, wa_nil, wa_cons, wo_ge, wo_gt, wo_le, wo_lt, wo_pow, wo_mod, wo_mul, wo_add, wo_sub, wo_div, wo_ix, wg_name, wg_nil, wg_cons, wg_seq, wg_sub, wc_len, wc_abs, wc_min2, we_chain, we_dic, wc_list, we_rev, wo_is, wc_tuple, wp_none, wp_some, we_slice, ww_zip, zip_tt, we_lc, wo_eqI, wo_neI, wo_eqB, wo_eqP, Nat.zero_add, Nat.reduceAdd, ww_rng1, ww_seq, List.length_cons, List.length_nil, List.map_cons, List.map_nil, List.replicate, List.cons_append, List.nil_append, List.getElem?_cons_zero, List.getElem?_cons_succ, List.set_cons_zero, List.set_cons_succ, wipeE]
    exact (within_pu (hb i hi).1 (hb i hi).2).go k1
  · simp only [wc_def, ws_seq, ws_if, ws_asg, ws_ret, ws_retN, ws_next, ws_break, ws_cont, ws_drop, ws_par, ws_for, ws_while, wt_b, wt_and, wt_or, wt_not, wt_yes, we_op, we_var, we_c, we_neg, we_and, we_or, we_not, we_ifE, we_tup, we_lst, we_call, wa_nil, wa_cons, wo_ge, wo_gt, wo_le, wo_lt, wo_pow, wo_mod, wo_mul, wo_add, wo_sub, wo_div, wo_ix, wg_name, wg_nil, wg_cons, wg_seq, wg_sub, wc_len, wc_abs, wc_min2, we_chain, we_dic, wc_list, we_rev, wo_is, wc_tuple, wp_none, wp_some, we_slice, ww_zip, zip_tt, we_lc, wo_eqI, wo_neI, wo_eqB, wo_eqP, Nat.zero_add, Nat.reduceAdd, ww_rng1, ww_seq, List.length_cons, List.length_nil, List.map_cons, List.map_nil, List.replicate, List.cons_append, List.nil_append, List.getElem?_cons_zero, List.getElem?_cons_succ, List.set_cons_zero, List.set_cons_succ, wipeE, if_true]
    exact (rising_pu h hl).go (kX k)
theorem ways_pu {ws : List Int} (hl : ws.length ≤ 10) (hb : ∀ m ∈ ws, 1 ≤ m ∧ m ≤ 4) : Pu m_are_ways [.tup (ws.map A.int)] (.bl true) := by
  intro S Q k
  unfold m_are_ways f_are_ways
  simp only [wc_def, ws_seq, ws_if, ws_asg, ws_ret, ws_retN, ws_next, ws_break, ws_cont, ws_drop, ws_par, ws_for, ws_while, wt_b, wt_and, wt_or, wt_not, wt_yes, we_op, we_var, we_c, we_neg, we_and, we_or, we_not, we_ifE, we_tup, we_lst, we_call, wa_nil, wa_cons, wo_ge, wo_gt, wo_le, wo_lt, wo_pow, wo_mod, wo_mul, wo_add, wo_sub, wo_div, wo_ix, wg_name, wg_nil, wg_cons, wg_seq, wg_sub, wc_len, wc_abs, wc_min2, we_chain, we_dic, wc_list, we_rev, wo_is, wc_tuple, wp_none, wp_some, we_slice, ww_zip, zip_tt, we_lc, wo_eqI, wo_neI, wo_eqB, wo_eqP, Nat.zero_add, Nat.reduceAdd, ww_rng1, ww_seq, List.length_cons, List.length_nil, List.map_cons, List.map_nil, List.replicate, List.cons_append, List.nil_append, List.getElem?_cons_zero, List.getElem?_cons_succ, List.set_cons_zero, List.set_cons_succ, wipeE, wc_isi, tyAS, tyA, kit_tuple_tuple, seqOf]
  refine ⟨trivial, ?_⟩
  rw [if_neg (by decide), if_neg (by rw [List.length_map, decide_eq_true_eq]; omega)]
  refine all_grow (xs := ws.map A.int) ?_ rfl item_items (fun x hx S1 Q1 k1 => ?_) fun X => k X
  · rw [List.length_map]
    exact Nat.lt_of_le_of_lt hl (by decide)
  · obtain ⟨i, hi, rfl⟩ := List.mem_map.mp hx
    simp only [wc_def, ws_seq, ws_if, ws_asg, ws_ret, ws_retN, ws_next, ws_break, ws_cont, ws_drop, ws_par, ws_for, ws_while, wt_b, wt_and, wt_or, wt_not, wt_yes, we_op, we_var, we_c, we_neg, we_and, we_or, we_not, we_ifE, we_tup, we_lst, we_call, wa_nil, wa_cons, wo_ge, wo_gt, wo_le, wo_lt, wo_pow, wo_mod, wo_mul, wo_add, wo_sub, wo_div, wo_ix, wg_name, wg_nil, wg_cons, wg_seq, wg_sub, wc_len, wc_abs, wc_min2, we_chain, we_dic, wc_list, we_rev, wo_is, wc_tuple, wp_none, wp_some, we_slice, ww_zip, zip_tt, we_lc, wo_eqI, wo_neI, wo_eqB, wo_eqP, Nat.zero_add, Nat.reduceAdd, ww_rng1, ww_seq, List.length_cons, List.length_nil, List.map_cons, List.map_nil, List.replicate, List.cons_append, List.nil_append, List.getElem?_cons_zero, List.getElem?_cons_succ, List.set_cons_zero, List.set_cons_succ, wipeE]
    exact (within_pu (hb i hi).1 (hb i hi).2).go k1
abbrev Part := Int × List Int
def partA (x : Part) : A := .tup [.int x.1, .tup (x.2.map A.int)]
structure Wish where
  all : Bool
  wt : Int
  parts : List Part
def kindS (b : Bool) : Str := if b then "all" else "some"
def wishA (w : Wish) : A := .tup [.str (kindS w.all), .int w.wt, .tup (w.parts.map partA)]
def sheetA (ws : List Int) (vs : List Wish) : A := .tup [.tup (ws.map A.int), .tup (vs.map wishA)]
structure PartOk (ws : List Int) (x : Part) : Prop where
  lo : 0 ≤ x.1
  hi : x.1 < (ws.length : Int)
  m : ∃ m, ws[x.1.toNat]? = some m ∧ ∀ i ∈ x.2, 0 ≤ i ∧ i ≤ m - 1
  rise : x.2.Pairwise (· < ·)
  len : x.2.length ≤ 4
structure WishOk (ws : List Int) (w : Wish) : Prop where
  lo : 0 ≤ w.wt
  hi : w.wt ≤ 99
  ok : ∀ x ∈ w.parts, PartOk ws x
  rise : (w.parts.map (·.1)).Pairwise (· < ·)
  len : w.parts.length ≤ 10
structure SheetOk (ws : List Int) (vs : List Wish) : Prop where
  len : ws.length ≤ 10
  ok : ∀ m ∈ ws, 1 ≤ m ∧ m ≤ 4
  len2 : vs.length ≤ 16
  ok2 : ∀ w ∈ vs, WishOk ws w
theorem at_ways {ws : List Int} {p m : Int} (h0 : 0 ≤ p) (hm : ws[p.toNat]? = some m) : atI (ws.map A.int) p = some (.int m) := by
  have z : atI (ws.map A.int) ((p.toNat : Nat) : Int) = some (.int m) := atI_nat (by rw [List.getElem?_map, hm]; rfl)
  rw [Int.toNat_of_nonneg h0] at z
  exact z
theorem part_pu {ws : List Int} {x : Part} (h : PartOk ws x) : Pu m_is_part [.tup (ws.map A.int), partA x] (.bl true) := by
  intro S Q k
  obtain ⟨m, hm, hb⟩ := h.m
  unfold m_is_part f_is_part partA
  simp only [wc_def, ws_seq, ws_if, ws_asg, ws_ret, ws_retN, ws_next, ws_break, ws_cont, ws_drop, ws_par, ws_for, ws_while, wt_b, wt_and, wt_or, wt_not, wt_yes, we_op, we_var, we_c, we_neg, we_and, we_or, we_not, we_ifE, we_tup, we_lst, we_call, wa_nil, wa_cons, wo_ge, wo_gt, wo_le, wo_lt, wo_pow, wo_mod, wo_mul, wo_add, wo_sub, wo_div, wo_ix, wg_name, wg_nil, wg_cons, wg_seq, wg_sub, wc_len, wc_abs, wc_min2, we_chain, we_dic, wc_list, we_rev, wo_is, wc_tuple, wp_none, wp_some, we_slice, ww_zip, zip_tt, we_lc, wo_eqI, wo_neI, wo_eqB, wo_eqP, Nat.zero_add, Nat.reduceAdd, ww_rng1, ww_seq, List.length_cons, List.length_nil, List.map_cons, List.map_nil, List.replicate, List.cons_append, List.nil_append, List.getElem?_cons_zero, List.getElem?_cons_succ, List.set_cons_zero, List.set_cons_succ, wipeE]
  refine ⟨trivial, (tupof_pu (n := 2) rfl).go fun X => ?_⟩
  simp only [wc_def, ws_seq, ws_if, ws_asg, ws_ret, ws_retN, ws_next, ws_break, ws_cont, ws_drop, ws_par, ws_for, ws_while, wt_b, wt_and, wt_or, wt_not, wt_yes, we_op, we_var, we_c, we_neg, we_and, we_or, we_not, we_ifE, we_tup, we_lst, we_call, wa_nil, wa_cons, wo_ge, wo_gt, wo_le, wo_lt, wo_pow, wo_mod, wo_mul, wo_add, wo_sub, wo_div, wo_ix, wg_name, wg_nil, wg_cons, wg_seq, wg_sub, wc_len, wc_abs, wc_min2, we_chain, we_dic, wc_list, we_rev, wo_is, wc_tuple, wp_none, wp_some, we_slice, ww_zip, zip_tt, we_lc, wo_eqI, wo_neI, wo_eqB, wo_eqP, Nat.zero_add, Nat.reduceAdd, ww_rng1, ww_seq, List.length_cons, List.length_nil, List.map_cons, List.map_nil, List.replicate, List.cons_append, List.nil_append, List.getElem?_cons_zero, List.getElem?_cons_succ, List.set_cons_zero, List.set_cons_succ, wipeE, seqOf]
  rw [if_neg (by decide)]
  refine ⟨trivial, (within_pu h.lo (by rw [List.length_map]; have := h.hi; omega)).go fun X2 => ?_⟩
  simp only [wc_def, ws_seq, ws_if, ws_asg, ws_ret, ws_retN, ws_next, ws_break, ws_cont, ws_drop, ws_par, ws_for, ws_while, wt_b, wt_and, wt_or, wt_not, wt_yes, we_op, we_var, we_c, we_neg, we_and, we_or, we_not, we_ifE, we_tup, we_lst, we_call, wa_nil, wa_cons, wo_ge, wo_gt, wo_le, wo_lt, wo_pow, wo_mod, wo_mul, wo_add, wo_sub, wo_div, wo_ix, wg_name, wg_nil, wg_cons, wg_seq, wg_sub, wc_len, wc_abs, wc_min2, we_chain, we_dic, wc_list, we_rev, wo_is, wc_tuple, wp_none, wp_some, we_slice, ww_zip, zip_tt, we_lc, wo_eqI, wo_neI, wo_eqB, wo_eqP, Nat.zero_add, Nat.reduceAdd, ww_rng1, ww_seq, List.length_cons, List.length_nil, List.map_cons, List.map_nil, List.replicate, List.cons_append, List.nil_append, List.getElem?_cons_zero, List.getElem?_cons_succ, List.set_cons_zero, List.set_cons_succ, wipeE, seqOf, if_true, at_ways h.lo hm]
  exact (below_pu h.rise (Nat.le_trans h.len (by decide)) hb).go (kX (kX k))
theorem rising_list {S : Sto} {ns : List Int} {k : Nat} {Q : A → Sto → Prop} (hk : lstAt S k = some (ns.map A.int)) (h : ns.Pairwise (· < ·)) (hl : ns.length ≤ 100) (kq : ∀ X, Q (.bl true) (S ++ X)) : WC m_are_rising [.ref k] S Q := by
  unfold m_are_rising f_are_rising
  simp only [wc_def, ws_seq, ws_if, ws_asg, ws_ret, ws_retN, ws_next, ws_break, ws_cont, ws_drop, ws_par, ws_for, ws_while, wt_b, wt_and, wt_or, wt_not, wt_yes, we_op, we_var, we_c, we_neg, we_and, we_or, we_not, we_ifE, we_tup, we_lst, we_call, wa_nil, wa_cons, wo_ge, wo_gt, wo_le, wo_lt, wo_pow, wo_mod, wo_mul, wo_add, wo_sub, wo_div, wo_ix, wg_name, wg_nil, wg_cons, wg_seq, wg_sub, wc_len, wc_abs, wc_min2, we_chain, we_dic, wc_list, we_rev, wo_is, wc_tuple, wp_none, wp_some, we_slice, ww_zip, zip_tt, we_lc, wo_eqI, wo_neI, wo_eqB, wo_eqP, Nat.zero_add, Nat.reduceAdd, ww_rng1, ww_seq, List.length_cons, List.length_nil, List.map_cons, List.map_nil, List.replicate, List.cons_append, List.nil_append, List.getElem?_cons_zero, List.getElem?_cons_succ, List.set_cons_zero, List.set_cons_succ, wipeE, hk, cut_tail]
  refine ⟨trivial, ?_⟩
  rw [zip_rr (lstAt_pre hk) lstAt_at]
  have hit : ∀ (i : Nat) (R : Sto), FI.item ((S ++ [SO.lst ((ns.map A.int).drop 1)]) ++ R) i (.live2 k S.length) = some (List.zipWith (fun x y => A.tup [x, y]) (ns.map A.int) ((ns.map A.int).drop 1))[i]? := fun i R => by
    have e1 : lstAt ((S ++ [SO.lst ((ns.map A.int).drop 1)]) ++ R) k = some (ns.map A.int) := lstAt_pre (lstAt_pre hk)
    have e2 : lstAt ((S ++ [SO.lst ((ns.map A.int).drop 1)]) ++ R) S.length = some ((ns.map A.int).drop 1) := lstAt_pre lstAt_at
    simp only [FI.item, e1, e2, zip_get]
  have hlen : FI.len (S ++ [SO.lst ((ns.map A.int).drop 1)]) (.live2 k S.length) = (List.zipWith (fun x y => A.tup [x, y]) (ns.map A.int) ((ns.map A.int).drop 1)).length := by
    have e1 : lstAt (S ++ [SO.lst ((ns.map A.int).drop 1)]) k = some (ns.map A.int) := lstAt_pre hk
    have e2 : lstAt (S ++ [SO.lst ((ns.map A.int).drop 1)]) S.length = some ((ns.map A.int).drop 1) := lstAt_at
    simp only [FI.len, e1, e2, List.length_zipWith]
  refine all_grow (xs := List.zipWith (fun x y => A.tup [x, y]) (ns.map A.int) ((ns.map A.int).drop 1)) ?_ hlen hit (fun x hx S1 Q1 k1 => ?_) fun X => ?_
  · rw [List.length_zipWith, List.length_map]
    exact Nat.lt_of_le_of_lt (Nat.min_le_left _ _) (Nat.lt_of_le_of_lt hl (by decide))
  · obtain ⟨a, b, rfl, hab⟩ := rise_pairs h x hx
    exact pair_lt (S := S) (e := []) hab _ S1 Q1 k1
  · rw [List.append_assoc]
    exact kq _
theorem parts_pu {ws : List Int} {ps : List Part} (h : ∀ x ∈ ps, PartOk ws x) (hr : (ps.map (·.1)).Pairwise (· < ·)) (hl : ps.length ≤ 10) : Pu m_are_parts [.tup (ws.map A.int), .tup (ps.map partA)] (.bl true) := by
  intro S Q k
  unfold m_are_parts f_are_parts
  simp only [wc_def, ws_seq, ws_if, ws_asg, ws_ret, ws_retN, ws_next, ws_break, ws_cont, ws_drop, ws_par, ws_for, ws_while, wt_b, wt_and, wt_or, wt_not, wt_yes, we_op, we_var, we_c, we_neg, we_and, we_or, we_not, we_ifE, we_tup, we_lst, we_call, wa_nil, wa_cons, wo_ge, wo_gt, wo_le, wo_lt, wo_pow, wo_mod, wo_mul, wo_add, wo_sub, wo_div, wo_ix, wg_name, wg_nil, wg_cons, wg_seq, wg_sub, wc_len, wc_abs, wc_min2, we_chain, we_dic, wc_list, we_rev, wo_is, wc_tuple, wp_none, wp_some, we_slice, ww_zip, zip_tt, we_lc, wo_eqI, wo_neI, wo_eqB, wo_eqP, Nat.zero_add, Nat.reduceAdd, ww_rng1, ww_seq, List.length_cons, List.length_nil, List.map_cons, List.map_nil, List.replicate, List.cons_append, List.nil_append, List.getElem?_cons_zero, List.getElem?_cons_succ, List.set_cons_zero, List.set_cons_succ, wipeE, wc_isi, tyAS, tyA, kit_tuple_tuple]
  refine ⟨trivial, ?_⟩
  rw [if_neg (by decide)]
  have hls : ps.length < sizeLine := Nat.lt_of_le_of_lt hl (by decide)
  refine all_grow (xs := ps.map partA) (by rw [List.length_map]; exact hls) rfl item_items (fun x hx S1 Q1 k1 => ?_) fun X => ?_
  · obtain ⟨y, hy, rfl⟩ := List.mem_map.mp hx
    simp only [wc_def, ws_seq, ws_if, ws_asg, ws_ret, ws_retN, ws_next, ws_break, ws_cont, ws_drop, ws_par, ws_for, ws_while, wt_b, wt_and, wt_or, wt_not, wt_yes, we_op, we_var, we_c, we_neg, we_and, we_or, we_not, we_ifE, we_tup, we_lst, we_call, wa_nil, wa_cons, wo_ge, wo_gt, wo_le, wo_lt, wo_pow, wo_mod, wo_mul, wo_add, wo_sub, wo_div, wo_ix, wg_name, wg_nil, wg_cons, wg_seq, wg_sub, wc_len, wc_abs, wc_min2, we_chain, we_dic, wc_list, we_rev, wo_is, wc_tuple, wp_none, wp_some, we_slice, ww_zip, zip_tt, we_lc, wo_eqI, wo_neI, wo_eqB, wo_eqP, Nat.zero_add, Nat.reduceAdd, ww_rng1, ww_seq, List.length_cons, List.length_nil, List.map_cons, List.map_nil, List.replicate, List.cons_append, List.nil_append, List.getElem?_cons_zero, List.getElem?_cons_succ, List.set_cons_zero, List.set_cons_succ, wipeE]
    exact (part_pu (h y hy)).go k1
  · simp only [wc_def, ws_seq, ws_if, ws_asg, ws_ret, ws_retN, ws_next, ws_break, ws_cont, ws_drop, ws_par, ws_for, ws_while, wt_b, wt_and, wt_or, wt_not, wt_yes, we_op, we_var, we_c, we_neg, we_and, we_or, we_not, we_ifE, we_tup, we_lst, we_call, wa_nil, wa_cons, wo_ge, wo_gt, wo_le, wo_lt, wo_pow, wo_mod, wo_mul, wo_add, wo_sub, wo_div, wo_ix, wg_name, wg_nil, wg_cons, wg_seq, wg_sub, wc_len, wc_abs, wc_min2, we_chain, we_dic, wc_list, we_rev, wo_is, wc_tuple, wp_none, wp_some, we_slice, ww_zip, zip_tt, we_lc, wo_eqI, wo_neI, wo_eqB, wo_eqP, Nat.zero_add, Nat.reduceAdd, ww_rng1, ww_seq, List.length_cons, List.length_nil, List.map_cons, List.map_nil, List.replicate, List.cons_append, List.nil_append, List.getElem?_cons_zero, List.getElem?_cons_succ, List.set_cons_zero, List.set_cons_succ, wipeE]
    rw [if_neg (by decide)]
    refine lc_map (ys := ps) (emb := partA) (fun _ => true) (fun y => .int y.1) hls (by simp [FI.len]) item_items (fun y hy S1 Q1 _ k2 => ?_) fun Y => ?_
    · have ey : ∀ S, seqOf S (partA y) = some [.int y.1, .tup (y.2.map A.int)] := fun S => rfl
      simp only [wc_def, ws_seq, ws_if, ws_asg, ws_ret, ws_retN, ws_next, ws_break, ws_cont, ws_drop, ws_par, ws_for, ws_while, wt_b, wt_and, wt_or, wt_not, wt_yes, we_op, we_var, we_c, we_neg, we_and, we_or, we_not, we_ifE, we_tup, we_lst, we_call, wa_nil, wa_cons, wo_ge, wo_gt, wo_le, wo_lt, wo_pow, wo_mod, wo_mul, wo_add, wo_sub, wo_div, wo_ix, wg_name, wg_nil, wg_cons, wg_seq, wg_sub, wc_len, wc_abs, wc_min2, we_chain, we_dic, wc_list, we_rev, wo_is, wc_tuple, wp_none, wp_some, we_slice, ww_zip, zip_tt, we_lc, wo_eqI, wo_neI, wo_eqB, wo_eqP, Nat.zero_add, Nat.reduceAdd, ww_rng1, ww_seq, List.length_cons, List.length_nil, List.map_cons, List.map_nil, List.replicate, List.cons_append, List.nil_append, List.getElem?_cons_zero, List.getElem?_cons_succ, List.set_cons_zero, List.set_cons_succ, wipeE, ey]
      refine ⟨trivial, ?_⟩
      rw [if_pos trivial]
      have := k2 [] rfl
      rw [List.append_nil] at this
      exact this
    · have e : ((ps.filter fun _ => true).map fun y => A.int y.1) = (ps.map (·.1)).map A.int := by
        rw [List.filter_eq_self.mpr (fun _ _ => rfl), List.map_map]
        rfl
      rw [e]
      refine rising_list lstAt_at hr (by rw [List.length_map]; omega) fun Z => ?_
      rw [List.append_assoc, List.append_assoc]
      exact k _
theorem kind_inC (b : Bool) : (if false = true then !inV (vOf (.str (kindS b))) ([("all" : Str), "some"].map V.str) else inV (vOf (.str (kindS b))) ([("all" : Str), "some"].map V.str)) = true := by cases b <;> decide +kernel
theorem wish_pu {ws : List Int} {w : Wish} (h : WishOk ws w) : Pu m_is_wish [.tup (ws.map A.int), wishA w] (.bl true) := by
  intro S Q k
  unfold m_is_wish f_is_wish wishA
  simp only [wc_def, ws_seq, ws_if, ws_asg, ws_ret, ws_retN, ws_next, ws_break, ws_cont, ws_drop, ws_par, ws_for, ws_while, wt_b, wt_and, wt_or, wt_not, wt_yes, we_op, we_var, we_c, we_neg, we_and, we_or, we_not, we_ifE, we_tup, we_lst, we_call, wa_nil, wa_cons, wo_ge, wo_gt, wo_le, wo_lt, wo_pow, wo_mod, wo_mul, wo_add, wo_sub, wo_div, wo_ix, wg_name, wg_nil, wg_cons, wg_seq, wg_sub, wc_len, wc_abs, wc_min2, we_chain, we_dic, wc_list, we_rev, wo_is, wc_tuple, wp_none, wp_some, we_slice, ww_zip, zip_tt, we_lc, wo_eqI, wo_neI, wo_eqB, wo_eqP, Nat.zero_add, Nat.reduceAdd, ww_rng1, ww_seq, List.length_cons, List.length_nil, List.map_cons, List.map_nil, List.replicate, List.cons_append, List.nil_append, List.getElem?_cons_zero, List.getElem?_cons_succ, List.set_cons_zero, List.set_cons_succ, wipeE]
  refine ⟨trivial, (tupof_pu (n := 3) rfl).go fun X => ?_⟩
  simp only [wc_def, ws_seq, ws_if, ws_asg, ws_ret, ws_retN, ws_next, ws_break, ws_cont, ws_drop, ws_par, ws_for, ws_while, wt_b, wt_and, wt_or, wt_not, wt_yes, we_op, we_var, we_c, we_neg, we_and, we_or, we_not, we_ifE, we_tup, we_lst, we_call, wa_nil, wa_cons, wo_ge, wo_gt, wo_le, wo_lt, wo_pow, wo_mod, wo_mul, wo_add, wo_sub, wo_div, wo_ix, wg_name, wg_nil, wg_cons, wg_seq, wg_sub, wc_len, wc_abs, wc_min2, we_chain, we_dic, wc_list, we_rev, wo_is, wc_tuple, wp_none, wp_some, we_slice, ww_zip, zip_tt, we_lc, wo_eqI, wo_neI, wo_eqB, wo_eqP, Nat.zero_add, Nat.reduceAdd, ww_rng1, ww_seq, List.length_cons, List.length_nil, List.map_cons, List.map_nil, List.replicate, List.cons_append, List.nil_append, List.getElem?_cons_zero, List.getElem?_cons_succ, List.set_cons_zero, List.set_cons_succ, wipeE, seqOf]
  rw [if_neg (by decide)]
  refine ⟨trivial, ?_⟩
  rw [we_inC, we_var]
  simp only [wc_def, ws_seq, ws_if, ws_asg, ws_ret, ws_retN, ws_next, ws_break, ws_cont, ws_drop, ws_par, ws_for, ws_while, wt_b, wt_and, wt_or, wt_not, wt_yes, we_op, we_var, we_c, we_neg, we_and, we_or, we_not, we_ifE, we_tup, we_lst, we_call, wa_nil, wa_cons, wo_ge, wo_gt, wo_le, wo_lt, wo_pow, wo_mod, wo_mul, wo_add, wo_sub, wo_div, wo_ix, wg_name, wg_nil, wg_cons, wg_seq, wg_sub, wc_len, wc_abs, wc_min2, we_chain, we_dic, wc_list, we_rev, wo_is, wc_tuple, wp_none, wp_some, we_slice, ww_zip, zip_tt, we_lc, wo_eqI, wo_neI, wo_eqB, wo_eqP, Nat.zero_add, Nat.reduceAdd, ww_rng1, ww_seq, List.length_cons, List.length_nil, List.map_cons, List.map_nil, List.replicate, List.cons_append, List.nil_append, List.getElem?_cons_zero, List.getElem?_cons_succ, List.set_cons_zero, List.set_cons_succ, wipeE, flatA, true_and]
  rw [show (if false = true then !inV (vOf (A.str (kindS w.all))) [V.str (Str.ofString "all"), V.str (Str.ofString "some")] else inV (vOf (A.str (kindS w.all))) [V.str (Str.ofString "all"), V.str (Str.ofString "some")]) = true from kind_inC _, if_pos rfl]
  refine (within_pu h.lo h.hi).go fun X2 => ?_
  simp only [wc_def, ws_seq, ws_if, ws_asg, ws_ret, ws_retN, ws_next, ws_break, ws_cont, ws_drop, ws_par, ws_for, ws_while, wt_b, wt_and, wt_or, wt_not, wt_yes, we_op, we_var, we_c, we_neg, we_and, we_or, we_not, we_ifE, we_tup, we_lst, we_call, wa_nil, wa_cons, wo_ge, wo_gt, wo_le, wo_lt, wo_pow, wo_mod, wo_mul, wo_add, wo_sub, wo_div, wo_ix, wg_name, wg_nil, wg_cons, wg_seq, wg_sub, wc_len, wc_abs, wc_min2, we_chain, we_dic, wc_list, we_rev, wo_is, wc_tuple, wp_none, wp_some, we_slice, ww_zip, zip_tt, we_lc, wo_eqI, wo_neI, wo_eqB, wo_eqP, Nat.zero_add, Nat.reduceAdd, ww_rng1, ww_seq, List.length_cons, List.length_nil, List.map_cons, List.map_nil, List.replicate, List.cons_append, List.nil_append, List.getElem?_cons_zero, List.getElem?_cons_succ, List.set_cons_zero, List.set_cons_succ, wipeE, if_true]
  exact (parts_pu h.ok h.rise h.len).go (kX (kX k))
theorem wishes_pu {ws : List Int} {vs : List Wish} (h : ∀ w ∈ vs, WishOk ws w) (hl : vs.length ≤ 16) : Pu m_are_wishes [.tup (ws.map A.int), .tup (vs.map wishA)] (.bl true) := by
  intro S Q k
  unfold m_are_wishes f_are_wishes
  simp only [wc_def, ws_seq, ws_if, ws_asg, ws_ret, ws_retN, ws_next, ws_break, ws_cont, ws_drop, ws_par, ws_for, ws_while, wt_b, wt_and, wt_or, wt_not, wt_yes, we_op, we_var, we_c, we_neg, we_and, we_or, we_not, we_ifE, we_tup, we_lst, we_call, wa_nil, wa_cons, wo_ge, wo_gt, wo_le, wo_lt, wo_pow, wo_mod, wo_mul, wo_add, wo_sub, wo_div, wo_ix, wg_name, wg_nil, wg_cons, wg_seq, wg_sub, wc_len, wc_abs, wc_min2, we_chain, we_dic, wc_list, we_rev, wo_is, wc_tuple, wp_none, wp_some, we_slice, ww_zip, zip_tt, we_lc, wo_eqI, wo_neI, wo_eqB, wo_eqP, Nat.zero_add, Nat.reduceAdd, ww_rng1, ww_seq, List.length_cons, List.length_nil, List.map_cons, List.map_nil, List.replicate, List.cons_append, List.nil_append, List.getElem?_cons_zero, List.getElem?_cons_succ, List.set_cons_zero, List.set_cons_succ, wipeE, wc_isi, tyAS, tyA, kit_tuple_tuple, seqOf]
  refine ⟨trivial, ?_⟩
  rw [if_neg (by decide), if_neg (by rw [List.length_map, decide_eq_true_eq]; omega)]
  refine all_grow (xs := vs.map wishA) ?_ rfl item_items (fun x hx S1 Q1 k1 => ?_) fun X => k X
  · rw [List.length_map]
    exact Nat.lt_of_le_of_lt hl (by decide)
  · obtain ⟨y, hy, rfl⟩ := List.mem_map.mp hx
    simp only [wc_def, ws_seq, ws_if, ws_asg, ws_ret, ws_retN, ws_next, ws_break, ws_cont, ws_drop, ws_par, ws_for, ws_while, wt_b, wt_and, wt_or, wt_not, wt_yes, we_op, we_var, we_c, we_neg, we_and, we_or, we_not, we_ifE, we_tup, we_lst, we_call, wa_nil, wa_cons, wo_ge, wo_gt, wo_le, wo_lt, wo_pow, wo_mod, wo_mul, wo_add, wo_sub, wo_div, wo_ix, wg_name, wg_nil, wg_cons, wg_seq, wg_sub, wc_len, wc_abs, wc_min2, we_chain, we_dic, wc_list, we_rev, wo_is, wc_tuple, wp_none, wp_some, we_slice, ww_zip, zip_tt, we_lc, wo_eqI, wo_neI, wo_eqB, wo_eqP, Nat.zero_add, Nat.reduceAdd, ww_rng1, ww_seq, List.length_cons, List.length_nil, List.map_cons, List.map_nil, List.replicate, List.cons_append, List.nil_append, List.getElem?_cons_zero, List.getElem?_cons_succ, List.set_cons_zero, List.set_cons_succ, wipeE]
    exact (wish_pu (h y hy)).go k1
theorem sheet_pu {ws : List Int} {vs : List Wish} (h : SheetOk ws vs) : Pu m_is_sheet [sheetA ws vs] (.bl true) := by
  intro S Q k
  unfold m_is_sheet f_is_sheet sheetA
  simp only [wc_def, ws_seq, ws_if, ws_asg, ws_ret, ws_retN, ws_next, ws_break, ws_cont, ws_drop, ws_par, ws_for, ws_while, wt_b, wt_and, wt_or, wt_not, wt_yes, we_op, we_var, we_c, we_neg, we_and, we_or, we_not, we_ifE, we_tup, we_lst, we_call, wa_nil, wa_cons, wo_ge, wo_gt, wo_le, wo_lt, wo_pow, wo_mod, wo_mul, wo_add, wo_sub, wo_div, wo_ix, wg_name, wg_nil, wg_cons, wg_seq, wg_sub, wc_len, wc_abs, wc_min2, we_chain, we_dic, wc_list, we_rev, wo_is, wc_tuple, wp_none, wp_some, we_slice, ww_zip, zip_tt, we_lc, wo_eqI, wo_neI, wo_eqB, wo_eqP, Nat.zero_add, Nat.reduceAdd, ww_rng1, ww_seq, List.length_cons, List.length_nil, List.map_cons, List.map_nil, List.replicate, List.cons_append, List.nil_append, List.getElem?_cons_zero, List.getElem?_cons_succ, List.set_cons_zero, List.set_cons_succ, wipeE]
  refine ⟨trivial, (tupof_pu (n := 2) rfl).go fun X => ?_⟩
  simp only [wc_def, ws_seq, ws_if, ws_asg, ws_ret, ws_retN, ws_next, ws_break, ws_cont, ws_drop, ws_par, ws_for, ws_while, wt_b, wt_and, wt_or, wt_not, wt_yes, we_op, we_var, we_c, we_neg, we_and, we_or, we_not, we_ifE, we_tup, we_lst, we_call, wa_nil, wa_cons, wo_ge, wo_gt, wo_le, wo_lt, wo_pow, wo_mod, wo_mul, wo_add, wo_sub, wo_div, wo_ix, wg_name, wg_nil, wg_cons, wg_seq, wg_sub, wc_len, wc_abs, wc_min2, we_chain, we_dic, wc_list, we_rev, wo_is, wc_tuple, wp_none, wp_some, we_slice, ww_zip, zip_tt, we_lc, wo_eqI, wo_neI, wo_eqB, wo_eqP, Nat.zero_add, Nat.reduceAdd, ww_rng1, ww_seq, List.length_cons, List.length_nil, List.map_cons, List.map_nil, List.replicate, List.cons_append, List.nil_append, List.getElem?_cons_zero, List.getElem?_cons_succ, List.set_cons_zero, List.set_cons_succ, wipeE, seqOf]
  rw [if_neg (by decide)]
  refine ⟨trivial, (ways_pu h.len h.ok).go fun X2 => ?_⟩
  simp only [wc_def, ws_seq, ws_if, ws_asg, ws_ret, ws_retN, ws_next, ws_break, ws_cont, ws_drop, ws_par, ws_for, ws_while, wt_b, wt_and, wt_or, wt_not, wt_yes, we_op, we_var, we_c, we_neg, we_and, we_or, we_not, we_ifE, we_tup, we_lst, we_call, wa_nil, wa_cons, wo_ge, wo_gt, wo_le, wo_lt, wo_pow, wo_mod, wo_mul, wo_add, wo_sub, wo_div, wo_ix, wg_name, wg_nil, wg_cons, wg_seq, wg_sub, wc_len, wc_abs, wc_min2, we_chain, we_dic, wc_list, we_rev, wo_is, wc_tuple, wp_none, wp_some, we_slice, ww_zip, zip_tt, we_lc, wo_eqI, wo_neI, wo_eqB, wo_eqP, Nat.zero_add, Nat.reduceAdd, ww_rng1, ww_seq, List.length_cons, List.length_nil, List.map_cons, List.map_nil, List.replicate, List.cons_append, List.nil_append, List.getElem?_cons_zero, List.getElem?_cons_succ, List.set_cons_zero, List.set_cons_succ, wipeE, if_true]
  exact (wishes_pu h.ok2 h.len2).go (kX (kX k))
theorem need_sheet_pu {ws : List Int} {vs : List Wish} (h : SheetOk ws vs) : Pu m_need_sheet [sheetA ws vs] .non := by
  intro S Q k
  unfold m_need_sheet f_need_sheet
  simp only [wc_def, ws_seq, ws_if, ws_asg, ws_ret, ws_retN, ws_next, ws_break, ws_cont, ws_drop, ws_par, ws_for, ws_while, wt_b, wt_and, wt_or, wt_not, wt_yes, we_op, we_var, we_c, we_neg, we_and, we_or, we_not, we_ifE, we_tup, we_lst, we_call, wa_nil, wa_cons, wo_ge, wo_gt, wo_le, wo_lt, wo_pow, wo_mod, wo_mul, wo_add, wo_sub, wo_div, wo_ix, wg_name, wg_nil, wg_cons, wg_seq, wg_sub, wc_len, wc_abs, wc_min2, we_chain, we_dic, wc_list, we_rev, wo_is, wc_tuple, wp_none, wp_some, we_slice, ww_zip, zip_tt, we_lc, wo_eqI, wo_neI, wo_eqB, wo_eqP, Nat.zero_add, Nat.reduceAdd, ww_rng1, ww_seq, List.length_cons, List.length_nil, List.map_cons, List.map_nil, List.replicate, List.cons_append, List.nil_append, List.getElem?_cons_zero, List.getElem?_cons_succ, List.set_cons_zero, List.set_cons_succ, wipeE]
  refine ⟨trivial, (sheet_pu h).go fun X => ?_⟩
  simp only [wc_def, ws_seq, ws_if, ws_asg, ws_ret, ws_retN, ws_next, ws_break, ws_cont, ws_drop, ws_par, ws_for, ws_while, wt_b, wt_and, wt_or, wt_not, wt_yes, we_op, we_var, we_c, we_neg, we_and, we_or, we_not, we_ifE, we_tup, we_lst, we_call, wa_nil, wa_cons, wo_ge, wo_gt, wo_le, wo_lt, wo_pow, wo_mod, wo_mul, wo_add, wo_sub, wo_div, wo_ix, wg_name, wg_nil, wg_cons, wg_seq, wg_sub, wc_len, wc_abs, wc_min2, we_chain, we_dic, wc_list, we_rev, wo_is, wc_tuple, wp_none, wp_some, we_slice, ww_zip, zip_tt, we_lc, wo_eqI, wo_neI, wo_eqB, wo_eqP, Nat.zero_add, Nat.reduceAdd, ww_rng1, ww_seq, List.length_cons, List.length_nil, List.map_cons, List.map_nil, List.replicate, List.cons_append, List.nil_append, List.getElem?_cons_zero, List.getElem?_cons_succ, List.set_cons_zero, List.set_cons_succ, wipeE]
  rw [if_neg (by decide)]
  exact k X
structure ChOk (ws cs : List Int) : Prop where
  len : cs.length = ws.length
  ok : ∀ (i : Nat) (c m : Int), cs[i]? = some c → ws[i]? = some m → 0 ≤ c ∧ c ≤ m - 1
def FewOk (m : Int) (l : List Int) : Prop := l.Pairwise (· < ·) ∧ l.length ≤ 4 ∧ ∀ i ∈ l, 0 ≤ i ∧ i ≤ m - 1
theorem few_filter {m : Int} (h1 : 1 ≤ m) (h4 : m ≤ 4) (p : Nat → Bool) : FewOk m (((List.range m.toNat).filter p).map fun i => ((i : Nat) : Int)) := by
  refine ⟨?_, ?_, ?_⟩
  · rw [List.pairwise_map]
    exact (List.pairwise_lt_range.filter _).imp fun h => by omega
  · rw [List.length_map]
    refine Nat.le_trans (List.length_filter_le _ _) ?_
    rw [List.length_range]
    omega
  · intro i hi
    obtain ⟨j, hj, rfl⟩ := List.mem_map.mp hi
    have := List.mem_range.mp (List.mem_filter.mp hj).1
    omega
theorem b_few_tk {m : Int} (h1 : 1 ≤ m) (h4 : m ≤ 4) : Tk m_b_few [.ref 1, .int m] fun v => ∃ l, v = .tup (l.map A.int) ∧ FewOk m l := by
  intro ns p q G Q h0 k
  unfold m_b_few f_b_few
  simp only [wc_def, ws_seq, ws_if, ws_asg, ws_ret, ws_retN, ws_next, ws_break, ws_cont, ws_drop, ws_par, ws_for, ws_while, wt_b, wt_and, wt_or, wt_not, wt_yes, we_op, we_var, we_c, we_neg, we_and, we_or, we_not, we_ifE, we_tup, we_lst, we_call, wa_nil, wa_cons, wo_ge, wo_gt, wo_le, wo_lt, wo_pow, wo_mod, wo_mul, wo_add, wo_sub, wo_div, wo_ix, wg_name, wg_nil, wg_cons, wg_seq, wg_sub, wc_len, wc_abs, wc_min2, we_chain, we_dic, wc_list, we_rev, wo_is, wc_tuple, wp_none, wp_some, we_slice, ww_zip, zip_tt, we_lc, wo_eqI, wo_neI, wo_eqB, wo_eqP, Nat.zero_add, Nat.reduceAdd, ww_rng1, ww_seq, List.length_cons, List.length_nil, List.map_cons, List.map_nil, List.replicate, List.cons_append, List.nil_append, List.getElem?_cons_zero, List.getElem?_cons_succ, List.set_cons_zero, List.set_cons_succ, wipeE, ts_app, ts_len, ts_seq]
  refine ⟨trivial, by decide, ?_⟩
  obtain ⟨c, hc, hm⟩ := at_mem (xs := [A.int 2, A.int 4, A.int 8, A.int 16]) (p := m - 1) (by omega) (by simp only [List.length_cons, List.length_nil]; omega)
  have hc2 : ∃ b : Int, c = .int b ∧ 0 < b ∧ b ≤ 16 := by
    simp only [List.mem_cons, List.not_mem_nil, or_false] at hm
    rcases hm with rfl | rfl | rfl | rfl
    · exact ⟨_, rfl, by decide, by decide⟩
    · exact ⟨_, rfl, by decide, by decide⟩
    · exact ⟨_, rfl, by decide, by decide⟩
    · exact ⟨_, rfl, by decide, by decide⟩
  obtain ⟨b, rfl, hb0, hb⟩ := hc2
  simp only [hc]
  refine (take_tk hb0 (Nat.lt_of_lt_of_le (Nat.log2_lt (by omega) |>.mpr (show b.natAbs < 2 ^ 5 by omega)) (by decide))).go h0 fun v p' q' X hv hp => ?_
  obtain ⟨i, rfl, hi0, hi⟩ := hv
  refine ⟨⟨by omega, by omega⟩, ?_⟩
  have hw : ∀ j ∈ List.range m.toNat, ∃ c : Int, atI [A.int 1, A.int 2, A.int 4, A.int 8] ((j : Nat) : Int) = some (.int c) ∧ 0 < c ∧ c ≤ 8 := by
    intro j hj
    have := List.mem_range.mp hj
    obtain ⟨c, hc, hm⟩ := at_mem (xs := [A.int 1, A.int 2, A.int 4, A.int 8]) (p := ((j : Nat) : Int)) (by omega) (by simp only [List.length_cons, List.length_nil]; omega)
    simp only [List.mem_cons, List.not_mem_nil, or_false] at hm
    rcases hm with rfl | rfl | rfl | rfl
    · exact ⟨_, hc, by decide, by decide⟩
    · exact ⟨_, hc, by decide, by decide⟩
    · exact ⟨_, hc, by decide, by decide⟩
    · exact ⟨_, hc, by decide, by decide⟩
  have hw2 : ∀ j : Nat, ∃ c : Int, j ∈ List.range m.toNat → (atI [A.int 1, A.int 2, A.int 4, A.int 8] ((j : Nat) : Int) = some (.int c) ∧ 0 < c ∧ c ≤ 8) := fun j => by
    by_cases hj : j ∈ List.range m.toNat
    · obtain ⟨c, h⟩ := hw j hj
      exact ⟨c, fun _ => h⟩
    · exact ⟨0, fun h => absurd h hj⟩
  obtain ⟨cf, hcf⟩ : ∃ cf : Nat → Int, ∀ j ∈ List.range m.toNat, (atI [A.int 1, A.int 2, A.int 4, A.int 8] ((j : Nat) : Int) = some (.int (cf j)) ∧ 0 < cf j ∧ cf j ≤ 8) := ⟨fun j => Classical.choose (hw2 j), fun j hj => Classical.choose_spec (hw2 j) hj⟩
  refine lc_map (ys := List.range m.toNat) (emb := fun j => A.int (0 + (j : Nat))) (fun j => decide (i / cf j % 2 = 1)) (fun j => .int ((j : Nat) : Int)) ?_ ?_ (item_items) (fun j hj S1 Q1 k1 k2 => ?_) fun X2 => ?_
  · rw [List.length_range]
    exact Nat.lt_of_le_of_lt (show m.toNat ≤ 4 by omega) (by decide)
  · simp [FI.len, rngA]
  · obtain ⟨e1, e2, e3⟩ := hcf j hj
    simp only [wc_def, ws_seq, ws_if, ws_asg, ws_ret, ws_retN, ws_next, ws_break, ws_cont, ws_drop, ws_par, ws_for, ws_while, wt_b, wt_and, wt_or, wt_not, wt_yes, we_op, we_var, we_c, we_neg, we_and, we_or, we_not, we_ifE, we_tup, we_lst, we_call, wa_nil, wa_cons, wo_ge, wo_gt, wo_le, wo_lt, wo_pow, wo_mod, wo_mul, wo_add, wo_sub, wo_div, wo_ix, wg_name, wg_nil, wg_cons, wg_seq, wg_sub, wc_len, wc_abs, wc_min2, we_chain, we_dic, wc_list, we_rev, wo_is, wc_tuple, wp_none, wp_some, we_slice, ww_zip, zip_tt, we_lc, wo_eqI, wo_neI, wo_eqB, wo_eqP, Nat.zero_add, Nat.reduceAdd, ww_rng1, ww_seq, List.length_cons, List.length_nil, List.map_cons, List.map_nil, List.replicate, List.cons_append, List.nil_append, List.getElem?_cons_zero, List.getElem?_cons_succ, List.set_cons_zero, List.set_cons_succ, wipeE, Int.zero_add, seq_at, e1]
    refine ⟨by decide, divOk_of e2 (Nat.lt_of_lt_of_le (Nat.log2_lt (by omega) |>.mpr (show (cf j).natAbs < 2 ^ 4 by omega)) (by decide)), by decide, ?_⟩
    cases e : decide (i / cf j % 2 = 1) with
    | true => exact k2 _ e
    | false => exact k1 _ e
  · rw [seq_at, ts_app, List.append_assoc, List.append_assoc]
    refine k _ _ _ _ ⟨((List.range m.toNat).filter fun j => decide (i / cf j % 2 = 1)).map fun i => ((i : Nat) : Int), ?_, few_filter h1 h4 _⟩ hp
    rw [List.map_map]
    rfl
theorem range_ints (n : Nat) : rngA 0 n = (List.range n).map fun i => A.int ((i : Nat) : Int) := by
  unfold rngA
  simp only [Int.zero_add]
theorem b_wish_tk {ws : List Int} (hl : ws.length ≤ 10) (hws : ∀ m ∈ ws, 1 ≤ m ∧ m ≤ 4) : Tk m_b_wish [.ref 1, .tup (ws.map A.int)] fun v => ∃ w, v = wishA w ∧ WishOk ws w := by
  refine Tk.mk' fun ns p q G Q h0 k => ?_
  unfold m_b_wish f_b_wish
  simp only [wc_def, ws_seq, ws_if, ws_asg, ws_ret, ws_retN, ws_next, ws_break, ws_cont, ws_drop, ws_par, ws_for, ws_while, wt_b, wt_and, wt_or, wt_not, wt_yes, we_op, we_var, we_c, we_neg, we_and, we_or, we_not, we_ifE, we_tup, we_lst, we_call, wa_nil, wa_cons, wo_ge, wo_gt, wo_le, wo_lt, wo_pow, wo_mod, wo_mul, wo_add, wo_sub, wo_div, wo_ix, wg_name, wg_nil, wg_cons, wg_seq, wg_sub, wc_len, wc_abs, wc_min2, we_chain, we_dic, wc_list, we_rev, wo_is, wc_tuple, wp_none, wp_some, we_slice, ww_zip, zip_tt, we_lc, wo_eqI, wo_neI, wo_eqB, wo_eqP, Nat.zero_add, Nat.reduceAdd, ww_rng1, ww_seq, List.length_cons, List.length_nil, List.map_cons, List.map_nil, List.replicate, List.cons_append, List.nil_append, List.getElem?_cons_zero, List.getElem?_cons_succ, List.set_cons_zero, List.set_cons_succ, wipeE, ts_app, ts_len, seqOf]
  refine ⟨trivial, by decide, ?_⟩
  refine (take_tk (m := 2) (by decide) (by decide)).ge h0 fun v p1 q1 G1 hv hp1 x1 => ?_
  obtain ⟨v, rfl, hv0, hv1⟩ := hv
  obtain ⟨c, hc, hm⟩ := at_mem (xs := [A.str "all", A.str "some"]) (p := v) hv0 (by simp only [List.length_cons, List.length_nil]; omega)
  have hk : ∃ b, c = .str (kindS b) := by
    simp only [List.mem_cons, List.not_mem_nil, or_false] at hm
    rcases hm with rfl | rfl
    · exact ⟨true, rfl⟩
    · exact ⟨false, rfl⟩
  obtain ⟨kb, rfl⟩ := hk
  simp only [wc_def, ws_seq, ws_if, ws_asg, ws_ret, ws_retN, ws_next, ws_break, ws_cont, ws_drop, ws_par, ws_for, ws_while, wt_b, wt_and, wt_or, wt_not, wt_yes, we_op, we_var, we_c, we_neg, we_and, we_or, we_not, we_ifE, we_tup, we_lst, we_call, wa_nil, wa_cons, wo_ge, wo_gt, wo_le, wo_lt, wo_pow, wo_mod, wo_mul, wo_add, wo_sub, wo_div, wo_ix, wg_name, wg_nil, wg_cons, wg_seq, wg_sub, wc_len, wc_abs, wc_min2, we_chain, we_dic, wc_list, we_rev, wo_is, wc_tuple, wp_none, wp_some, we_slice, ww_zip, zip_tt, we_lc, wo_eqI, wo_neI, wo_eqB, wo_eqP, Nat.zero_add, Nat.reduceAdd, ww_rng1, ww_seq, List.length_cons, List.length_nil, List.map_cons, List.map_nil, List.replicate, List.cons_append, List.nil_append, List.getElem?_cons_zero, List.getElem?_cons_succ, List.set_cons_zero, List.set_cons_succ, wipeE, ts_sq x1, hc]
  replace x1 := x1.of
  refine (take_tk (m := 10) (by decide) (by decide)).ge hp1 fun v p2 q2 G2 hv hp2 x2 => ?_
  obtain ⟨w1, rfl, hw10, hw11⟩ := hv
  replace x2 := x1.trans x2
  refine (take_tk (m := 100) (by decide) (by decide)).ge hp2 fun v p3 q3 G3 hv hp3 x3 => ?_
  obtain ⟨w2, rfl, hw20, hw21⟩ := hv
  replace x3 := x2.trans x3
  refine ⟨by decide, ?_⟩
  simp only [ts_app, ts_len]
  refine (take_tk (m := 5) (by decide) (by decide)).ge hp3 fun v p4 q4 G4 hv hp4 x4 => ?_
  obtain ⟨v, rfl, hv0, hv1⟩ := hv
  obtain ⟨c, hc, hm⟩ := at_mem (xs := [A.int 0, A.int 1, A.int 99, A.int w1, A.int w2]) (p := v) hv0 (by simp only [List.length_cons, List.length_nil]; omega)
  have hk : ∃ b : Int, c = .int b ∧ 0 ≤ b ∧ b ≤ 99 := by
    simp only [List.mem_cons, List.not_mem_nil, or_false] at hm
    rcases hm with rfl | rfl | rfl | rfl | rfl
    · exact ⟨_, rfl, by decide, by decide⟩
    · exact ⟨_, rfl, by decide, by decide⟩
    · exact ⟨_, rfl, by decide, by decide⟩
    · exact ⟨_, rfl, by omega, by omega⟩
    · exact ⟨_, rfl, by omega, by omega⟩
  obtain ⟨wt, rfl, hwt0, hwt1⟩ := hk
  simp only [wc_def, ws_seq, ws_if, ws_asg, ws_ret, ws_retN, ws_next, ws_break, ws_cont, ws_drop, ws_par, ws_for, ws_while, wt_b, wt_and, wt_or, wt_not, wt_yes, we_op, we_var, we_c, we_neg, we_and, we_or, we_not, we_ifE, we_tup, we_lst, we_call, wa_nil, wa_cons, wo_ge, wo_gt, wo_le, wo_lt, wo_pow, wo_mod, wo_mul, wo_add, wo_sub, wo_div, wo_ix, wg_name, wg_nil, wg_cons, wg_seq, wg_sub, wc_len, wc_abs, wc_min2, we_chain, we_dic, wc_list, we_rev, wo_is, wc_tuple, wp_none, wp_some, we_slice, ww_zip, zip_tt, we_lc, wo_eqI, wo_neI, wo_eqB, wo_eqP, Nat.zero_add, Nat.reduceAdd, ww_rng1, ww_seq, List.length_cons, List.length_nil, List.map_cons, List.map_nil, List.replicate, List.cons_append, List.nil_append, List.getElem?_cons_zero, List.getElem?_cons_succ, List.set_cons_zero, List.set_cons_succ, wipeE, ts_sq x4, hc]
  replace x4 := x3.trans x4.of
  refine (take_tk (m := 4) (by decide) (by decide)).ge hp4 fun v p5 q5 G5 hv hp5 x5 => ?_
  obtain ⟨of, rfl, ho0, ho1⟩ := hv
  replace x5 := x4.trans x5
  simp only [wc_def, ws_seq, ws_if, ws_asg, ws_ret, ws_retN, ws_next, ws_break, ws_cont, ws_drop, ws_par, ws_for, ws_while, wt_b, wt_and, wt_or, wt_not, wt_yes, we_op, we_var, we_c, we_neg, we_and, we_or, we_not, we_ifE, we_tup, we_lst, we_call, wa_nil, wa_cons, wo_ge, wo_gt, wo_le, wo_lt, wo_pow, wo_mod, wo_mul, wo_add, wo_sub, wo_div, wo_ix, wg_name, wg_nil, wg_cons, wg_seq, wg_sub, wc_len, wc_abs, wc_min2, we_chain, we_dic, wc_list, we_rev, wo_is, wc_tuple, wp_none, wp_some, we_slice, ww_zip, zip_tt, we_lc, wo_eqI, wo_neI, wo_eqB, wo_eqP, Nat.zero_add, Nat.reduceAdd, ww_rng1, ww_seq, List.length_cons, List.length_nil, List.map_cons, List.map_nil, List.replicate, List.cons_append, List.nil_append, List.getElem?_cons_zero, List.getElem?_cons_succ, List.set_cons_zero, List.set_cons_succ, wipeE, ts_app, ts_len]
  refine ⟨⟨by omega, by rw [List.length_map]; omega⟩, ?_⟩
  rw [List.length_map, Int.toNat_natCast, range_ints]
  refine lc_tpF (xs := List.range ws.length) (ea := fun i => A.int ((i : Nat) : Int)) hp5 ?_ ?_ tp_items (fun i hi p q G' Q1 hp hx k1 => ?_) fun p6 q6 G6 here hp6 hsub x6 => ?_
  · rw [List.length_range]
    exact Nat.lt_of_le_of_lt hl (by decide)
  · simp [FI.len]
  · simp only [wc_def, ws_seq, ws_if, ws_asg, ws_ret, ws_retN, ws_next, ws_break, ws_cont, ws_drop, ws_par, ws_for, ws_while, wt_b, wt_and, wt_or, wt_not, wt_yes, we_op, we_var, we_c, we_neg, we_and, we_or, we_not, we_ifE, we_tup, we_lst, we_call, wa_nil, wa_cons, wo_ge, wo_gt, wo_le, wo_lt, wo_pow, wo_mod, wo_mul, wo_add, wo_sub, wo_div, wo_ix, wg_name, wg_nil, wg_cons, wg_seq, wg_sub, wc_len, wc_abs, wc_min2, we_chain, we_dic, wc_list, we_rev, wo_is, wc_tuple, wp_none, wp_some, we_slice, ww_zip, zip_tt, we_lc, wo_eqI, wo_neI, wo_eqB, wo_eqP, Nat.zero_add, Nat.reduceAdd, ww_rng1, ww_seq, List.length_cons, List.length_nil, List.map_cons, List.map_nil, List.replicate, List.cons_append, List.nil_append, List.getElem?_cons_zero, List.getElem?_cons_succ, List.set_cons_zero, List.set_cons_succ, wipeE]
    refine (take_tk (m := 1 + of) (by omega) (Nat.lt_of_lt_of_le (Nat.log2_lt (by omega) |>.mpr (show (1 + of).natAbs < 2 ^ 4 by omega)) (by decide))).ge hp fun v p5 q5 G5 hv hp5 x5 => ?_
    obtain ⟨z, rfl, _, _⟩ := hv
    simp only [wc_def, ws_seq, ws_if, ws_asg, ws_ret, ws_retN, ws_next, ws_break, ws_cont, ws_drop, ws_par, ws_for, ws_while, wt_b, wt_and, wt_or, wt_not, wt_yes, we_op, we_var, we_c, we_neg, we_and, we_or, we_not, we_ifE, we_tup, we_lst, we_call, wa_nil, wa_cons, wo_ge, wo_gt, wo_le, wo_lt, wo_pow, wo_mod, wo_mul, wo_add, wo_sub, wo_div, wo_ix, wg_name, wg_nil, wg_cons, wg_seq, wg_sub, wc_len, wc_abs, wc_min2, we_chain, we_dic, wc_list, we_rev, wo_is, wc_tuple, wp_none, wp_some, we_slice, ww_zip, zip_tt, we_lc, wo_eqI, wo_neI, wo_eqB, wo_eqP, Nat.zero_add, Nat.reduceAdd, ww_rng1, ww_seq, List.length_cons, List.length_nil, List.map_cons, List.map_nil, List.replicate, List.cons_append, List.nil_append, List.getElem?_cons_zero, List.getElem?_cons_succ, List.set_cons_zero, List.set_cons_succ, wipeE]
    cases decide (z = 0) with
    | true => exact k1 _ _ _ _ hp5 x5
    | false => exact k1 _ _ _ _ hp5 x5
  · rw [ts_gt x6]
    have hlen : here.length ≤ 10 := Nat.le_trans hsub.length_le (by rw [List.length_range]; exact hl)
    have hin : ∀ i ∈ here, i < ws.length := fun i hi => List.mem_range.mp (hsub.subset hi)
    simp only [ts_app, ts_len]
    refine lc_tp (α := Nat) (β := Nat × List Int) (xs := here) (ea := fun i => A.int ((i : Nat) : Int)) (eb := fun z => partA (((z.1 : Nat) : Int), z.2)) (fun i z => z.1 = i ∧ ∃ m, ws[i]? = some m ∧ FewOk m z.2) hp6 (Nat.lt_of_le_of_lt hlen (by decide)) ?_ (tp_live x6) (fun i hi p q G' Q1 hp hx k1 => ?_) fun p7 q7 G7 zs hp7 hz hv x7 => ?_
    · simp only [FI.len, ts_gt x6, List.length_map]
    · have hi' := hin i hi
      have hget : ws[i]? = some ws[i] := List.getElem?_eq_getElem hi'
      have hm := hws ws[i] (List.getElem_mem hi')
      have hat : atI (ws.map A.int) ((i : Nat) : Int) = some (.int ws[i]) := atI_nat (by rw [List.getElem?_map, hget]; rfl)
      simp only [wc_def, ws_seq, ws_if, ws_asg, ws_ret, ws_retN, ws_next, ws_break, ws_cont, ws_drop, ws_par, ws_for, ws_while, wt_b, wt_and, wt_or, wt_not, wt_yes, we_op, we_var, we_c, we_neg, we_and, we_or, we_not, we_ifE, we_tup, we_lst, we_call, wa_nil, wa_cons, wo_ge, wo_gt, wo_le, wo_lt, wo_pow, wo_mod, wo_mul, wo_add, wo_sub, wo_div, wo_ix, wg_name, wg_nil, wg_cons, wg_seq, wg_sub, wc_len, wc_abs, wc_min2, we_chain, we_dic, wc_list, we_rev, wo_is, wc_tuple, wp_none, wp_some, we_slice, ww_zip, zip_tt, we_lc, wo_eqI, wo_neI, wo_eqB, wo_eqP, Nat.zero_add, Nat.reduceAdd, ww_rng1, ww_seq, List.length_cons, List.length_nil, List.map_cons, List.map_nil, List.replicate, List.cons_append, List.nil_append, List.getElem?_cons_zero, List.getElem?_cons_succ, List.set_cons_zero, List.set_cons_succ, wipeE, seqOf, hat]
      refine (b_few_tk hm.1 hm.2).ge hp fun v p' q' G2 hv hp' hx' => ?_
      obtain ⟨l, rfl, hfew⟩ := hv
      exact ⟨by decide, k1 (i, l) _ _ _ ⟨rfl, ws[i], hget, hfew⟩ hp' hx'⟩
    · simp only [ts_gt x7]
      refine ⟨by decide, ?_⟩
      have hzl : zs.length = here.length := by rw [← hz, List.length_map]
      refine k _ p7 q7 G7 ⟨⟨kb, wt, zs.map fun z => (((z.2.1 : Nat) : Int), z.2.2)⟩, ?_, hwt0, hwt1, ?_, ?_, ?_⟩ hp7 (x5.trans (x6.of.trans x7.of))
      · unfold wishA
        rw [List.map_map]
        rfl
      · intro x hx
        obtain ⟨z, hz', rfl⟩ := List.mem_map.mp hx
        obtain ⟨e1, m, e2, e3⟩ := hv z hz'
        have hi' : z.1 < ws.length := hin z.1 (by rw [← hz]; exact List.mem_map_of_mem hz')
        refine ⟨?_, ?_, ⟨m, ?_, e3.2.2⟩, e3.1, e3.2.1⟩
        · exact Int.natCast_nonneg _
        · rw [e1]
          exact Int.ofNat_lt.mpr hi'
        · rw [e1]
          exact e2
      · have e : ((zs.map fun z => (((z.2.1 : Nat) : Int), z.2.2)).map (·.1)) = here.map fun i => ((i : Nat) : Int) := by
          rw [← hz, List.map_map, List.map_map]
          exact List.map_congr_left fun z hz' => by
            have := (hv z hz').1
            simp only [Function.comp, this]
        rw [e, List.pairwise_map]
        exact (List.pairwise_lt_range.sublist hsub).imp fun h => by omega
      · rw [List.length_map, hzl]
        exact hlen
theorem seq_tup {S : Sto} {xs : List A} : seqOf S (.tup xs) = some xs := rfl
theorem rep_one (x : A) : ∀ n : Nat, (List.replicate n [x]).flatten = List.replicate n x
  | 0 => rfl
  | n + 1 => by
    rw [List.replicate_succ, List.flatten_cons, rep_one x n]
    rfl
theorem lg {m : Int} (h0 : 0 < m) (h : m ≤ 1000) : m.natAbs.log2 < 9000 := Nat.lt_of_lt_of_le (Nat.log2_lt (by omega) |>.mpr (show m.natAbs < 2 ^ 10 by omega)) (by decide)
theorem b_sheet_tk {np nw : Int} (hp0 : 0 ≤ np) (hp1 : np ≤ 10) (hw0 : 0 ≤ nw) (hw1 : nw ≤ 16) : Tk m_b_sheet [.ref 1, .int np, .int nw] fun v => ∃ ws vs, v = sheetA ws vs ∧ SheetOk ws vs := by
  refine Tk.mk' fun ns p q G Q h0 k => ?_
  unfold m_b_sheet f_b_sheet
  simp only [wc_def, ws_seq, ws_if, ws_asg, ws_ret, ws_retN, ws_next, ws_break, ws_cont, ws_drop, ws_par, ws_for, ws_while, wt_b, wt_and, wt_or, wt_not, wt_yes, we_op, we_var, we_c, we_neg, we_and, we_or, we_not, we_ifE, we_tup, we_lst, we_call, wa_nil, wa_cons, wo_ge, wo_gt, wo_le, wo_lt, wo_pow, wo_mod, wo_mul, wo_add, wo_sub, wo_div, wo_ix, wg_name, wg_nil, wg_cons, wg_seq, wg_sub, wc_len, wc_abs, wc_min2, we_chain, we_dic, wc_list, we_rev, wo_is, wc_tuple, wp_none, wp_some, we_slice, ww_zip, zip_tt, we_lc, wo_eqI, wo_neI, wo_eqB, wo_eqP, Nat.zero_add, Nat.reduceAdd, ww_rng1, ww_seq, List.length_cons, List.length_nil, List.map_cons, List.map_nil, List.replicate, List.cons_append, List.nil_append, List.getElem?_cons_zero, List.getElem?_cons_succ, List.set_cons_zero, List.set_cons_succ, wipeE, ts_app, ts_len]
  refine ⟨trivial, ?_⟩
  refine (take_tk (m := np + 1) (by omega) (lg (by omega) (by omega))).ge h0 fun v p1 q1 G1 hv hp1 x1 => ?_
  obtain ⟨many, rfl, hm0, hm1⟩ := hv
  refine (take_tk (m := 7) (by decide) (by decide)).ge hp1 fun v p2 q2 G2 hv hp2 x2 => ?_
  obtain ⟨alike, rfl, ha0, ha1⟩ := hv
  replace x2 := x1.trans x2
  simp only [wc_def, ws_seq, ws_if, ws_asg, ws_ret, ws_retN, ws_next, ws_break, ws_cont, ws_drop, ws_par, ws_for, ws_while, wt_b, wt_and, wt_or, wt_not, wt_yes, we_op, we_var, we_c, we_neg, we_and, we_or, we_not, we_ifE, we_tup, we_lst, we_call, wa_nil, wa_cons, wo_ge, wo_gt, wo_le, wo_lt, wo_pow, wo_mod, wo_mul, wo_add, wo_sub, wo_div, wo_ix, wg_name, wg_nil, wg_cons, wg_seq, wg_sub, wc_len, wc_abs, wc_min2, we_chain, we_dic, wc_list, we_rev, wo_is, wc_tuple, wp_none, wp_some, we_slice, ww_zip, zip_tt, we_lc, wo_eqI, wo_neI, wo_eqB, wo_eqP, Nat.zero_add, Nat.reduceAdd, ww_rng1, ww_seq, List.length_cons, List.length_nil, List.map_cons, List.map_nil, List.replicate, List.cons_append, List.nil_append, List.getElem?_cons_zero, List.getElem?_cons_succ, List.set_cons_zero, List.set_cons_succ, wipeE, wo_repT]
  refine ⟨by decide, ⟨⟨by omega, by omega⟩, Nat.le_trans (show 1 * many.toNat ≤ 10 by omega) (by decide)⟩, ?_⟩
  have main : ∀ (ws : List Int) (p q : Int) (G3 : Sto), 0 ≤ p → Ext G G3 → ws.length ≤ 10 → (∀ m ∈ ws, 1 ≤ m ∧ m ≤ 4) →
      WS p1_b_sheet [some (.ref 1), some (.int np), some (.int nw), some (.int many), some (.int alike), some (.tup (ws.map A.int)), none, none] (TS ns p q G3) fun fl S1 => (match fl with | .nx _ => Q .non S1 | .rt v => Q v S1 | _ => False) := by
    intro ws p q G3 hp x3 hl hws
    unfold p1_b_sheet
    simp only [wc_def, ws_seq, ws_if, ws_asg, ws_ret, ws_retN, ws_next, ws_break, ws_cont, ws_drop, ws_par, ws_for, ws_while, wt_b, wt_and, wt_or, wt_not, wt_yes, we_op, we_var, we_c, we_neg, we_and, we_or, we_not, we_ifE, we_tup, we_lst, we_call, wa_nil, wa_cons, wo_ge, wo_gt, wo_le, wo_lt, wo_pow, wo_mod, wo_mul, wo_add, wo_sub, wo_div, wo_ix, wg_name, wg_nil, wg_cons, wg_seq, wg_sub, wc_len, wc_abs, wc_min2, we_chain, we_dic, wc_list, we_rev, wo_is, wc_tuple, wp_none, wp_some, we_slice, ww_zip, zip_tt, we_lc, wo_eqI, wo_neI, wo_eqB, wo_eqP, Nat.zero_add, Nat.reduceAdd, ww_rng1, ww_seq, List.length_cons, List.length_nil, List.map_cons, List.map_nil, List.replicate, List.cons_append, List.nil_append, List.getElem?_cons_zero, List.getElem?_cons_succ, List.set_cons_zero, List.set_cons_succ, wipeE]
    refine (take_tk (m := nw + 1) (by omega) (lg (by omega) (by omega))).ge hp fun v p4 q4 G4 hv hp4 x4 => ?_
    obtain ⟨j, rfl, hj0, hj1⟩ := hv
    replace x4 := x3.trans x4
    simp only [ts_app, ts_len]
    refine ⟨⟨by omega, by omega⟩, ?_⟩
    rw [range_ints]
    refine lc_tp (α := Nat) (β := Wish) (xs := List.range j.toNat) (ea := fun i => A.int ((i : Nat) : Int)) (eb := wishA) (fun _ w => WishOk ws w) hp4 ?_ ?_ tp_items (fun i hi p q G' Q1 hp hx k1 => ?_) fun p7 q7 G7 zs hp7 hz hv x7 => ?_
    · rw [List.length_range]
      exact Nat.lt_of_le_of_lt (show j.toNat ≤ 16 by omega) (by decide)
    · simp [FI.len]
    · simp only [wc_def, ws_seq, ws_if, ws_asg, ws_ret, ws_retN, ws_next, ws_break, ws_cont, ws_drop, ws_par, ws_for, ws_while, wt_b, wt_and, wt_or, wt_not, wt_yes, we_op, we_var, we_c, we_neg, we_and, we_or, we_not, we_ifE, we_tup, we_lst, we_call, wa_nil, wa_cons, wo_ge, wo_gt, wo_le, wo_lt, wo_pow, wo_mod, wo_mul, wo_add, wo_sub, wo_div, wo_ix, wg_name, wg_nil, wg_cons, wg_seq, wg_sub, wc_len, wc_abs, wc_min2, we_chain, we_dic, wc_list, we_rev, wo_is, wc_tuple, wp_none, wp_some, we_slice, ww_zip, zip_tt, we_lc, wo_eqI, wo_neI, wo_eqB, wo_eqP, Nat.zero_add, Nat.reduceAdd, ww_rng1, ww_seq, List.length_cons, List.length_nil, List.map_cons, List.map_nil, List.replicate, List.cons_append, List.nil_append, List.getElem?_cons_zero, List.getElem?_cons_succ, List.set_cons_zero, List.set_cons_succ, wipeE]
      refine (b_wish_tk hl hws).ge hp fun v p' q' G2 hv hp' hx' => ?_
      obtain ⟨w, rfl, hw⟩ := hv
      exact k1 w _ _ _ hw hp' hx'
    · simp only [ts_sq x7]
      refine ⟨by decide, k _ p7 q7 G7 ⟨ws, zs.map Prod.snd, ?_, hl, hws, ?_, ?_⟩ hp7 (x4.trans x7.of)⟩
      · unfold sheetA
        rw [List.map_map]
        rfl
      · have : (zs.map Prod.fst).length = j.toNat := by rw [hz, List.length_range]
        rw [List.length_map] at this ⊢
        omega
      · intro w hw
        obtain ⟨z, hz', rfl⟩ := List.mem_map.mp hw
        exact hv z hz'
  have hmt : many.toNat ≤ 10 := by omega
  split
  · refine ⟨⟨by omega, by omega⟩, ?_⟩
    simp only [ts_app, ts_len]
    rw [range_ints]
    refine lc_tp (α := Nat) (β := Int) (xs := List.range many.toNat) (ea := fun i => A.int ((i : Nat) : Int)) (eb := A.int) (fun _ m => 1 ≤ m ∧ m ≤ 4) hp2 ?_ ?_ tp_items (fun i hi p q G' Q1 hp hx k1 => ?_) fun p7 q7 G7 zs hp7 hz hv x7 => ?_
    · rw [List.length_range]
      exact Nat.lt_of_le_of_lt hmt (by decide)
    · simp [FI.len]
    · simp only [wc_def, ws_seq, ws_if, ws_asg, ws_ret, ws_retN, ws_next, ws_break, ws_cont, ws_drop, ws_par, ws_for, ws_while, wt_b, wt_and, wt_or, wt_not, wt_yes, we_op, we_var, we_c, we_neg, we_and, we_or, we_not, we_ifE, we_tup, we_lst, we_call, wa_nil, wa_cons, wo_ge, wo_gt, wo_le, wo_lt, wo_pow, wo_mod, wo_mul, wo_add, wo_sub, wo_div, wo_ix, wg_name, wg_nil, wg_cons, wg_seq, wg_sub, wc_len, wc_abs, wc_min2, we_chain, we_dic, wc_list, we_rev, wo_is, wc_tuple, wp_none, wp_some, we_slice, ww_zip, zip_tt, we_lc, wo_eqI, wo_neI, wo_eqB, wo_eqP, Nat.zero_add, Nat.reduceAdd, ww_rng1, ww_seq, List.length_cons, List.length_nil, List.map_cons, List.map_nil, List.replicate, List.cons_append, List.nil_append, List.getElem?_cons_zero, List.getElem?_cons_succ, List.set_cons_zero, List.set_cons_succ, wipeE]
      refine (take_tk (m := 4) (by decide) (by decide)).ge hp fun v p' q' G2 hv hp' hx' => ?_
      obtain ⟨w, rfl, hw0, hw1⟩ := hv
      simp only [wc_def, ws_seq, ws_if, ws_asg, ws_ret, ws_retN, ws_next, ws_break, ws_cont, ws_drop, ws_par, ws_for, ws_while, wt_b, wt_and, wt_or, wt_not, wt_yes, we_op, we_var, we_c, we_neg, we_and, we_or, we_not, we_ifE, we_tup, we_lst, we_call, wa_nil, wa_cons, wo_ge, wo_gt, wo_le, wo_lt, wo_pow, wo_mod, wo_mul, wo_add, wo_sub, wo_div, wo_ix, wg_name, wg_nil, wg_cons, wg_seq, wg_sub, wc_len, wc_abs, wc_min2, we_chain, we_dic, wc_list, we_rev, wo_is, wc_tuple, wp_none, wp_some, we_slice, ww_zip, zip_tt, we_lc, wo_eqI, wo_neI, wo_eqB, wo_eqP, Nat.zero_add, Nat.reduceAdd, ww_rng1, ww_seq, List.length_cons, List.length_nil, List.map_cons, List.map_nil, List.replicate, List.cons_append, List.nil_append, List.getElem?_cons_zero, List.getElem?_cons_succ, List.set_cons_zero, List.set_cons_succ, wipeE]
      exact k1 _ _ _ _ ⟨by omega, by omega⟩ hp' hx'
    · simp only [ts_sq x7]
      have := main (zs.map Prod.snd) p7 q7 G7 hp7 (x2.trans x7.of) (by
        have : (zs.map Prod.fst).length = many.toNat := by rw [hz, List.length_range]
        rw [List.length_map] at this ⊢
        omega) (by
        intro m hm
        obtain ⟨z, hz', rfl⟩ := List.mem_map.mp hm
        exact hv z hz')
      rw [List.map_map] at this
      exact this
  · rename_i h3
    have h3' : alike ≤ 3 := by
      have : ¬ (3 < alike) := fun z => h3 (decide_eq_true z)
      omega
    have := main (List.replicate many.toNat (1 + alike)) p2 q2 G2 hp2 x2 (by rw [List.length_replicate]; exact hmt) (by
      intro m hm
      have := (List.mem_replicate.mp hm).2
      omega)
    rw [List.map_replicate] at this
    rw [rep_one]
    exact this
theorem b_choosing_tk {ws : List Int} (hl : ws.length ≤ 10) (hws : ∀ m ∈ ws, 1 ≤ m ∧ m ≤ 4) : Tk m_b_choosing [.ref 1, .tup (ws.map A.int)] fun v => ∃ cs, v = .tup (cs.map A.int) ∧ ChOk ws cs := by
  refine Tk.mk' fun ns p q G Q h0 k => ?_
  unfold m_b_choosing f_b_choosing
  simp only [wc_def, ws_seq, ws_if, ws_asg, ws_ret, ws_retN, ws_next, ws_break, ws_cont, ws_drop, ws_par, ws_for, ws_while, wt_b, wt_and, wt_or, wt_not, wt_yes, we_op, we_var, we_c, we_neg, we_and, we_or, we_not, we_ifE, we_tup, we_lst, we_call, wa_nil, wa_cons, wo_ge, wo_gt, wo_le, wo_lt, wo_pow, wo_mod, wo_mul, wo_add, wo_sub, wo_div, wo_ix, wg_name, wg_nil, wg_cons, wg_seq, wg_sub, wc_len, wc_abs, wc_min2, we_chain, we_dic, wc_list, we_rev, wo_is, wc_tuple, wp_none, wp_some, we_slice, ww_zip, zip_tt, we_lc, wo_eqI, wo_neI, wo_eqB, wo_eqP, Nat.zero_add, Nat.reduceAdd, ww_rng1, ww_seq, List.length_cons, List.length_nil, List.map_cons, List.map_nil, List.replicate, List.cons_append, List.nil_append, List.getElem?_cons_zero, List.getElem?_cons_succ, List.set_cons_zero, List.set_cons_succ, wipeE, ts_app, ts_len]
  refine ⟨trivial, ?_⟩
  refine lc_tp (α := Int) (β := Int) (xs := ws) (ea := A.int) (eb := A.int) (fun m c => 0 ≤ c ∧ c ≤ m - 1) h0 (Nat.lt_of_le_of_lt hl (by decide)) ?_ tp_items (fun m hm p q G' Q1 hp hx k1 => ?_) fun p7 q7 G7 zs hp7 hz hv x7 => ?_
  · simp [FI.len]
  · obtain ⟨h1, h4⟩ := hws m hm
    simp only [wc_def, ws_seq, ws_if, ws_asg, ws_ret, ws_retN, ws_next, ws_break, ws_cont, ws_drop, ws_par, ws_for, ws_while, wt_b, wt_and, wt_or, wt_not, wt_yes, we_op, we_var, we_c, we_neg, we_and, we_or, we_not, we_ifE, we_tup, we_lst, we_call, wa_nil, wa_cons, wo_ge, wo_gt, wo_le, wo_lt, wo_pow, wo_mod, wo_mul, wo_add, wo_sub, wo_div, wo_ix, wg_name, wg_nil, wg_cons, wg_seq, wg_sub, wc_len, wc_abs, wc_min2, we_chain, we_dic, wc_list, we_rev, wo_is, wc_tuple, wp_none, wp_some, we_slice, ww_zip, zip_tt, we_lc, wo_eqI, wo_neI, wo_eqB, wo_eqP, Nat.zero_add, Nat.reduceAdd, ww_rng1, ww_seq, List.length_cons, List.length_nil, List.map_cons, List.map_nil, List.replicate, List.cons_append, List.nil_append, List.getElem?_cons_zero, List.getElem?_cons_succ, List.set_cons_zero, List.set_cons_succ, wipeE]
    refine (take_tk (m := m) (by omega) (lg (by omega) (by omega))).ge hp fun v p' q' G2 hv hp' hx' => ?_
    obtain ⟨w, rfl, hw0, hw1⟩ := hv
    exact k1 _ _ _ _ ⟨hw0, by omega⟩ hp' hx'
  · simp only [ts_sq x7]
    refine k _ _ _ _ ⟨zs.map Prod.snd, by rw [List.map_map]; rfl, ?_, ?_⟩ hp7 x7.of
    · rw [← hz, List.length_map, List.length_map]
    · intro i c m h1 h2
      rw [← hz] at h2
      rw [List.getElem?_map] at h1 h2
      cases e : zs[i]? with
      | none => rw [e] at h1; cases h1
      | some z =>
        rw [e] at h1 h2
        cases h1
        cases h2
        exact hv z (List.mem_of_getElem? e)
theorem ts_script {ns : List Int} {p q : Int} {G : Sto} : seqOf (TS ns p q G) (.ref 0) = some (ns.map A.int) := rfl
end G
namespace G
open PySem PySem.Spec L2 F
theorem wh_any {x : A} {S : Sto} {Q : A → Sto → Prop} (h : Known S x) (k : ∀ X, Q (.bl (isI x)) (S ++ X)) : WC m_is_whole [x] S Q := by
  unfold m_is_whole f_is_whole
  simp only [wc_def, ws_seq, ws_if, ws_asg, ws_ret, ws_retN, ws_next, ws_break, ws_cont, ws_drop, ws_par, ws_for, ws_while, wt_b, wt_and, wt_or, wt_not, wt_yes, we_op, we_var, we_c, we_neg, we_and, we_or, we_not, we_ifE, we_tup, we_lst, we_call, wa_nil, wa_cons, wo_ge, wo_gt, wo_le, wo_lt, wo_pow, wo_mod, wo_mul, wo_add, wo_sub, wo_div, wo_ix, wg_name, wg_nil, wg_cons, wg_seq, wg_sub, wc_len, wc_abs, wc_min2, we_chain, we_dic, wc_list, we_rev, wo_is, wc_tuple, wp_none, wp_some, we_slice, ww_zip, zip_tt, we_lc, wo_eqI, wo_neI, wo_eqB, wo_eqP, Nat.zero_add, Nat.reduceAdd, ww_rng1, ww_seq, List.length_cons, List.length_nil, List.map_cons, List.map_nil, List.replicate, List.cons_append, List.nil_append, List.getElem?_cons_zero, List.getElem?_cons_succ, List.set_cons_zero, List.set_cons_succ, wipeE, isi_int h, isi_bool h]
  refine ⟨trivial, ?_⟩
  cases x <;> first | exact k0 k | exact h.elim
theorem bwh_any {x : A} {S : Sto} {Q : A → Sto → Prop} (h : Known S x) (k : ∀ X, Q (.bl (isI x)) (S ++ X)) : WC m_b_whole [x] S Q := by
  unfold m_b_whole f_b_whole
  simp only [wc_def, ws_seq, ws_if, ws_asg, ws_ret, ws_retN, ws_next, ws_break, ws_cont, ws_drop, ws_par, ws_for, ws_while, wt_b, wt_and, wt_or, wt_not, wt_yes, we_op, we_var, we_c, we_neg, we_and, we_or, we_not, we_ifE, we_tup, we_lst, we_call, wa_nil, wa_cons, wo_ge, wo_gt, wo_le, wo_lt, wo_pow, wo_mod, wo_mul, wo_add, wo_sub, wo_div, wo_ix, wg_name, wg_nil, wg_cons, wg_seq, wg_sub, wc_len, wc_abs, wc_min2, we_chain, we_dic, wc_list, we_rev, wo_is, wc_tuple, wp_none, wp_some, we_slice, ww_zip, zip_tt, we_lc, wo_eqI, wo_neI, wo_eqB, wo_eqP, Nat.zero_add, Nat.reduceAdd, ww_rng1, ww_seq, List.length_cons, List.length_nil, List.map_cons, List.map_nil, List.replicate, List.cons_append, List.nil_append, List.getElem?_cons_zero, List.getElem?_cons_succ, List.set_cons_zero, List.set_cons_succ, wipeE, isi_int h, isi_bool h]
  refine ⟨trivial, ?_⟩
  cases x <;> first | exact k0 k | exact h.elim
def okR (x : A) (lo hi : Int) : Bool := match x with | .int i => decide (lo ≤ i) && decide (i ≤ hi) | _ => false
theorem wi_any {x : A} {lo hi : Int} {S : Sto} {Q : A → Sto → Prop} (h : Known S x) (k : ∀ X, Q (.bl (okR x lo hi)) (S ++ X)) : WC m_is_within [x, .int lo, .int hi] S Q := by
  unfold m_is_within f_is_within
  simp only [wc_def, ws_seq, ws_if, ws_asg, ws_ret, ws_retN, ws_next, ws_break, ws_cont, ws_drop, ws_par, ws_for, ws_while, wt_b, wt_and, wt_or, wt_not, wt_yes, we_op, we_var, we_c, we_neg, we_and, we_or, we_not, we_ifE, we_tup, we_lst, we_call, wa_nil, wa_cons, wo_ge, wo_gt, wo_le, wo_lt, wo_pow, wo_mod, wo_mul, wo_add, wo_sub, wo_div, wo_ix, wg_name, wg_nil, wg_cons, wg_seq, wg_sub, wc_len, wc_abs, wc_min2, we_chain, we_dic, wc_list, we_rev, wo_is, wc_tuple, wp_none, wp_some, we_slice, ww_zip, zip_tt, we_lc, wo_eqI, wo_neI, wo_eqB, wo_eqP, Nat.zero_add, Nat.reduceAdd, ww_rng1, ww_seq, List.length_cons, List.length_nil, List.map_cons, List.map_nil, List.replicate, List.cons_append, List.nil_append, List.getElem?_cons_zero, List.getElem?_cons_succ, List.set_cons_zero, List.set_cons_succ, wipeE]
  refine ⟨trivial, wh_any h fun X => ?_⟩
  cases x with
  | int i =>
    simp only [wc_def, ws_seq, ws_if, ws_asg, ws_ret, ws_retN, ws_next, ws_break, ws_cont, ws_drop, ws_par, ws_for, ws_while, wt_b, wt_and, wt_or, wt_not, wt_yes, we_op, we_var, we_c, we_neg, we_and, we_or, we_not, we_ifE, we_tup, we_lst, we_call, wa_nil, wa_cons, wo_ge, wo_gt, wo_le, wo_lt, wo_pow, wo_mod, wo_mul, wo_add, wo_sub, wo_div, wo_ix, wg_name, wg_nil, wg_cons, wg_seq, wg_sub, wc_len, wc_abs, wc_min2, we_chain, we_dic, wc_list, we_rev, wo_is, wc_tuple, wp_none, wp_some, we_slice, ww_zip, zip_tt, we_lc, wo_eqI, wo_neI, wo_eqB, wo_eqP, Nat.zero_add, Nat.reduceAdd, ww_rng1, ww_seq, List.length_cons, List.length_nil, List.map_cons, List.map_nil, List.replicate, List.cons_append, List.nil_append, List.getElem?_cons_zero, List.getElem?_cons_succ, List.set_cons_zero, List.set_cons_succ, wipeE, isI, if_true]
    have := k X
    unfold okR at this
    dsimp only at this
    by_cases h1 : lo ≤ i
    · rw [decide_eq_true h1, Bool.true_and] at this
      rw [decide_eq_true h1, if_pos rfl]
      exact this
    · rw [decide_eq_false h1, Bool.false_and] at this
      rw [decide_eq_false h1, if_neg Bool.false_ne_true]
      exact this
  | ty c => exact h.elim
  | _ => exact k X
def okZ (ws : List Int) (xs : List A) : Bool := (List.zip ws xs).all fun z => okR z.2 0 (z.1 - 1)
def begunB (ws : List Int) : A → Bool
  | .tup xs => decide (xs.length ≤ ws.length) && okZ ws xs
  | _ => false
theorem okZ_swap : ∀ (ws : List Int) (xs : List A), ((List.zip xs ws).map fun z => okR z.1 0 (z.2 - 1)).all id = okZ ws xs
  | [], xs => by cases xs <;> rfl
  | _ :: _, [] => rfl
  | w :: ws, x :: xs => by
    have := okZ_swap ws xs
    unfold okZ at this ⊢
    simp only [List.zip_cons_cons, List.map_cons, List.all_cons, id] at this ⊢
    rw [this]
theorem zipW {α β : Type} {f : α → A} {g : β → A} : ∀ (xs : List α) (ys : List β), List.zipWith (fun x y => A.tup [x, y]) (xs.map f) (ys.map g) = (List.zip xs ys).map fun z => A.tup [f z.1, g z.2]
  | [], _ => rfl
  | _ :: _, [] => rfl
  | x :: xs, y :: ys => by
    simp only [List.map_cons, List.zipWith_cons_cons, List.zip_cons_cons, zipW xs ys]
theorem mem_zip {α β : Type} {z : α × β} : ∀ {xs : List α} {ys : List β}, z ∈ List.zip xs ys → z.1 ∈ xs ∧ z.2 ∈ ys
  | [], _, h => by cases h
  | _ :: _, [], h => by cases h
  | x :: xs, y :: ys, h => by
    rw [List.zip_cons_cons] at h
    rcases List.mem_cons.mp h with rfl | h
    · exact ⟨List.mem_cons_self .., List.mem_cons_self ..⟩
    · have := mem_zip h
      exact ⟨List.mem_cons_of_mem _ this.1, List.mem_cons_of_mem _ this.2⟩
structure Th (S : Sto) (x : A) : Prop where
  self : Known S x
  inn : ∀ xs, x = .tup xs → xs.length ≤ 1000 ∧ ∀ y ∈ xs, Known S y
theorem Th.grow {S X : Sto} {x : A} (h : Th S x) : Th (S ++ X) x := ⟨h.self.grow, fun xs e => ⟨(h.inn xs e).1, fun y hy => ((h.inn xs e).2 y hy).grow⟩⟩
theorem fw_any {ws : List Int} {x : A} {S : Sto} {Q : A → Sto → Prop} (hl : ws.length ≤ 10) (h : Th S x) (k : ∀ X, Q (.bl (begunB ws x)) (S ++ X)) : WC m_are_first_ways [.tup (ws.map A.int), x] S Q := by
  unfold m_are_first_ways f_are_first_ways
  simp only [wc_def, ws_seq, ws_if, ws_asg, ws_ret, ws_retN, ws_next, ws_break, ws_cont, ws_drop, ws_par, ws_for, ws_while, wt_b, wt_and, wt_or, wt_not, wt_yes, we_op, we_var, we_c, we_neg, we_and, we_or, we_not, we_ifE, we_tup, we_lst, we_call, wa_nil, wa_cons, wo_ge, wo_gt, wo_le, wo_lt, wo_pow, wo_mod, wo_mul, wo_add, wo_sub, wo_div, wo_ix, wg_name, wg_nil, wg_cons, wg_seq, wg_sub, wc_len, wc_abs, wc_min2, we_chain, we_dic, wc_list, we_rev, wo_is, wc_tuple, wp_none, wp_some, we_slice, ww_zip, zip_tt, we_lc, wo_eqI, wo_neI, wo_eqB, wo_eqP, Nat.zero_add, Nat.reduceAdd, ww_rng1, ww_seq, List.length_cons, List.length_nil, List.map_cons, List.map_nil, List.replicate, List.cons_append, List.nil_append, List.getElem?_cons_zero, List.getElem?_cons_succ, List.set_cons_zero, List.set_cons_succ, wipeE, isi_tup h.self]
  refine ⟨trivial, ?_⟩
  cases x with
  | tup xs =>
    obtain ⟨hxl, hxs⟩ := h.inn xs rfl
    simp only [isT, Bool.not_true, Bool.false_eq_true, if_false, seq_tup, List.length_map]
    unfold begunB at k
    dsimp only at k
    by_cases hlen : xs.length ≤ ws.length
    · rw [if_neg (by rw [decide_eq_true_eq]; omega)]
      rw [decide_eq_true hlen, Bool.true_and] at k
      have ez : List.zipWith (fun x y => A.tup [x, y]) xs (ws.map A.int) = (List.zip xs ws).map fun z => A.tup [z.1, .int z.2] := by
        have := zipW (f := id) (g := A.int) xs ws
        rw [List.map_id] at this
        exact this
      rw [zip_tt, ez]
      have hz : (List.zip xs ws).length < sizeLine := by
        rw [List.length_zip]
        exact Nat.lt_of_le_of_lt (Nat.min_le_right _ _) (Nat.lt_of_le_of_lt hl (by decide))
      refine lc_mapE (ys := List.zip xs ws) (emb := fun z => A.tup [z.1, .int z.2]) (fun _ => true) (fun z => .bl (okR z.1 0 (z.2 - 1))) hz (by simp [FI.len]) item_items (fun z hzm Y Q1 _ k2 => ?_) fun X => ?_
      · simp only [wc_def, ws_seq, ws_if, ws_asg, ws_ret, ws_retN, ws_next, ws_break, ws_cont, ws_drop, ws_par, ws_for, ws_while, wt_b, wt_and, wt_or, wt_not, wt_yes, we_op, we_var, we_c, we_neg, we_and, we_or, we_not, we_ifE, we_tup, we_lst, we_call, wa_nil, wa_cons, wo_ge, wo_gt, wo_le, wo_lt, wo_pow, wo_mod, wo_mul, wo_add, wo_sub, wo_div, wo_ix, wg_name, wg_nil, wg_cons, wg_seq, wg_sub, wc_len, wc_abs, wc_min2, we_chain, we_dic, wc_list, we_rev, wo_is, wc_tuple, wp_none, wp_some, we_slice, ww_zip, zip_tt, we_lc, wo_eqI, wo_neI, wo_eqB, wo_eqP, Nat.zero_add, Nat.reduceAdd, ww_rng1, ww_seq, List.length_cons, List.length_nil, List.map_cons, List.map_nil, List.replicate, List.cons_append, List.nil_append, List.getElem?_cons_zero, List.getElem?_cons_succ, List.set_cons_zero, List.set_cons_succ, wipeE, seq_tup]
        refine ⟨trivial, ?_⟩
        rw [if_pos trivial]
        refine wi_any ((hxs _ (mem_zip hzm).1).grow) fun X => ⟨⟨X, rfl⟩, ?_⟩
        rw [List.append_assoc]
        exact k2 _ rfl
      · have e : bls (((List.zip xs ws).filter fun _ => true).map fun z => A.bl (okR z.1 0 (z.2 - 1))) = some ((List.zip xs ws).map fun z => okR z.1 0 (z.2 - 1)) := by
          rw [List.filter_eq_self.mpr fun _ _ => rfl]
          have := bls_map ((List.zip xs ws).map fun z => okR z.1 0 (z.2 - 1))
          rw [List.map_map] at this
          exact this
        simp only [wc_all, seq_at, e]
        rw [okZ_swap]
        exact k _
    · rw [if_pos (by rw [decide_eq_true_eq]; omega)]
      rw [decide_eq_false hlen, Bool.false_and] at k
      exact k0 k
  | ty c => exact h.self.elim
  | _ => exact k0 k
theorem begun_any {ws : List Int} {vs : List Wish} {x : A} {S : Sto} {Q : A → Sto → Prop} (hs : SheetOk ws vs) (h : Th S x) (k : ∀ X, Q (.bl (begunB ws x)) (S ++ X)) : WC m_is_begun [sheetA ws vs, x] S Q := by
  unfold m_is_begun f_is_begun
  simp only [wc_def, ws_seq, ws_if, ws_asg, ws_ret, ws_retN, ws_next, ws_break, ws_cont, ws_drop, ws_par, ws_for, ws_while, wt_b, wt_and, wt_or, wt_not, wt_yes, we_op, we_var, we_c, we_neg, we_and, we_or, we_not, we_ifE, we_tup, we_lst, we_call, wa_nil, wa_cons, wo_ge, wo_gt, wo_le, wo_lt, wo_pow, wo_mod, wo_mul, wo_add, wo_sub, wo_div, wo_ix, wg_name, wg_nil, wg_cons, wg_seq, wg_sub, wc_len, wc_abs, wc_min2, we_chain, we_dic, wc_list, we_rev, wo_is, wc_tuple, wp_none, wp_some, we_slice, ww_zip, zip_tt, we_lc, wo_eqI, wo_neI, wo_eqB, wo_eqP, Nat.zero_add, Nat.reduceAdd, ww_rng1, ww_seq, List.length_cons, List.length_nil, List.map_cons, List.map_nil, List.replicate, List.cons_append, List.nil_append, List.getElem?_cons_zero, List.getElem?_cons_succ, List.set_cons_zero, List.set_cons_succ, wipeE]
  refine ⟨trivial, (need_sheet_pu hs).go fun X => ?_⟩
  unfold sheetA
  simp only [wc_def, ws_seq, ws_if, ws_asg, ws_ret, ws_retN, ws_next, ws_break, ws_cont, ws_drop, ws_par, ws_for, ws_while, wt_b, wt_and, wt_or, wt_not, wt_yes, we_op, we_var, we_c, we_neg, we_and, we_or, we_not, we_ifE, we_tup, we_lst, we_call, wa_nil, wa_cons, wo_ge, wo_gt, wo_le, wo_lt, wo_pow, wo_mod, wo_mul, wo_add, wo_sub, wo_div, wo_ix, wg_name, wg_nil, wg_cons, wg_seq, wg_sub, wc_len, wc_abs, wc_min2, we_chain, we_dic, wc_list, we_rev, wo_is, wc_tuple, wp_none, wp_some, we_slice, ww_zip, zip_tt, we_lc, wo_eqI, wo_neI, wo_eqB, wo_eqP, Nat.zero_add, Nat.reduceAdd, ww_rng1, ww_seq, List.length_cons, List.length_nil, List.map_cons, List.map_nil, List.replicate, List.cons_append, List.nil_append, List.getElem?_cons_zero, List.getElem?_cons_succ, List.set_cons_zero, List.set_cons_succ, wipeE, seq_tup, at0]
  exact fw_any hs.len h.grow (kX k)
def fullB (ws : List Int) (x : A) : Bool := begunB ws x && (match x with | .tup xs => decide (xs.length = ws.length) | _ => false)
theorem choosing_any {ws : List Int} {vs : List Wish} {x : A} {S : Sto} {Q : A → Sto → Prop} (hs : SheetOk ws vs) (h : Th S x) (k : ∀ X, Q (.bl (fullB ws x)) (S ++ X)) : WC m_is_choosing [sheetA ws vs, x] S Q := by
  unfold m_is_choosing f_is_choosing
  simp only [wc_def, ws_seq, ws_if, ws_asg, ws_ret, ws_retN, ws_next, ws_break, ws_cont, ws_drop, ws_par, ws_for, ws_while, wt_b, wt_and, wt_or, wt_not, wt_yes, we_op, we_var, we_c, we_neg, we_and, we_or, we_not, we_ifE, we_tup, we_lst, we_call, wa_nil, wa_cons, wo_ge, wo_gt, wo_le, wo_lt, wo_pow, wo_mod, wo_mul, wo_add, wo_sub, wo_div, wo_ix, wg_name, wg_nil, wg_cons, wg_seq, wg_sub, wc_len, wc_abs, wc_min2, we_chain, we_dic, wc_list, we_rev, wo_is, wc_tuple, wp_none, wp_some, we_slice, ww_zip, zip_tt, we_lc, wo_eqI, wo_neI, wo_eqB, wo_eqP, Nat.zero_add, Nat.reduceAdd, ww_rng1, ww_seq, List.length_cons, List.length_nil, List.map_cons, List.map_nil, List.replicate, List.cons_append, List.nil_append, List.getElem?_cons_zero, List.getElem?_cons_succ, List.set_cons_zero, List.set_cons_succ, wipeE]
  refine ⟨trivial, (need_sheet_pu hs).go fun X => ?_⟩
  unfold sheetA m_are_all_ways f_are_all_ways m_is_tuple_of f_is_tuple_of
  have h' : Th (S ++ X) x := h.grow
  simp only [wc_def, ws_seq, ws_if, ws_asg, ws_ret, ws_retN, ws_next, ws_break, ws_cont, ws_drop, ws_par, ws_for, ws_while, wt_b, wt_and, wt_or, wt_not, wt_yes, we_op, we_var, we_c, we_neg, we_and, we_or, we_not, we_ifE, we_tup, we_lst, we_call, wa_nil, wa_cons, wo_ge, wo_gt, wo_le, wo_lt, wo_pow, wo_mod, wo_mul, wo_add, wo_sub, wo_div, wo_ix, wg_name, wg_nil, wg_cons, wg_seq, wg_sub, wc_len, wc_abs, wc_min2, we_chain, we_dic, wc_list, we_rev, wo_is, wc_tuple, wp_none, wp_some, we_slice, ww_zip, zip_tt, we_lc, wo_eqI, wo_neI, wo_eqB, wo_eqP, Nat.zero_add, Nat.reduceAdd, ww_rng1, ww_seq, List.length_cons, List.length_nil, List.map_cons, List.map_nil, List.replicate, List.cons_append, List.nil_append, List.getElem?_cons_zero, List.getElem?_cons_succ, List.set_cons_zero, List.set_cons_succ, wipeE, seq_tup, at0, isi_tup h'.self]
  refine ⟨trivial, trivial, ?_⟩
  cases x with
  | tup xs =>
    simp only [isT, if_true, wc_def, ws_seq, ws_if, ws_asg, ws_ret, ws_retN, ws_next, ws_break, ws_cont, ws_drop, ws_par, ws_for, ws_while, wt_b, wt_and, wt_or, wt_not, wt_yes, we_op, we_var, we_c, we_neg, we_and, we_or, we_not, we_ifE, we_tup, we_lst, we_call, wa_nil, wa_cons, wo_ge, wo_gt, wo_le, wo_lt, wo_pow, wo_mod, wo_mul, wo_add, wo_sub, wo_div, wo_ix, wg_name, wg_nil, wg_cons, wg_seq, wg_sub, wc_len, wc_abs, wc_min2, we_chain, we_dic, wc_list, we_rev, wo_is, wc_tuple, wp_none, wp_some, we_slice, ww_zip, zip_tt, we_lc, wo_eqI, wo_neI, wo_eqB, wo_eqP, Nat.zero_add, Nat.reduceAdd, ww_rng1, ww_seq, List.length_cons, List.length_nil, List.map_cons, List.map_nil, List.replicate, List.cons_append, List.nil_append, List.getElem?_cons_zero, List.getElem?_cons_succ, List.set_cons_zero, List.set_cons_succ, wipeE, seq_tup, List.length_map]
    unfold fullB at k
    dsimp only at k
    by_cases hlen : xs.length = ws.length
    · rw [decide_eq_true (by rw [hlen]), if_pos rfl]
      rw [decide_eq_true hlen] at k
      rw [Bool.and_true] at k
      exact fw_any hs.len h' (kX k)
    · rw [decide_eq_false (by intro z; exact hlen (by omega)), if_neg Bool.false_ne_true]
      rw [decide_eq_false hlen] at k
      rw [Bool.and_false] at k
      exact k X
  | ty c => exact h.self.elim
  | _ => exact k X
theorem b_begun_any {ws : List Int} {x : A} {S : Sto} {Q : A → Sto → Prop} (hl : ws.length ≤ 10) (h : Th S x) (k : ∀ X, Q (.bl (begunB ws x)) (S ++ X)) : WC m_b_is_begun [.tup (ws.map A.int), x] S Q := by
  unfold m_b_is_begun f_b_is_begun
  simp only [wc_def, ws_seq, ws_if, ws_asg, ws_ret, ws_retN, ws_next, ws_break, ws_cont, ws_drop, ws_par, ws_for, ws_while, wt_b, wt_and, wt_or, wt_not, wt_yes, we_op, we_var, we_c, we_neg, we_and, we_or, we_not, we_ifE, we_tup, we_lst, we_call, wa_nil, wa_cons, wo_ge, wo_gt, wo_le, wo_lt, wo_pow, wo_mod, wo_mul, wo_add, wo_sub, wo_div, wo_ix, wg_name, wg_nil, wg_cons, wg_seq, wg_sub, wc_len, wc_abs, wc_min2, we_chain, we_dic, wc_list, we_rev, wo_is, wc_tuple, wp_none, wp_some, we_slice, ww_zip, zip_tt, we_lc, wo_eqI, wo_neI, wo_eqB, wo_eqP, Nat.zero_add, Nat.reduceAdd, ww_rng1, ww_seq, List.length_cons, List.length_nil, List.map_cons, List.map_nil, List.replicate, List.cons_append, List.nil_append, List.getElem?_cons_zero, List.getElem?_cons_succ, List.set_cons_zero, List.set_cons_succ, wipeE, isi_tup h.self]
  refine ⟨trivial, ?_⟩
  cases x with
  | tup xs =>
    obtain ⟨hxl, hxs⟩ := h.inn xs rfl
    simp only [isT, Bool.not_true, Bool.false_eq_true, if_false, seq_tup, List.length_map]
    unfold begunB at k
    dsimp only at k
    by_cases hlen : xs.length ≤ ws.length
    · rw [if_neg (by rw [decide_eq_true_eq]; omega)]
      rw [decide_eq_true hlen, Bool.true_and] at k
      unfold p3_b_is_begun
      simp only [wc_def, ws_seq, ws_if, ws_asg, ws_ret, ws_retN, ws_next, ws_break, ws_cont, ws_drop, ws_par, ws_for, ws_while, wt_b, wt_and, wt_or, wt_not, wt_yes, we_op, we_var, we_c, we_neg, we_and, we_or, we_not, we_ifE, we_tup, we_lst, we_call, wa_nil, wa_cons, wo_ge, wo_gt, wo_le, wo_lt, wo_pow, wo_mod, wo_mul, wo_add, wo_sub, wo_div, wo_ix, wg_name, wg_nil, wg_cons, wg_seq, wg_sub, wc_len, wc_abs, wc_min2, we_chain, we_dic, wc_list, we_rev, wo_is, wc_tuple, wp_none, wp_some, we_slice, ww_zip, zip_tt, we_lc, wo_eqI, wo_neI, wo_eqB, wo_eqP, Nat.zero_add, Nat.reduceAdd, ww_rng1, ww_seq, List.length_cons, List.length_nil, List.map_cons, List.map_nil, List.replicate, List.cons_append, List.nil_append, List.getElem?_cons_zero, List.getElem?_cons_succ, List.set_cons_zero, List.set_cons_succ, wipeE]
      have ez : List.zipWith (fun x y => A.tup [x, y]) (ws.map A.int) xs = (List.zip ws xs).map fun z => A.tup [.int z.1, z.2] := by
        have := zipW (f := A.int) (g := id) ws xs
        rw [List.map_id] at this
        exact this
      rw [ez]
      refine loop_items (fun i e S1 => ∃ X o2 o3, S1 = S ++ X ∧ e = [some (.tup (ws.map A.int)), some (.tup xs), o2, o3] ∧ ((List.zip ws xs).take i).all (fun z => okR z.2 0 (z.1 - 1)) = true) ?_ ?_ _ 0 _ _ (Nat.zero_add _) ⟨[], none, none, (List.append_nil _).symm, rfl, rfl⟩
      · rintro i y e S1 hy ⟨X, o2, o3, rfl, rfl, hall⟩
        rw [List.getElem?_map] at hy
        cases hz : (List.zip ws xs)[i]? with
        | none => rw [hz] at hy; cases hy
        | some z =>
          rw [hz] at hy
          cases hy
          have hm := List.mem_of_getElem? hz
          have ht : (List.zip ws xs).take (i + 1) = (List.zip ws xs).take i ++ [z] := by
            rw [List.take_succ, hz]
            rfl
          have hK : Known S z.2 := hxs _ (mem_zip hm).2
          have bad : okR z.2 0 (z.1 - 1) = false → ∀ Y, Q (.bl false) (S ++ Y) := fun hb Y => by
            have e : okZ ws xs = false := by
              unfold okZ
              rw [List.all_eq_false]
              exact ⟨z, hm, by rw [hb]; exact Bool.false_ne_true⟩
            rw [e] at k
            exact k Y
          have good : okR z.2 0 (z.1 - 1) = true → ((List.zip ws xs).take (i + 1)).all (fun z => okR z.2 0 (z.1 - 1)) = true := fun hb => by
            rw [ht, List.all_append, hall, List.all_cons, hb]
            rfl
          unfold p1_b_is_begun
          simp only [wc_def, ws_seq, ws_if, ws_asg, ws_ret, ws_retN, ws_next, ws_break, ws_cont, ws_drop, ws_par, ws_for, ws_while, wt_b, wt_and, wt_or, wt_not, wt_yes, we_op, we_var, we_c, we_neg, we_and, we_or, we_not, we_ifE, we_tup, we_lst, we_call, wa_nil, wa_cons, wo_ge, wo_gt, wo_le, wo_lt, wo_pow, wo_mod, wo_mul, wo_add, wo_sub, wo_div, wo_ix, wg_name, wg_nil, wg_cons, wg_seq, wg_sub, wc_len, wc_abs, wc_min2, we_chain, we_dic, wc_list, we_rev, wo_is, wc_tuple, wp_none, wp_some, we_slice, ww_zip, zip_tt, we_lc, wo_eqI, wo_neI, wo_eqB, wo_eqP, Nat.zero_add, Nat.reduceAdd, ww_rng1, ww_seq, List.length_cons, List.length_nil, List.map_cons, List.map_nil, List.replicate, List.cons_append, List.nil_append, List.getElem?_cons_zero, List.getElem?_cons_succ, List.set_cons_zero, List.set_cons_succ, wipeE, seq_tup]
          refine ⟨trivial, bwh_any hK.grow fun Y => ?_⟩
          generalize hz2 : z.2 = u at *
          cases u with
          | int j =>
            simp only [wc_def, ws_seq, ws_if, ws_asg, ws_ret, ws_retN, ws_next, ws_break, ws_cont, ws_drop, ws_par, ws_for, ws_while, wt_b, wt_and, wt_or, wt_not, wt_yes, we_op, we_var, we_c, we_neg, we_and, we_or, we_not, we_ifE, we_tup, we_lst, we_call, wa_nil, wa_cons, wo_ge, wo_gt, wo_le, wo_lt, wo_pow, wo_mod, wo_mul, wo_add, wo_sub, wo_div, wo_ix, wg_name, wg_nil, wg_cons, wg_seq, wg_sub, wc_len, wc_abs, wc_min2, we_chain, we_dic, wc_list, we_rev, wo_is, wc_tuple, wp_none, wp_some, we_slice, ww_zip, zip_tt, we_lc, wo_eqI, wo_neI, wo_eqB, wo_eqP, Nat.zero_add, Nat.reduceAdd, ww_rng1, ww_seq, List.length_cons, List.length_nil, List.map_cons, List.map_nil, List.replicate, List.cons_append, List.nil_append, List.getElem?_cons_zero, List.getElem?_cons_succ, List.set_cons_zero, List.set_cons_succ, wipeE, isI, Bool.not_true, Bool.false_eq_true, if_false]
            have okj : okR (.int j) 0 (z.1 - 1) = (decide (0 ≤ j) && decide (j ≤ z.1 - 1)) := rfl
            rw [okj] at bad good
            by_cases h1 : j < 0
            · rw [decide_eq_true h1, if_pos rfl, if_pos trivial, List.append_assoc]
              exact bad (by rw [decide_eq_false (by omega), Bool.false_and]) _
            · rw [decide_eq_false h1, if_neg Bool.false_ne_true]
              by_cases h2 : z.1 ≤ j
              · rw [decide_eq_true h2, if_pos rfl, List.append_assoc]
                exact bad (by rw [decide_eq_false (show ¬ j ≤ z.1 - 1 by omega), Bool.and_false]) _
              · rw [decide_eq_false h2, if_neg Bool.false_ne_true]
                exact ⟨X ++ Y, _, _, List.append_assoc .., rfl, good (by rw [decide_eq_true (by omega), decide_eq_true (by omega)]; rfl)⟩
          | ty c => exact hK.elim
          | _ =>
            simp only [isI, Bool.not_false, if_true, List.append_assoc]
            exact bad rfl _
      · rintro e S1 ⟨X, o2, o3, rfl, rfl, hall⟩
        unfold p2_b_is_begun
        simp only [wc_def, ws_seq, ws_if, ws_asg, ws_ret, ws_retN, ws_next, ws_break, ws_cont, ws_drop, ws_par, ws_for, ws_while, wt_b, wt_and, wt_or, wt_not, wt_yes, we_op, we_var, we_c, we_neg, we_and, we_or, we_not, we_ifE, we_tup, we_lst, we_call, wa_nil, wa_cons, wo_ge, wo_gt, wo_le, wo_lt, wo_pow, wo_mod, wo_mul, wo_add, wo_sub, wo_div, wo_ix, wg_name, wg_nil, wg_cons, wg_seq, wg_sub, wc_len, wc_abs, wc_min2, we_chain, we_dic, wc_list, we_rev, wo_is, wc_tuple, wp_none, wp_some, we_slice, ww_zip, zip_tt, we_lc, wo_eqI, wo_neI, wo_eqB, wo_eqP, Nat.zero_add, Nat.reduceAdd, ww_rng1, ww_seq, List.length_cons, List.length_nil, List.map_cons, List.map_nil, List.replicate, List.cons_append, List.nil_append, List.getElem?_cons_zero, List.getElem?_cons_succ, List.set_cons_zero, List.set_cons_succ, wipeE]
        rw [List.length_map, List.take_length] at hall
        have e : okZ ws xs = true := hall
        rw [e] at k
        exact k X
    · rw [if_pos (by rw [decide_eq_true_eq]; omega)]
      rw [decide_eq_false hlen, Bool.false_and] at k
      exact k0 k
  | ty c => exact h.self.elim
  | _ => exact k0 k
end G
namespace G
open PySem PySem.Spec L2 F
def Dat (G : Sto) (c : Bool) (f w k : Nat) (x : A) : Prop := ∃ d, (∀ ns p q, toD (TS ns p q G) f x = some d) ∧ Rp c d w k
theorem Dat.grow {G G' : Sto} {c : Bool} {f w k : Nat} {x : A} (h : Dat G c f w k x) (e : Ext G G') : Dat G' c f w k x := by
  obtain ⟨X, rfl⟩ := e
  obtain ⟨d, h1, h2⟩ := h
  exact ⟨d, fun ns p q => toD_grow (X := X) _ _ _ (h1 ns p q), h2⟩
theorem Dat.mono {G : Sto} {c : Bool} {f w k w' k' : Nat} {x : A} (h : Dat G c f w k x) (h1 : w ≤ w') (h2 : k ≤ k') : Dat G c f w' k' x := by
  obtain ⟨d, q1, q2⟩ := h
  exact ⟨d, q1, q2.mono h1 h2⟩
theorem dat_int {G : Sto} {c : Bool} {f : Nat} {i : Int} (h : i.natAbs < 10 ^ 30) : Dat G c (f + 1) 31 0 (.int i) := ⟨.int i, fun _ _ _ => by rw [toD], rp_int (by decide) h⟩
theorem dat_bl {G : Sto} {c : Bool} {f : Nat} {b : Bool} : Dat G c (f + 1) 5 0 (.bl b) := ⟨.bool b, fun _ _ _ => by rw [toD], rp_bool b⟩
theorem dat_non {G : Sto} {c : Bool} {f : Nat} : Dat G c (f + 1) 4 0 .non := ⟨.none, fun _ _ _ => by rw [toD], rp_none⟩
theorem dat_str {G : Sto} {c : Bool} {f n : Nat} {x : Str} (h2 : (reprText x).length ≤ n) (h3 : PyData.strOk (reprText x) = true) : Dat G c (f + 1) n 0 (.str x) := ⟨.str x, fun _ _ _ => by rw [toD], rp_str h2 h3⟩
theorem dat_dic {G : Sto} {f : Nat} : Dat G true (f + 1) 2 1 .dic := ⟨.dict [], fun _ _ _ => by rw [toD], rp_dic⟩
theorem dats {G : Sto} {c : Bool} {f w k : Nat} : ∀ {xs : List A}, (∀ x ∈ xs, Dat G c f w k x) → ∃ ds, (∀ ns p q, dsOf (toD (TS ns p q G) f) xs = some ds) ∧ ds.length = xs.length ∧ ∀ d ∈ ds, Rp c d w k
  | [], _ => ⟨[], fun _ _ _ => rfl, rfl, fun _ h => by cases h⟩
  | x :: xs, h => by
    obtain ⟨d, h1, h2⟩ := h x (List.mem_cons_self ..)
    obtain ⟨ds, h3, h4, h5⟩ := dats fun y hy => h y (List.mem_cons_of_mem _ hy)
    refine ⟨d :: ds, fun ns p q => by rw [dsOf, h1, h3], by rw [List.length_cons, List.length_cons, h4], fun y hy => ?_⟩
    rcases List.mem_cons.mp hy with rfl | hy
    · exact h2
    · exact h5 y hy
theorem dat_tup {G : Sto} {c : Bool} {f w k m : Nat} {xs : List A} (h : ∀ x ∈ xs, Dat G c f w k x) (hm : xs.length ≤ m) : Dat G c (f + 1) (m * (w + 2) + 3) (k + 1) (.tup xs) := by
  obtain ⟨ds, h1, h2, h3⟩ := dats h
  exact ⟨.tuple ds, fun ns p q => by rw [toD]; simp only [h1], rp_tup h3 (by rw [h2]; exact hm)⟩
def Ls (G : Sto) (j : Nat) (xs : List A) : Prop := ∀ ns p q, (TS ns p q G)[j]? = some (.lst xs)
theorem Ls.grow {G G' : Sto} {j : Nat} {xs : List A} (h : Ls G j xs) (e : Ext G G') : Ls G' j xs := by
  obtain ⟨X, rfl⟩ := e
  intro ns p q
  have := h ns p q
  rw [← ts_app, List.getElem?_append_left (getElem_lt this), this]
theorem Ls.new {G G' : Sto} {xs : List A} (e : Ext (G ++ [.lst xs]) G') : Ls G' (G.length + 2) xs := fun _ _ _ => ts_gt e
theorem Ls.lt {G : Sto} {j : Nat} {xs : List A} (h : Ls G j xs) : j < G.length + 2 := by
  have := getElem_lt (h [] 0 0)
  rw [ts_len] at this
  exact this
theorem Ls.seq {G : Sto} {j : Nat} {xs : List A} (h : Ls G j xs) {ns : List Int} {p q : Int} : seqOf (TS ns p q G) (.ref j) = some xs := by
  simp only [seqOf, h ns p q]
theorem dat_lst {G : Sto} {f w k m j : Nat} {xs : List A} (hj : Ls G j xs) (h : ∀ x ∈ xs, Dat G false f w k x) (hm : xs.length ≤ m) : Dat G false (f + 1) (m * (w + 2) + 3) (k + 1) (.ref j) := by
  obtain ⟨ds, h1, h2, h3⟩ := dats h
  exact ⟨.list ds, fun ns p q => by rw [toD]; simp only [hj ns p q, h1], rp_list h3 (by rw [h2]; exact hm)⟩
def Kn (G : Sto) (x : A) : Prop := ∀ ns p q, Known (TS ns p q G) x
theorem Kn.grow {G G' : Sto} {x : A} (h : Kn G x) (e : Ext G G') : Kn G' x := by
  obtain ⟨X, rfl⟩ := e
  exact fun ns p q => (h ns p q).grow (X := X)
theorem Ls.kn {G : Sto} {j : Nat} {xs : List A} (h : Ls G j xs) : Kn G (.ref j) := fun ns p q => ⟨xs, h ns p q⟩
theorem cut_mem {α : Type} {xs : List α} {lo hi : Option Int} {x : α} (h : x ∈ cutA xs lo hi) : x ∈ xs := by
  unfold cutA at h
  exact List.mem_of_mem_drop (List.mem_of_mem_take h)
theorem cut_len {α : Type} (xs : List α) (lo hi : Option Int) : (cutA xs lo hi).length ≤ xs.length := by
  unfold cutA
  rw [List.length_take, List.length_drop]
  omega
def Odd (G : Sto) (x : A) : Prop := Kn G x ∧ ∃ c, Dat G c 11 400 10 x
def ThOk (G : Sto) (x : A) : Prop := (∀ ns p q, Th (TS ns p q G) x) ∧ ∃ c, Dat G c 12 100000 60 x
theorem Odd.grow {G G' : Sto} {x : A} (h : Odd G x) (e : Ext G G') : Odd G' x := ⟨h.1.grow e, let ⟨c, q⟩ := h.2; ⟨c, q.grow e⟩⟩
theorem ThOk.grow {G G' : Sto} {x : A} (h : ThOk G x) (e : Ext G G') : ThOk G' x := ⟨by
  obtain ⟨X, rfl⟩ := e
  exact fun ns p q => (h.1 ns p q).grow (X := X), let ⟨c, q⟩ := h.2; ⟨c, q.grow e⟩⟩
theorem small_dat {G : Sto} {c : Bool} {i : Int} (h0 : 0 ≤ i) (h1 : i ≤ 3) : Dat G c 11 400 10 (.int i) := (dat_int (Nat.lt_of_le_of_lt (show i.natAbs ≤ 3 by omega) (by decide))).mono (by decide) (by decide)
theorem th_mix {G : Sto} {odd : A} {xs : List A} (ho : Odd G odd) (hl : xs.length ≤ 30) (hm : ∀ y ∈ xs, y = odd ∨ ∃ i : Int, y = .int i ∧ 0 ≤ i ∧ i ≤ 3) : ThOk G (.tup xs) := by
  refine ⟨fun ns p q => ⟨trivial, fun ys e => ?_⟩, ?_⟩
  · cases e
    refine ⟨Nat.le_trans hl (by decide), fun y hy => ?_⟩
    rcases hm y hy with rfl | ⟨i, rfl, _⟩
    · exact ho.1 ns p q
    · exact trivial
  · obtain ⟨c, hc⟩ := ho.2
    refine ⟨c, (dat_tup (f := 11) (w := 400) (k := 10) (m := 30) (fun y hy => ?_) hl).mono (by decide) (by decide)⟩
    rcases hm y hy with rfl | ⟨i, rfl, h0, h1⟩
    · exact hc
    · exact small_dat h0 h1
theorem th_nt {M : Sto} {x : A} {c : Bool} {w k : Nat} (h : Kn M x) (hd : Dat M c 12 w k x) (ht : isT x = false := by rfl) (h1 : w ≤ 100000 := by decide) (h2 : k ≤ 60 := by decide) : ThOk M x := ⟨fun ns p q => ⟨h ns p q, fun xs e => by subst e; cases ht⟩, c, hd.mono h1 h2⟩
theorem odd_of {M : Sto} {x : A} {c : Bool} {w k : Nat} (h : Kn M x) (hd : Dat M c 11 w k x) (h1 : w ≤ 400 := by decide) (h2 : k ≤ 10 := by decide) : Odd M x := ⟨h, c, hd.mono h1 h2⟩
theorem kn_of {G : Sto} {x : A} (h : ∀ S, Known S x) : Kn G x := fun _ _ _ => h _
theorem bent_ok {ws cs : List Int} (hl : ws.length ≤ 10) (hws : ∀ m ∈ ws, 1 ≤ m ∧ m ≤ 4) (hc : ChOk ws cs) {ns : List Int} {p q : Int} {G : Sto} {Q : A → Sto → Prop} (h0 : 0 ≤ p)
    (k : ∀ j things p' q' G', 0 ≤ p' → Ext G G' → Ls G' j things → 0 < things.length → things.length ≤ 100 → (∀ x ∈ things, ThOk G' x) → Q (.ref j) (TS ns p' q' G')) :
    WC m_b_bent [.ref 1, .tup (ws.map A.int), .tup (cs.map A.int)] (TS ns p q G) Q := by
  have hcl : cs.length ≤ 10 := by rw [hc.len]; exact hl
  have pow20 : powOk 10 20 = true := by decide +kernel
  unfold m_b_bent f_b_bent
  simp only [wc_def, ws_seq, ws_if, ws_asg, ws_ret, ws_retN, ws_next, ws_break, ws_cont, ws_drop, ws_par, ws_for, ws_while, wt_b, wt_and, wt_or, wt_not, wt_yes, we_op, we_var, we_c, we_neg, we_and, we_or, we_not, we_ifE, we_tup, we_lst, we_call, wa_nil, wa_cons, wo_ge, wo_gt, wo_le, wo_lt, wo_pow, wo_mod, wo_mul, wo_add, wo_sub, wo_div, wo_ix, wg_name, wg_nil, wg_cons, wg_seq, wg_sub, wc_len, wc_abs, wc_min2, we_chain, we_dic, wc_list, we_rev, wo_is, wc_tuple, wp_none, wp_some, we_slice, ww_zip, zip_tt, we_lc, wo_eqI, wo_neI, wo_eqB, wo_eqP, Nat.zero_add, Nat.reduceAdd, ww_rng1, ww_seq, List.length_cons, List.length_nil, List.map_cons, List.map_nil, List.replicate, List.cons_append, List.nil_append, List.getElem?_cons_zero, List.getElem?_cons_succ, List.set_cons_zero, List.set_cons_succ, wipeE, seq_tup, List.length_map]
  refine ⟨trivial, pow20, ?_⟩
  refine (take_tk (by decide +kernel) (by decide +kernel)).ge h0 fun v p1 q1 G1 hv hp1 x1 => ?_
  obtain ⟨far, rfl, hf0, hf1⟩ := hv
  refine (take_tk (m := (cs.length : Int) + 1) (by omega) (lg (by omega) (by omega))).ge hp1 fun v p2 q2 G2 hv hp2 x2 => ?_
  obtain ⟨at_, rfl, ha0, ha1⟩ := hv
  replace x2 := x1.trans x2
  refine ⟨⟨by omega, by omega⟩, ?_⟩
  have en : ((cs.length : Int) + 1).toNat = cs.length + 1 := by omega
  rw [en]
  refine lc_map (ys := List.range (cs.length + 1)) (emb := fun i => A.int (0 + (i : Nat))) (fun _ => true) (fun i => .tup (cutA (cs.map A.int) none (some (0 + ((i : Nat) : Int))))) ?_ ?_ item_items (fun i hi S1 Q1 _ k2 => ?_) fun X => ?_
  · rw [List.length_range]
    exact Nat.lt_of_le_of_lt (show cs.length + 1 ≤ 11 by omega) (by decide)
  · simp [FI.len, rngA]
  · simp only [wc_def, ws_seq, ws_if, ws_asg, ws_ret, ws_retN, ws_next, ws_break, ws_cont, ws_drop, ws_par, ws_for, ws_while, wt_b, wt_and, wt_or, wt_not, wt_yes, we_op, we_var, we_c, we_neg, we_and, we_or, we_not, we_ifE, we_tup, we_lst, we_call, wa_nil, wa_cons, wo_ge, wo_gt, wo_le, wo_lt, wo_pow, wo_mod, wo_mul, wo_add, wo_sub, wo_div, wo_ix, wg_name, wg_nil, wg_cons, wg_seq, wg_sub, wc_len, wc_abs, wc_min2, we_chain, we_dic, wc_list, we_rev, wo_is, wc_tuple, wp_none, wp_some, we_slice, ww_zip, zip_tt, we_lc, wo_eqI, wo_neI, wo_eqB, wo_eqP, Nat.zero_add, Nat.reduceAdd, ww_rng1, ww_seq, List.length_cons, List.length_nil, List.map_cons, List.map_nil, List.replicate, List.cons_append, List.nil_append, List.getElem?_cons_zero, List.getElem?_cons_succ, List.set_cons_zero, List.set_cons_succ, wipeE]
    rw [if_pos trivial]
    have := k2 [] rfl
    rw [List.append_nil] at this
    exact this
  · obtain ⟨P, hP⟩ : ∃ P, P = ((List.range (cs.length + 1)).filter fun _ => true).map fun i => A.tup (cutA (cs.map A.int) none (some (0 + ((i : Nat) : Int)))) := ⟨_, rfl⟩
    rw [← hP, ts_app]
    have hPl : P.length = cs.length + 1 := by
      rw [hP, List.length_map, List.filter_eq_self.mpr fun _ _ => rfl, List.length_range]
    have x3 : Ext (G2 ++ [.lst P]) (G2 ++ .lst P :: X) := ⟨X, by rw [List.append_assoc]; rfl⟩
    obtain ⟨G3, hG3⟩ : ∃ G3, G3 = G2 ++ .lst P :: X := ⟨_, rfl⟩
    rw [← hG3] at x3 ⊢
    simp only [wo_catT, wo_add, wo_sub, ts_app, ts_len, true_and]
    refine ⟨by decide, ?_⟩
    have hsz : ∀ n : Nat, n ≤ 200 → n ≤ sizeLine := fun n hn => Nat.le_trans hn (by decide)
    have hsz' : ∀ n : Nat, n ≤ 200 → n < sizeLine := fun n hn => Nat.lt_of_le_of_lt hn (by decide)
    refine ⟨hsz _ (by rw [List.length_map]; simp only [List.length_cons, List.length_nil]; omega), by decide, by decide, by decide, by decide, ?_⟩
    obtain ⟨G4, hG4⟩ : ∃ G4, G4 = G3 ++ [SO.lst (List.map A.int cs)] ++ [SO.lst []] := ⟨_, rfl⟩
    obtain ⟨items, hit⟩ : ∃ items, items = [A.ref (List.length G3 + 2), A.tup (List.map A.int cs ++ [A.int 0]), A.tup (List.map A.int cs).reverse, A.tup [A.tup (List.map A.int cs)], A.non, A.str (Str.ofString ""), A.str (Str.ofString "0"), A.int 0, A.bl true, A.dic, A.tup [], A.ref (List.length (G3 ++ [SO.lst (List.map A.int cs)]) + 2)] := ⟨_, rfl⟩
    have hil : items.length = 12 := by rw [hit]; rfl
    rw [← hG4, ← hit]
    have small : ∀ y ∈ cs.map A.int, ∃ i : Int, y = .int i ∧ 0 ≤ i ∧ i ≤ 3 := by
      intro y hy
      obtain ⟨c, hcm, rfl⟩ := List.mem_map.mp hy
      obtain ⟨i, hi⟩ := List.mem_iff_getElem?.mp hcm
      have hlt := getElem_lt hi
      rw [hc.len] at hlt
      have := hc.ok i c ws[i] hi (List.getElem?_eq_getElem hlt)
      have := hws ws[i] (List.getElem_mem hlt)
      exact ⟨c, rfl, by omega, by omega⟩
    have odd0 : ∀ G : Sto, Odd G (.int 0) := fun G => odd_of (c := false) (kn_of fun _ => trivial) (dat_int (by decide))
    obtain ⟨P2, hP2⟩ : ∃ P2, P2 = P ++ items := ⟨_, rfl⟩
    have hP2l : P2.length = cs.length + 13 := by rw [hP2, List.length_append, hPl, hil]
    have x4 : Ext G3 G4 := by rw [hG4, List.append_assoc]; exact Ext.app _ _
    have ls1 : ∀ {G' : Sto}, Ext G4 G' → Ls G' (G3.length + 2) (cs.map A.int) := fun e => (Ls.new (Ext.refl _)).grow ((show Ext (G3 ++ [SO.lst (cs.map A.int)]) G4 by rw [hG4]; exact Ext.app _ _).trans e)
    have ls2 : ∀ {G' : Sto}, Ext G4 G' → Ls G' ((G3 ++ [SO.lst (cs.map A.int)]).length + 2) [] := fun e => (Ls.new (Ext.refl _)).grow ((show Ext (G3 ++ [SO.lst (cs.map A.int)] ++ [SO.lst []]) G4 by rw [hG4]; exact Ext.refl _).trans e)
    have hth : ∀ {G' : Sto}, Ext G4 G' → ∀ x ∈ P2, ThOk G' x := fun {G'} e x hx => by
      rw [hP2] at hx
      rcases List.mem_append.mp hx with hx | hx
      · rw [hP] at hx
        obtain ⟨i, _, rfl⟩ := List.mem_map.mp hx
        exact th_mix (odd0 _) (Nat.le_trans (cut_len _ _ _) (by rw [List.length_map]; omega)) fun y hy => .inr (small y (cut_mem hy))
      · rw [hit] at hx
        simp only [List.mem_cons, List.not_mem_nil, or_false] at hx
        rcases hx with rfl | rfl | rfl | rfl | rfl | rfl | rfl | rfl | rfl | rfl | rfl | rfl
        · exact th_nt (ls1 e).kn (dat_lst (m := 10) (ls1 e) (fun y hy => by
            obtain ⟨i, rfl, h0, h1⟩ := small y hy
            exact dat_int (Nat.lt_of_le_of_lt (show i.natAbs ≤ 3 by omega) (by decide))) (by rw [List.length_map]; exact hcl))
        · exact th_mix (odd0 _) (by rw [List.length_append, List.length_map]; simp only [List.length_cons, List.length_nil]; omega) fun y hy => by
            rcases List.mem_append.mp hy with hy | hy
            · exact .inr (small y hy)
            · exact .inl (List.mem_singleton.mp hy)
        · exact th_mix (odd0 _) (by rw [List.length_reverse, List.length_map]; omega) fun y hy => .inr (small y (List.mem_reverse.mp hy))
        · exact th_mix (odd := .tup (cs.map A.int)) (odd_of (c := false) (kn_of fun _ => trivial) (dat_tup (m := 10) (w := 18) (k := 0) (fun y hy => by
            obtain ⟨i, rfl, h0, h1⟩ := small y hy
            obtain ⟨d, z1, z2⟩ := dat_int (G := G') (c := false) (f := 9) (i := i) (Nat.lt_of_le_of_lt (show i.natAbs ≤ 3 by omega) (by decide))
            have e9 : d = .int i := by
              have := z1 [] 0 0
              rw [toD] at this
              exact (Option.some.inj this).symm
            subst e9
            exact ⟨_, z1, (rp_int (j := 1) (by decide) (Nat.lt_of_le_of_lt (show i.natAbs ≤ 3 by omega) (by decide))).mono (by decide) (by decide)⟩) (by rw [List.length_map]; exact hcl)) (by decide)) (by simp) fun y hy => .inl (List.mem_singleton.mp hy)
        · exact th_nt (c := false) (kn_of fun _ => trivial) dat_non
        · exact th_nt (c := false) (kn_of fun _ => trivial) (dat_str (n := 10) (by decide +kernel) (by decide +kernel))
        · exact th_nt (c := false) (kn_of fun _ => trivial) (dat_str (n := 10) (by decide +kernel) (by decide +kernel))
        · exact th_nt (c := false) (kn_of fun _ => trivial) (dat_int (by decide))
        · exact th_nt (c := false) (kn_of fun _ => trivial) dat_bl
        · exact th_nt (kn_of fun _ => trivial) dat_dic
        · exact th_mix (odd0 _) (Nat.zero_le _) fun y hy => by cases hy
        · exact th_nt (ls2 e).kn (dat_lst (m := 0) (w := 0) (k := 0) (ls2 e) (fun y hy => by cases hy) (Nat.le_refl _))
    rw [wo_catL (xs := P) (ys := items) (((Ls.new x3).grow (x4.trans (Ext.app _ _))) ns p2 q2) (Ls.new (Ext.refl _) ns p2 q2), ← hP2, ts_app]
    obtain ⟨G5, hG5⟩ : ∃ G5, G5 = G4 ++ [SO.lst items] ++ [SO.lst P2] := ⟨_, rfl⟩
    have x5 : Ext G4 G5 := by rw [hG5, List.append_assoc]; exact Ext.app _ _
    have ls5 : Ls G5 ((G4 ++ [SO.lst items]).length + 2) P2 := Ls.new (by rw [hG5]; exact Ext.refl _)
    rw [← hG5]
    simp only [ts_app, ts_len] at ls5 ⊢
    refine ⟨hsz _ (by rw [hPl, hil]; omega), by decide, by decide, by decide, ?_⟩
    obtain ⟨odds, hod⟩ : ∃ odds, odds = [A.int 0, A.int 1, A.int 2, A.int 3, A.int 4, A.int (4 + far), A.int (-1), A.int (-1 - far), A.bl true, A.bl false, A.non, A.str (Str.ofString "0"), A.tup [A.int 0], A.ref (List.length G5 + 2), A.dic, A.str (Str.ofString "")] := ⟨_, rfl⟩
    have hol : odds.length = 16 := by rw [hod]; rfl
    rw [← hod]
    obtain ⟨G6, hG6⟩ : ∃ G6, G6 = G5 ++ [SO.lst [A.int 0]] := ⟨_, rfl⟩
    rw [← hG6, ts_gt (Ext.refl _)]
    obtain ⟨G7, hG7⟩ : ∃ G7, G7 = G6 ++ [SO.lst odds] := ⟨_, rfl⟩
    have ls7 : Ls G7 (G6.length + 2) odds := Ls.new (by rw [hG7]; exact Ext.refl _)
    have x6 : Ext (G5 ++ [SO.lst [A.int 0]]) G7 := by rw [hG7, hG6]; exact Ext.app _ _
    have big20 : (10 : Int) ^ Int.toNat 20 = 100000000000000000000 := by decide +kernel
    rw [big20] at hf1
    have hodd : ∀ y ∈ odds, Odd G7 y := by
      intro y hy
      rw [hod] at hy
      simp only [List.mem_cons, List.not_mem_nil, or_false] at hy
      have ls6 : Ls G7 (G5.length + 2) [A.int 0] := Ls.new x6
      have oi : ∀ i : Int, i.natAbs ≤ 200000000000000000000 → Odd G7 (.int i) := fun i hi => odd_of (c := false) (kn_of fun _ => trivial) (dat_int (Nat.lt_of_le_of_lt hi (by decide)))
      rcases hy with rfl | rfl | rfl | rfl | rfl | rfl | rfl | rfl | rfl | rfl | rfl | rfl | rfl | rfl | rfl | rfl
      · exact oi _ (by decide)
      · exact oi _ (by decide)
      · exact oi _ (by decide)
      · exact oi _ (by decide)
      · exact oi _ (by decide)
      · exact oi _ (by omega)
      · exact oi _ (by decide)
      · exact oi _ (by omega)
      · exact odd_of (c := false) (kn_of fun _ => trivial) dat_bl
      · exact odd_of (c := false) (kn_of fun _ => trivial) dat_bl
      · exact odd_of (c := false) (kn_of fun _ => trivial) dat_non
      · exact odd_of (c := false) (kn_of fun _ => trivial) (dat_str (n := 10) (by decide +kernel) (by decide +kernel))
      · exact odd_of (c := false) (kn_of fun _ => trivial) (dat_tup (m := 1) (fun y hy => by rw [List.mem_singleton.mp hy]; exact dat_int (by decide)) (Nat.le_refl _))
      · exact odd_of ls6.kn (dat_lst (m := 1) ls6 (fun y hy => by rw [List.mem_singleton.mp hy]; exact dat_int (by decide)) (Nat.le_refl _))
      · exact odd_of (kn_of fun _ => trivial) dat_dic
      · exact odd_of (c := false) (kn_of fun _ => trivial) (dat_str (n := 10) (by decide +kernel) (by decide +kernel))
    rw [← hG7]
    dsimp only
    have x57 : Ext G5 G7 := x6.of
    refine loop_ok (xs := odds) (fun i e S => ∃ (G' : Sto) (j : Nat) (things : List A) (o6 o7 : Option A), S = TS ns p2 q2 G' ∧ Ext G7 G' ∧ e = [some (A.ref 1), some (A.tup (List.map A.int ws)), some (A.tup (List.map A.int cs)), some (A.int far), some (A.int at_), some (A.ref j), o6, o7] ∧ Ls G' j things ∧ things.length = cs.length + 13 + 3 * i ∧ ∀ x ∈ things, ThOk G' x) ?_ ?_ ?_ _ 0 _ _ ?_ ⟨G7, _, P2, none, none, rfl, Ext.refl _, rfl, ls5.grow x57, hP2l, hth (x5.trans x57)⟩
    · rintro i e S ⟨G', j, things, o6, o7, rfl, hx, rfl, hj, hlen, hall⟩
      simp only [FI.item, (ls7.grow hx) ns p2 q2]
    · rintro i odd e S ho ⟨G', j, things, o6, o7, rfl, hx, rfl, hj, hlen, hall⟩
      have hod' : Odd G' odd := (hodd odd (List.mem_of_getElem? ho)).grow hx
      have hi := getElem_lt ho
      rw [hol] at hi
      have cl : ∀ lo hi, (cutA (cs.map A.int) lo hi).length ≤ 10 := fun lo hi => Nat.le_trans (cut_len _ _ _) (by rw [List.length_map]; exact hcl)
      unfold p1_b_bent
      simp only [wc_def, ws_seq, ws_if, ws_asg, ws_ret, ws_retN, ws_next, ws_break, ws_cont, ws_drop, ws_par, ws_for, ws_while, wt_b, wt_and, wt_or, wt_not, wt_yes, we_op, we_var, we_c, we_neg, we_and, we_or, we_not, we_ifE, we_tup, we_lst, we_call, wa_nil, wa_cons, wo_ge, wo_gt, wo_le, wo_lt, wo_pow, wo_mod, wo_mul, wo_add, wo_sub, wo_div, wo_ix, wg_name, wg_nil, wg_cons, wg_seq, wg_sub, wc_len, wc_abs, wc_min2, we_chain, we_dic, wc_list, we_rev, wo_is, wc_tuple, wp_none, wp_some, we_slice, ww_zip, zip_tt, we_lc, wo_eqI, wo_neI, wo_eqB, wo_eqP, Nat.zero_add, Nat.reduceAdd, ww_rng1, ww_seq, List.length_cons, List.length_nil, List.map_cons, List.map_nil, List.replicate, List.cons_append, List.nil_append, List.getElem?_cons_zero, List.getElem?_cons_succ, List.set_cons_zero, List.set_cons_succ, wipeE, wo_catT, we_append]
      have c1 := cl none (some at_)
      have c2 := cl (some (at_ + 1)) none
      have c3 := cl (some at_) none
      have a1 : (cutA (cs.map A.int) none (some at_) ++ [odd]).length ≤ 11 := by rw [List.length_append]; simp only [List.length_cons, List.length_nil]; omega
      refine ⟨by decide, hsz _ (by omega), hsz _ (by omega), by decide, hsz _ (by omega), hsz _ (by omega), by decide, ?_⟩
      have mixed : ∀ (xs : List A), (∀ y ∈ xs, y = odd ∨ y ∈ cs.map A.int) → xs.length ≤ 30 → ∀ {G2 : Sto}, Ext G' G2 → ThOk G2 (.tup xs) := fun xs hxs hl G2 e => th_mix (hod'.grow e) hl fun y hy => (hxs y hy).imp id (small y)
      obtain ⟨u1, hu1⟩ : ∃ u1, u1 = cutA (cs.map A.int) none (some at_) ++ [odd] := ⟨_, rfl⟩
      have hu1m : ∀ y ∈ u1, y = odd ∨ y ∈ cs.map A.int := fun y hy => by
        rw [hu1] at hy
        rcases List.mem_append.mp hy with hy | hy
        · exact .inr (cut_mem hy)
        · exact .inl (List.mem_singleton.mp hy)
      rw [← hu1] at a1 ⊢
      obtain ⟨u2, hu2⟩ : ∃ u2, u2 = u1 ++ cutA (cs.map A.int) (some (at_ + 1)) none := ⟨_, rfl⟩
      obtain ⟨u3, hu3⟩ : ∃ u3, u3 = u1 ++ cutA (cs.map A.int) (some at_) none := ⟨_, rfl⟩
      have th1 : ∀ {G2 : Sto}, Ext G' G2 → ThOk G2 (.tup u1) := mixed _ hu1m (by omega)
      have th2 : ∀ {G2 : Sto}, Ext G' G2 → ThOk G2 (.tup u2) := mixed _ (fun y hy => by
        rw [hu2] at hy
        rcases List.mem_append.mp hy with hy | hy
        · exact hu1m y hy
        · exact .inr (cut_mem hy)) (by rw [hu2, List.length_append]; omega)
      have th3 : ∀ {G2 : Sto}, Ext G' G2 → ThOk G2 (.tup u3) := mixed _ (fun y hy => by
        rw [hu3] at hy
        rcases List.mem_append.mp hy with hy | hy
        · exact hu1m y hy
        · exact .inr (cut_mem hy)) (by rw [hu3, List.length_append]; omega)
      rw [← hu2, ← hu3, ts_app, ts_len, wo_catL (xs := things) (ys := [A.tup u2, A.tup u3]) ((hj.grow (Ext.app _ _)) ns p2 q2) (Ls.new (Ext.refl _) ns p2 q2), ts_app, ts_len]
      refine ⟨hsz _ (by simp only [List.length_cons, List.length_nil]; omega), ?_⟩
      obtain ⟨M, hM⟩ : ∃ M, M = G' ++ [SO.lst [A.tup u2, A.tup u3]] := ⟨_, rfl⟩
      rw [← hM]
      simp only [ts_get]
      refine ⟨by decide, hsz _ (by omega), hsz' _ ?_, M ++ [SO.lst (things ++ [A.tup u2, A.tup u3] ++ [A.tup u1])], M.length + 2, things ++ [A.tup u2, A.tup u3] ++ [A.tup u1], o6, some odd, ts_set, hx.trans ?_, rfl, Ls.new (Ext.refl _), ?_, ?_⟩
      · simp only [List.length_append, List.length_cons, List.length_nil]
        omega
      · rw [hM, List.append_assoc]
        exact Ext.app _ _
      · simp only [List.length_append, List.length_cons, List.length_nil]
        omega
      · have eM : Ext G' (M ++ [SO.lst (things ++ [A.tup u2, A.tup u3] ++ [A.tup u1])]) := by rw [hM, List.append_assoc]; exact Ext.app _ _
        intro y hy
        simp only [List.mem_append, List.mem_cons, List.not_mem_nil, or_false] at hy
        rcases hy with (hy | rfl | rfl) | rfl
        · exact (hall y hy).grow eM
        · exact th2 eM
        · exact th3 eM
        · exact th1 eM
    · rintro e S ⟨G', j, things, o6, o7, rfl, hx, rfl, hj, hlen, hall⟩
      unfold p2_b_bent
      simp only [wc_def, ws_seq, ws_if, ws_asg, ws_ret, ws_retN, ws_next, ws_break, ws_cont, ws_drop, ws_par, ws_for, ws_while, wt_b, wt_and, wt_or, wt_not, wt_yes, we_op, we_var, we_c, we_neg, we_and, we_or, we_not, we_ifE, we_tup, we_lst, we_call, wa_nil, wa_cons, wo_ge, wo_gt, wo_le, wo_lt, wo_pow, wo_mod, wo_mul, wo_add, wo_sub, wo_div, wo_ix, wg_name, wg_nil, wg_cons, wg_seq, wg_sub, wc_len, wc_abs, wc_min2, we_chain, we_dic, wc_list, we_rev, wo_is, wc_tuple, wp_none, wp_some, we_slice, ww_zip, zip_tt, we_lc, wo_eqI, wo_neI, wo_eqB, wo_eqP, Nat.zero_add, Nat.reduceAdd, ww_rng1, ww_seq, List.length_cons, List.length_nil, List.map_cons, List.map_nil, List.replicate, List.cons_append, List.nil_append, List.getElem?_cons_zero, List.getElem?_cons_succ, List.set_cons_zero, List.set_cons_succ, wipeE]
      rw [hol] at hlen
      exact k j things p2 q2 G' hp2 (x2.trans (((Ext.app G2 [.lst P]).trans x3).trans (x4.trans (x5.trans (x57.trans hx))))) hj (by omega) (by omega) hall
    · simp only [FI.len, ls7 ns p2 q2, Nat.zero_add]
end G
namespace G
open PySem PySem.Spec L2 F
theorem one_ok {ws : List Int} {vs : List Wish} (hs : SheetOk ws vs) {ns : List Int} {p q : Int} {G : Sto} {x : A} (hx : ThOk G x) {a2 a5 a6 a7 a9 a10 a11 : Option A} {Q : Fl → Sto → Prop}
    (k : ∀ y9 y10 y11 G', Ext G G' → Q (.nx [some (.ref 0), some (.ref 1), a2, some (sheetA ws vs), some (.tup (ws.map A.int)), a5, a6, a7, some x, y9, y10, y11, none]) (TS ns p q G')) :
    WS p2_law [some (.ref 0), some (.ref 1), a2, some (sheetA ws vs), some (.tup (ws.map A.int)), a5, a6, a7, some x, a9, a10, a11, none] (TS ns p q G) Q := by
  obtain ⟨c, d, hd, hr⟩ := hx.2
  have hth : ∀ {G' : Sto}, Ext G G' → Th (TS ns p q G') x := fun e => (hx.grow e).1 ns p q
  have htd : ∀ {G' : Sto}, Ext G G' → toD (TS ns p q G') 12 x = some d := fun {G'} e => by
    obtain ⟨X, rfl⟩ := e
    exact toD_grow (X := X) _ _ _ (hd ns p q)
  unfold p2_law
  simp only [wc_def, ws_seq, ws_if, ws_asg, ws_ret, ws_retN, ws_next, ws_break, ws_cont, ws_drop, ws_par, ws_for, ws_while, wt_b, wt_and, wt_or, wt_not, wt_yes, we_op, we_var, we_c, we_neg, we_and, we_or, we_not, we_ifE, we_tup, we_lst, we_call, wa_nil, wa_cons, wo_ge, wo_gt, wo_le, wo_lt, wo_pow, wo_mod, wo_mul, wo_add, wo_sub, wo_div, wo_ix, wg_name, wg_nil, wg_cons, wg_seq, wg_sub, wc_len, wc_abs, wc_min2, we_chain, we_dic, wc_list, we_rev, wo_is, wc_tuple, wp_none, wp_some, we_slice, ww_zip, zip_tt, we_lc, wo_eqI, wo_neI, wo_eqB, wo_eqP, Nat.zero_add, Nat.reduceAdd, ww_rng1, ww_seq, List.length_cons, List.length_nil, List.map_cons, List.map_nil, List.replicate, List.cons_append, List.nil_append, List.getElem?_cons_zero, List.getElem?_cons_succ, List.set_cons_zero, List.set_cons_succ, wipeE, wc_reprT (htd (Ext.refl _)) hr (by decide) (by decide)]
  refine b_begun_any hs.len (hth (Ext.refl _)) fun X1 => ?_
  rw [ts_app]
  have x1 : Ext G (G ++ X1) := Ext.app _ _
  obtain ⟨G1, hG1⟩ : ∃ G1, G1 = G ++ X1 := ⟨_, rfl⟩
  rw [← hG1] at x1 ⊢
  refine begun_any hs (hth x1) fun X2 => ?_
  rw [ts_app]
  have x2 : Ext G (G1 ++ X2) := x1.trans (Ext.app _ _)
  obtain ⟨G2, hG2⟩ : ∃ G2, G2 = G1 ++ X2 := ⟨_, rfl⟩
  rw [← hG2] at x2 ⊢
  refine choosing_any hs (hth x2) fun X3 => ?_
  rw [ts_app]
  have x3 : Ext G (G2 ++ X3) := x2.trans (Ext.app _ _)
  obtain ⟨G3, hG3⟩ : ∃ G3, G3 = G2 ++ X3 := ⟨_, rfl⟩
  rw [← hG3] at x3 ⊢
  refine ⟨by decide, ?_⟩
  rw [ts_app, ts_len, ts_get]
  dsimp only
  have l4 : ∀ {G' : Sto}, Ext (G3 ++ [SO.lst [A.bl (begunB ws x), A.bl (fullB ws x)]]) G' → Ls G' (G3.length + 2) [A.bl (begunB ws x), A.bl (fullB ws x)] := fun e => Ls.new e
  obtain ⟨G4, hG4⟩ : ∃ G4, G4 = G3 ++ [SO.lst [A.bl (begunB ws x), A.bl (fullB ws x)]] := ⟨_, rfl⟩
  rw [← hG4] at l4 ⊢
  have x4 : Ext G G4 := by rw [hG4]; exact x3.trans (Ext.app _ _)
  refine lc_map (ys := [begunB ws x, fullB ws x]) (emb := A.bl) (fun _ => true) (fun _ => .bl true) (show 2 < sizeLine by decide) (by simp only [FI.len, l4 (Ext.refl _) ns p q]; rfl) (fun i R => ?_) (fun b hb S1 Q1 _ k2 => ?_) fun X5 => ?_
  · rw [ts_app]
    simp only [FI.item, l4 (Ext.app _ _) ns p q]
    rfl
  · simp only [wc_def, ws_seq, ws_if, ws_asg, ws_ret, ws_retN, ws_next, ws_break, ws_cont, ws_drop, ws_par, ws_for, ws_while, wt_b, wt_and, wt_or, wt_not, wt_yes, we_op, we_var, we_c, we_neg, we_and, we_or, we_not, we_ifE, we_tup, we_lst, we_call, wa_nil, wa_cons, wo_ge, wo_gt, wo_le, wo_lt, wo_pow, wo_mod, wo_mul, wo_add, wo_sub, wo_div, wo_ix, wg_name, wg_nil, wg_cons, wg_seq, wg_sub, wc_len, wc_abs, wc_min2, we_chain, we_dic, wc_list, we_rev, wo_is, wc_tuple, wp_none, wp_some, we_slice, ww_zip, zip_tt, we_lc, wo_eqI, wo_neI, wo_eqB, wo_eqP, Nat.zero_add, Nat.reduceAdd, ww_rng1, ww_seq, List.length_cons, List.length_nil, List.map_cons, List.map_nil, List.replicate, List.cons_append, List.nil_append, List.getElem?_cons_zero, List.getElem?_cons_succ, List.set_cons_zero, List.set_cons_succ, wipeE, isi_bool (show Known S1 (A.bl b) from trivial), if_true]
    have := k2 [] rfl
    rw [List.append_nil] at this
    exact this
  · have e : bls (([begunB ws x, fullB ws x].filter fun _ => true).map fun _ => A.bl true) = some [true, true] := rfl
    simp only [wc_all, seq_at, e]
    rw [ts_app]
    have x5 : Ext G4 (G4 ++ SO.lst (([begunB ws x, fullB ws x].filter fun _ => true).map fun _ => A.bl true) :: X5) := Ext.app _ _
    obtain ⟨G5, hG5⟩ : ∃ G5, G5 = G4 ++ SO.lst (([begunB ws x, fullB ws x].filter fun _ => true).map fun _ => A.bl true) :: X5 := ⟨_, rfl⟩
    rw [← hG5] at x5 ⊢
    rw [if_neg (by decide), wc_reprT (htd (x4.trans x5)) hr (by decide) (by decide), wo_neS hr.shs hr.shs]
    simp only [BEq.rfl]
    rw [if_neg (by decide)]
    unfold p1_law
    have fin : ∀ (b : Bool), b = fullB ws x → ∀ (S : Sto), S = TS ns p q G5 → 2 ≤ sizeLine ∧ WO (gEqD true) (.ref (G3.length + 2)) (.ref S.length) (S ++ [SO.lst [A.bl (begunB ws x), A.bl b]]) fun y S1 => (match y with
        | .bl b => if b = true then Q (.rt (.bl false)) S1 else Q (.nx [some (.ref 0), some (.ref 1), a2, some (sheetA ws vs), some (.tup (ws.map A.int)), a5, a6, a7, some x, some (.str d.shown), some (.bl (begunB ws x)), some (.ref (G3.length + 2)), none]) S1
        | _ => False) := by
      rintro b rfl S rfl
      refine ⟨by decide, ?_⟩
      rw [ts_app, ts_len, wo_neLB (l4 (x5.trans (Ext.app _ _)) ns p q) (Ls.new (Ext.refl _) ns p q)]
      dsimp only
      rw [decide_eq_true rfl, decide_eq_true rfl, if_neg (by decide)]
      exact k _ _ _ _ (x4.trans (x5.trans (Ext.app _ _)))
    simp only [wc_def, ws_seq, ws_if, ws_asg, ws_ret, ws_retN, ws_next, ws_break, ws_cont, ws_drop, ws_par, ws_for, ws_while, wt_b, wt_and, wt_or, wt_not, wt_yes, we_op, we_var, we_c, we_neg, we_and, we_or, we_not, we_ifE, we_tup, we_lst, we_call, wa_nil, wa_cons, wo_ge, wo_gt, wo_le, wo_lt, wo_pow, wo_mod, wo_mul, wo_add, wo_sub, wo_div, wo_ix, wg_name, wg_nil, wg_cons, wg_seq, wg_sub, wc_len, wc_abs, wc_min2, we_chain, we_dic, wc_list, we_rev, wo_is, wc_tuple, wp_none, wp_some, we_slice, ww_zip, zip_tt, we_lc, wo_eqI, wo_neI, wo_eqB, wo_eqP, Nat.zero_add, Nat.reduceAdd, ww_rng1, ww_seq, List.length_cons, List.length_nil, List.map_cons, List.map_nil, List.replicate, List.cons_append, List.nil_append, List.getElem?_cons_zero, List.getElem?_cons_succ, List.set_cons_zero, List.set_cons_succ, wipeE]
    cases hb : begunB ws x with
    | false =>
      rw [if_neg Bool.false_ne_true]
      have := fin false (by unfold fullB; rw [hb]; rfl) _ rfl
      rw [hb] at this
      exact this
    | true =>
      rw [if_pos rfl]
      cases x with
      | tup xs =>
        simp only [wc_def, ws_seq, ws_if, ws_asg, ws_ret, ws_retN, ws_next, ws_break, ws_cont, ws_drop, ws_par, ws_for, ws_while, wt_b, wt_and, wt_or, wt_not, wt_yes, we_op, we_var, we_c, we_neg, we_and, we_or, we_not, we_ifE, we_tup, we_lst, we_call, wa_nil, wa_cons, wo_ge, wo_gt, wo_le, wo_lt, wo_pow, wo_mod, wo_mul, wo_add, wo_sub, wo_div, wo_ix, wg_name, wg_nil, wg_cons, wg_seq, wg_sub, wc_len, wc_abs, wc_min2, we_chain, we_dic, wc_list, we_rev, wo_is, wc_tuple, wp_none, wp_some, we_slice, ww_zip, zip_tt, we_lc, wo_eqI, wo_neI, wo_eqB, wo_eqP, Nat.zero_add, Nat.reduceAdd, ww_rng1, ww_seq, List.length_cons, List.length_nil, List.map_cons, List.map_nil, List.replicate, List.cons_append, List.nil_append, List.getElem?_cons_zero, List.getElem?_cons_succ, List.set_cons_zero, List.set_cons_succ, wipeE, seq_tup, List.length_map]
        have := fin (decide ((xs.length : Int) = (ws.length : Int))) (by
          unfold fullB
          rw [hb, Bool.true_and]
          dsimp only
          congr 1
          exact propext ⟨fun z => by omega, fun z => by omega⟩) _ rfl
        rw [hb] at this
        exact this
      | _ => exact absurd hb (by unfold begunB; exact Bool.false_ne_true)
theorem all_ok {ws : List Int} {vs : List Wish} (hs : SheetOk ws vs) {ns : List Int} {p q : Int} {G : Sto} {j : Nat} {things : List A} (hj : Ls G j things) (hall : ∀ x ∈ things, ThOk G x) {a2 a5 a7 a8 a9 a10 a11 : Option A} {Q : Fl → Sto → Prop}
    (k : ∀ y8 y9 y10 y11 G', Ext G G' → Q (.nx [some (.ref 0), some (.ref 1), a2, some (sheetA ws vs), some (.tup (ws.map A.int)), a5, some (.ref j), a7, y8, y9, y10, y11, none]) (TS ns p q G')) :
    WS p3_law [some (.ref 0), some (.ref 1), a2, some (sheetA ws vs), some (.tup (ws.map A.int)), a5, some (.ref j), a7, a8, a9, a10, a11, none] (TS ns p q G) Q := by
  unfold p3_law
  simp only [wc_def, ws_seq, ws_if, ws_asg, ws_ret, ws_retN, ws_next, ws_break, ws_cont, ws_drop, ws_par, ws_for, ws_while, wt_b, wt_and, wt_or, wt_not, wt_yes, we_op, we_var, we_c, we_neg, we_and, we_or, we_not, we_ifE, we_tup, we_lst, we_call, wa_nil, wa_cons, wo_ge, wo_gt, wo_le, wo_lt, wo_pow, wo_mod, wo_mul, wo_add, wo_sub, wo_div, wo_ix, wg_name, wg_nil, wg_cons, wg_seq, wg_sub, wc_len, wc_abs, wc_min2, we_chain, we_dic, wc_list, we_rev, wo_is, wc_tuple, wp_none, wp_some, we_slice, ww_zip, zip_tt, we_lc, wo_eqI, wo_neI, wo_eqB, wo_eqP, Nat.zero_add, Nat.reduceAdd, ww_rng1, ww_seq, List.length_cons, List.length_nil, List.map_cons, List.map_nil, List.replicate, List.cons_append, List.nil_append, List.getElem?_cons_zero, List.getElem?_cons_succ, List.set_cons_zero, List.set_cons_succ, wipeE, hj ns p q]
  refine loop_ok (xs := things) (fun i e S => ∃ (G' : Sto) (o8 o9 o10 o11 : Option A), S = TS ns p q G' ∧ Ext G G' ∧ e = [some (.ref 0), some (.ref 1), a2, some (sheetA ws vs), some (.tup (ws.map A.int)), a5, some (.ref j), a7, o8, o9, o10, o11, none]) ?_ ?_ ?_ _ 0 _ _ ?_ ⟨G, a8, a9, a10, a11, rfl, Ext.refl _, rfl⟩
  · rintro i e S ⟨G', o8, o9, o10, o11, rfl, hx, rfl⟩
    simp only [FI.item, (hj.grow hx) ns p q]
  · rintro i x e S hxi ⟨G', o8, o9, o10, o11, rfl, hx, rfl⟩
    simp only [wc_def, ws_seq, ws_if, ws_asg, ws_ret, ws_retN, ws_next, ws_break, ws_cont, ws_drop, ws_par, ws_for, ws_while, wt_b, wt_and, wt_or, wt_not, wt_yes, we_op, we_var, we_c, we_neg, we_and, we_or, we_not, we_ifE, we_tup, we_lst, we_call, wa_nil, wa_cons, wo_ge, wo_gt, wo_le, wo_lt, wo_pow, wo_mod, wo_mul, wo_add, wo_sub, wo_div, wo_ix, wg_name, wg_nil, wg_cons, wg_seq, wg_sub, wc_len, wc_abs, wc_min2, we_chain, we_dic, wc_list, we_rev, wo_is, wc_tuple, wp_none, wp_some, we_slice, ww_zip, zip_tt, we_lc, wo_eqI, wo_neI, wo_eqB, wo_eqP, Nat.zero_add, Nat.reduceAdd, ww_rng1, ww_seq, List.length_cons, List.length_nil, List.map_cons, List.map_nil, List.replicate, List.cons_append, List.nil_append, List.getElem?_cons_zero, List.getElem?_cons_succ, List.set_cons_zero, List.set_cons_succ, wipeE]
    exact one_ok hs ((hall x (List.mem_of_getElem? hxi)).grow hx) fun y9 y10 y11 G2 h2 => ⟨G2, _, _, _, _, rfl, hx.trans h2, rfl⟩
  · rintro e S ⟨G', o8, o9, o10, o11, rfl, hx, rfl⟩
    exact k _ _ _ _ G' hx
  · simp only [FI.len, hj ns p q, Nat.zero_add]
theorem to_ex {α β : Type} {o : Option (α × β)} {v : α} (h : W o fun x _ => x = v) : ∃ w, o = some (v, w) := by
  obtain ⟨x, w, e, rfl⟩ := h.ex
  exact ⟨w, e⟩
theorem nw_ok {i : Nat} (hi : i < 3) : ∃ nw : Int, atI [A.int 16, A.int 4, A.int 4] (0 + (i : Int)) = some (.int nw) ∧ 0 ≤ nw ∧ nw ≤ 16 := by
  obtain ⟨c, hc, hm⟩ := at_mem (xs := [A.int 16, A.int 4, A.int 4]) (p := 0 + (i : Int)) (by omega) (by simp only [List.length_cons, List.length_nil]; omega)
  simp only [List.mem_cons, List.not_mem_nil, or_false] at hm
  rcases hm with rfl | rfl | rfl
  · exact ⟨_, hc, by decide, by decide⟩
  · exact ⟨_, hc, by decide, by decide⟩
  · exact ⟨_, hc, by decide, by decide⟩
theorem law_true : ∀ ns : List Int, ns.length ≤ 63 → ∃ S', m_law [.ref 0] [.fz (ns.map A.int)] = some (.bl true, S') := by
  intro ns hns
  apply to_ex
  show WC m_law [.ref 0] [.fz (ns.map A.int)] _
  unfold m_law f_law
  simp only [wc_def, ws_seq, ws_if, ws_asg, ws_ret, ws_retN, ws_next, ws_break, ws_cont, ws_drop, ws_par, ws_for, ws_while, wt_b, wt_and, wt_or, wt_not, wt_yes, we_op, we_var, we_c, we_neg, we_and, we_or, we_not, we_ifE, we_tup, we_lst, we_call, wa_nil, wa_cons, wo_ge, wo_gt, wo_le, wo_lt, wo_pow, wo_mod, wo_mul, wo_add, wo_sub, wo_div, wo_ix, wg_name, wg_nil, wg_cons, wg_seq, wg_sub, wc_len, wc_abs, wc_min2, we_chain, we_dic, wc_list, we_rev, wo_is, wc_tuple, wp_none, wp_some, we_slice, ww_zip, zip_tt, we_lc, wo_eqI, wo_neI, wo_eqB, wo_eqP, Nat.zero_add, Nat.reduceAdd, ww_rng1, ww_seq, List.length_cons, List.length_nil, List.map_cons, List.map_nil, List.replicate, List.cons_append, List.nil_append, List.getElem?_cons_zero, List.getElem?_cons_succ, List.set_cons_zero, List.set_cons_succ, wipeE]
  refine ⟨trivial, by decide, by decide, ?_⟩
  have start : ([SO.fz (List.map A.int ns), SO.lst [A.ref 0, A.int 0, A.int 0]] : Sto) = TS ns 0 0 [] := rfl
  rw [start]
  refine loop_items (fun i e S => ∃ x2 x3 x4 x5 x6 x7 x8 x9 x10 x11, e = [some (.ref 0), some (.ref 1), x2, x3, x4, x5, x6, x7, x8, x9, x10, x11, none] ∧ ∃ p q G, 0 ≤ p ∧ S = TS ns p q G) ?_ (fun e S h => ?_) _ _ _ _ (by simp [FI.len]) ⟨_, _, _, _, _, _, _, _, _, _, rfl, 0, 0, [], by decide, rfl⟩
  · rintro i x e S hx ⟨x2, x3, x4, x5, x6, x7, x8, x9, x10, x11, rfl, p, q, G, hp, rfl⟩
    rw [rngA_get] at hx
    split at hx
    · rename_i hi3
      cases hx
      have main : ∀ (Q : Fl → Sto → Prop), (∀ y2 y3 y4 y5 y6 y7 y8 y9 y10 y11 p' q' G', 0 ≤ p' → Q (.nx [some (.ref 0), some (.ref 1), y2, y3, y4, y5, y6, y7, y8, y9, y10, y11, none]) (TS ns p' q' G')) →
          WS p4_law [some (.ref 0), some (.ref 1), some (A.int (0 + (i : Nat))), x3, x4, x5, x6, x7, x8, x9, x10, x11, none] (TS ns p q G) Q := by
        intro Q k
        obtain ⟨nw, hnw, hn0, hn1⟩ := nw_ok hi3
        unfold p4_law
        simp only [wc_def, ws_seq, ws_if, ws_asg, ws_ret, ws_retN, ws_next, ws_break, ws_cont, ws_drop, ws_par, ws_for, ws_while, wt_b, wt_and, wt_or, wt_not, wt_yes, we_op, we_var, we_c, we_neg, we_and, we_or, we_not, we_ifE, we_tup, we_lst, we_call, wa_nil, wa_cons, wo_ge, wo_gt, wo_le, wo_lt, wo_pow, wo_mod, wo_mul, wo_add, wo_sub, wo_div, wo_ix, wg_name, wg_nil, wg_cons, wg_seq, wg_sub, wc_len, wc_abs, wc_min2, we_chain, we_dic, wc_list, we_rev, wo_is, wc_tuple, wp_none, wp_some, we_slice, ww_zip, zip_tt, we_lc, wo_eqI, wo_neI, wo_eqB, wo_eqP, Nat.zero_add, Nat.reduceAdd, ww_rng1, ww_seq, List.length_cons, List.length_nil, List.map_cons, List.map_nil, List.replicate, List.cons_append, List.nil_append, List.getElem?_cons_zero, List.getElem?_cons_succ, List.set_cons_zero, List.set_cons_succ, wipeE, ts_app, ts_len, ts_seq, hnw]
        refine ⟨by decide, ?_⟩
        refine (b_sheet_tk (np := 10) (nw := nw) (by decide) (by decide) hn0 hn1).ge hp fun v p1 q1 G1 hv hp1 x1 => ?_
        obtain ⟨ws, vs, rfl, hok⟩ := hv
        have es : seqOf (TS ns p1 q1 G1) (sheetA ws vs) = some [.tup (ws.map A.int), .tup (vs.map wishA)] := rfl
        simp only [wc_def, ws_seq, ws_if, ws_asg, ws_ret, ws_retN, ws_next, ws_break, ws_cont, ws_drop, ws_par, ws_for, ws_while, wt_b, wt_and, wt_or, wt_not, wt_yes, we_op, we_var, we_c, we_neg, we_and, we_or, we_not, we_ifE, we_tup, we_lst, we_call, wa_nil, wa_cons, wo_ge, wo_gt, wo_le, wo_lt, wo_pow, wo_mod, wo_mul, wo_add, wo_sub, wo_div, wo_ix, wg_name, wg_nil, wg_cons, wg_seq, wg_sub, wc_len, wc_abs, wc_min2, we_chain, we_dic, wc_list, we_rev, wo_is, wc_tuple, wp_none, wp_some, we_slice, ww_zip, zip_tt, we_lc, wo_eqI, wo_neI, wo_eqB, wo_eqP, Nat.zero_add, Nat.reduceAdd, ww_rng1, ww_seq, List.length_cons, List.length_nil, List.map_cons, List.map_nil, List.replicate, List.cons_append, List.nil_append, List.getElem?_cons_zero, List.getElem?_cons_succ, List.set_cons_zero, List.set_cons_succ, wipeE, es, at0]
        refine (b_choosing_tk hok.len hok.ok).ge hp1 fun v p2 q2 G2 hv hp2 x2 => ?_
        obtain ⟨cs, rfl, hc⟩ := hv
        refine bent_ok hok.len hok.ok hc hp2 fun j things p3 q3 G3 hp3 x3 hj hl0 hl1 hall => ?_
        split
        · refine ⟨by decide, ?_⟩
          simp only [ts_app, ts_len]
          rw [range_ints]
          refine lc_tp (α := Nat) (β := A) (xs := List.range (Int.toNat 20)) (ea := fun i => A.int ((i : Nat) : Int)) (eb := id) (fun _ y => y ∈ things) hp3 (by decide) (by simp [FI.len]) tp_items (fun i hi p q G' Q1 hp hx k1 => ?_) fun p4 q4 G4 zs hp4 hz hv x4 => ?_
          · have sq : seqOf (TS ns p q G') (.ref j) = some things := (hj.grow hx).seq
            simp only [wc_def, ws_seq, ws_if, ws_asg, ws_ret, ws_retN, ws_next, ws_break, ws_cont, ws_drop, ws_par, ws_for, ws_while, wt_b, wt_and, wt_or, wt_not, wt_yes, we_op, we_var, we_c, we_neg, we_and, we_or, we_not, we_ifE, we_tup, we_lst, we_call, wa_nil, wa_cons, wo_ge, wo_gt, wo_le, wo_lt, wo_pow, wo_mod, wo_mul, wo_add, wo_sub, wo_div, wo_ix, wg_name, wg_nil, wg_cons, wg_seq, wg_sub, wc_len, wc_abs, wc_min2, we_chain, we_dic, wc_list, we_rev, wo_is, wc_tuple, wp_none, wp_some, we_slice, ww_zip, zip_tt, we_lc, wo_eqI, wo_neI, wo_eqB, wo_eqP, Nat.zero_add, Nat.reduceAdd, ww_rng1, ww_seq, List.length_cons, List.length_nil, List.map_cons, List.map_nil, List.replicate, List.cons_append, List.nil_append, List.getElem?_cons_zero, List.getElem?_cons_succ, List.set_cons_zero, List.set_cons_succ, wipeE, sq]
            refine (take_tk (m := (things.length : Int)) (by omega) (lg (by omega) (by omega))).ge hp fun v p5 q5 G5 hv hp5 x5 => ?_
            obtain ⟨n, rfl, hn0, hn1⟩ := hv
            obtain ⟨y, hat, hy⟩ := at_mem (xs := things) hn0 hn1
            have sq5 : seqOf (TS ns p5 q5 G5) (.ref j) = some things := (hj.grow (hx.trans x5)).seq
            simp only [wc_def, ws_seq, ws_if, ws_asg, ws_ret, ws_retN, ws_next, ws_break, ws_cont, ws_drop, ws_par, ws_for, ws_while, wt_b, wt_and, wt_or, wt_not, wt_yes, we_op, we_var, we_c, we_neg, we_and, we_or, we_not, we_ifE, we_tup, we_lst, we_call, wa_nil, wa_cons, wo_ge, wo_gt, wo_le, wo_lt, wo_pow, wo_mod, wo_mul, wo_add, wo_sub, wo_div, wo_ix, wg_name, wg_nil, wg_cons, wg_seq, wg_sub, wc_len, wc_abs, wc_min2, we_chain, we_dic, wc_list, we_rev, wo_is, wc_tuple, wp_none, wp_some, we_slice, ww_zip, zip_tt, we_lc, wo_eqI, wo_neI, wo_eqB, wo_eqP, Nat.zero_add, Nat.reduceAdd, ww_rng1, ww_seq, List.length_cons, List.length_nil, List.map_cons, List.map_nil, List.replicate, List.cons_append, List.nil_append, List.getElem?_cons_zero, List.getElem?_cons_succ, List.set_cons_zero, List.set_cons_succ, wipeE, sq5, hat]
            exact k1 y _ _ _ hy hp5 x5
          · refine all_ok hok (Ls.new x4) (fun y hy => ?_) fun y8 y9 y10 y11 G5 h5 => k _ _ _ _ _ _ _ _ _ _ _ _ _ hp4
            obtain ⟨z, hz', rfl⟩ := List.mem_map.mp hy
            exact (hall _ (hv z hz')).grow x4.of
        · exact all_ok hok hj hall fun y8 y9 y10 y11 G5 h5 => k _ _ _ _ _ _ _ _ _ _ _ _ _ hp3
      unfold p5_law
      simp only [wc_def, ws_seq, ws_if, ws_asg, ws_ret, ws_retN, ws_next, ws_break, ws_cont, ws_drop, ws_par, ws_for, ws_while, wt_b, wt_and, wt_or, wt_not, wt_yes, we_op, we_var, we_c, we_neg, we_and, we_or, we_not, we_ifE, we_tup, we_lst, we_call, wa_nil, wa_cons, wo_ge, wo_gt, wo_le, wo_lt, wo_pow, wo_mod, wo_mul, wo_add, wo_sub, wo_div, wo_ix, wg_name, wg_nil, wg_cons, wg_seq, wg_sub, wc_len, wc_abs, wc_min2, we_chain, we_dic, wc_list, we_rev, wo_is, wc_tuple, wp_none, wp_some, we_slice, ww_zip, zip_tt, we_lc, wo_eqI, wo_neI, wo_eqB, wo_eqP, Nat.zero_add, Nat.reduceAdd, ww_rng1, ww_seq, List.length_cons, List.length_nil, List.map_cons, List.map_nil, List.replicate, List.cons_append, List.nil_append, List.getElem?_cons_zero, List.getElem?_cons_succ, List.set_cons_zero, List.set_cons_succ, wipeE, ts_tape, ts_script, at31]
      split
      · split
        · unfold p6_law
          simp only [wc_def, ws_seq, ws_if, ws_asg, ws_ret, ws_retN, ws_next, ws_break, ws_cont, ws_drop, ws_par, ws_for, ws_while, wt_b, wt_and, wt_or, wt_not, wt_yes, we_op, we_var, we_c, we_neg, we_and, we_or, we_not, we_ifE, we_tup, we_lst, we_call, wa_nil, wa_cons, wo_ge, wo_gt, wo_le, wo_lt, wo_pow, wo_mod, wo_mul, wo_add, wo_sub, wo_div, wo_ix, wg_name, wg_nil, wg_cons, wg_seq, wg_sub, wc_len, wc_abs, wc_min2, we_chain, we_dic, wc_list, we_rev, wo_is, wc_tuple, wp_none, wp_some, we_slice, ww_zip, zip_tt, we_lc, wo_eqI, wo_neI, wo_eqB, wo_eqP, Nat.zero_add, Nat.reduceAdd, ww_rng1, ww_seq, List.length_cons, List.length_nil, List.map_cons, List.map_nil, List.replicate, List.cons_append, List.nil_append, List.getElem?_cons_zero, List.getElem?_cons_succ, List.set_cons_zero, List.set_cons_succ, wipeE]
        · exact main _ fun y2 y3 y4 y5 y6 y7 y8 y9 y10 y11 p' q' G' hp' => ⟨y2, y3, y4, y5, y6, y7, y8, y9, y10, y11, rfl, p', q', G', hp', rfl⟩
      · rw [if_neg (by decide)]
        exact main _ fun y2 y3 y4 y5 y6 y7 y8 y9 y10 y11 p' q' G' hp' => ⟨y2, y3, y4, y5, y6, y7, y8, y9, y10, y11, rfl, p', q', G', hp', rfl⟩
    · cases hx
  · obtain ⟨x2, x3, x4, x5, x6, x7, x8, x9, x10, x11, rfl, p, q, G, hp, rfl⟩ := h
    unfold p6_law
    simp only [wc_def, ws_seq, ws_if, ws_asg, ws_ret, ws_retN, ws_next, ws_break, ws_cont, ws_drop, ws_par, ws_for, ws_while, wt_b, wt_and, wt_or, wt_not, wt_yes, we_op, we_var, we_c, we_neg, we_and, we_or, we_not, we_ifE, we_tup, we_lst, we_call, wa_nil, wa_cons, wo_ge, wo_gt, wo_le, wo_lt, wo_pow, wo_mod, wo_mul, wo_add, wo_sub, wo_div, wo_ix, wg_name, wg_nil, wg_cons, wg_seq, wg_sub, wc_len, wc_abs, wc_min2, we_chain, we_dic, wc_list, we_rev, wo_is, wc_tuple, wp_none, wp_some, we_slice, ww_zip, zip_tt, we_lc, wo_eqI, wo_neI, wo_eqB, wo_eqP, Nat.zero_add, Nat.reduceAdd, ww_rng1, ww_seq, List.length_cons, List.length_nil, List.map_cons, List.map_nil, List.replicate, List.cons_append, List.nil_append, List.getElem?_cons_zero, List.getElem?_cons_succ, List.set_cons_zero, List.set_cons_succ, wipeE]
end G
open PySem PySem.W PyProof.Rows
set_option maxRecDepth 100000 in
set_option maxHeartbeats 0 in
theorem PySem.Challenge.cw_meanchoice_k02_choosings_of_anything_holds : PySem.Challenge.rw_meanchoice_k02_choosings_of_anything.Holds := by
  w_on; o_law; k_head; (case hw => w_witness2)
  k_fill
  refine G.walk (l := PySem.Challenge.rw_meanchoice_k02_choosings_of_anything) rfl rfl (fun w h Y => PySem.W.kIn_of Y) G.law_true ?F
  case F =>
    intro w mg fa h KX GN hmg
    refine' _root_.G.all_mk KX GN hmg ?q0 ?l0 ?c0 ?k0 ?q1 ?l1 ?c1 ?k1 ?q2 ?l2 ?c2 ?k2 ?q3 ?l3 ?c3 ?k3 ?q4 ?l4 ?c4 ?k4 ?q5 ?l5 ?c5 ?k5 ?q6 ?l6 ?c6 ?k6 ?q7 ?l7 ?c7 ?k7 ?q8 ?l8 ?c8 ?k8 ?q9 ?l9 ?c9 ?k9 ?q10 ?l10 ?c10 ?k10 ?q11 ?l11 ?c11 ?k11 ?q12 ?l12 ?c12 ?k12 ?q13 ?l13 ?c13 ?k13 ?q14 ?l14 ?c14 ?k14 ?q15 ?l15 ?c15 ?k15 ?q16 ?l16 ?c16 ?k16 ?q17 ?l17 ?c17 ?k17 ?q18 ?l18 ?c18 ?k18 ?q19 ?l19 ?c19 ?k19 ?q20 ?l20 ?c20 ?k20 ?q21 ?l21 ?c21 ?k21 ?q22 ?l22 ?c22 ?k22 ?q23 ?l23 ?c23 ?k23 ?q24 ?l24 ?c24 ?k24 ?q25 ?l25 ?c25 ?k25 ?z_all ?z_bool ?z_int ?z_isinstance ?z_len ?z_list ?z_range ?z_repr ?z_tuple ?z_zip ?z_KINDS ?z_MOST_PLACES ?z_MOST_WAYS ?z_MOST_WEIGHT ?z_MOST_WISHES ?l_KINDS
    (case q0 => k_is)
    (case l0 => k_is)
    (case c0 => k_is)
    (case k0 => k_is)
    (case q1 => k_is)
    (case l1 => k_is)
    (case c1 => k_is)
    (case k1 => k_is)
    (case q2 => k_is)
    (case l2 => k_is)
    (case c2 => k_is)
    (case k2 => k_is)
    (case q3 => k_is)
    (case l3 => k_is)
    (case c3 => k_is)
    (case k3 => k_is)
    (case q4 => k_is)
    (case l4 => k_is)
    (case c4 => k_is)
    (case k4 => k_is)
    (case q5 => k_is)
    (case l5 => k_is)
    (case c5 => k_is)
    (case k5 => k_is)
    (case q6 => k_is)
    (case l6 => k_is)
    (case c6 => k_is)
    (case k6 => k_is)
    (case q7 => k_is)
    (case l7 => k_is)
    (case c7 => k_is)
    (case k7 => k_is)
    (case q8 => k_is)
    (case l8 => k_is)
    (case c8 => k_is)
    (case k8 => k_is)
    (case q9 => k_is)
    (case l9 => k_is)
    (case c9 => k_is)
    (case k9 => k_is)
    (case q10 => k_is)
    (case l10 => k_is)
    (case c10 => k_is)
    (case k10 => k_is)
    (case q11 => k_is)
    (case l11 => k_is)
    (case c11 => k_is)
    (case k11 => k_is)
    (case q12 => k_is)
    (case l12 => k_is)
    (case c12 => k_is)
    (case k12 => k_is)
    (case q13 => k_is)
    (case l13 => k_is)
    (case c13 => k_is)
    (case k13 => k_is)
    (case q14 => k_is)
    (case l14 => k_is)
    (case c14 => k_is)
    (case k14 => k_is)
    (case q15 => k_is)
    (case l15 => k_is)
    (case c15 => k_is)
    (case k15 => k_is)
    (case q16 => k_is)
    (case l16 => k_is)
    (case c16 => k_is)
    (case k16 => k_is)
    (case q17 => k_is)
    (case l17 => k_is)
    (case c17 => k_is)
    (case k17 => k_is)
    (case q18 => k_is)
    (case l18 => k_is)
    (case c18 => k_is)
    (case k18 => k_is)
    (case q19 => k_is)
    (case l19 => k_is)
    (case c19 => k_is)
    (case k19 => k_is)
    (case q20 => k_is)
    (case l20 => k_is)
    (case c20 => k_is)
    (case k20 => k_is)
    (case q21 => k_is)
    (case l21 => k_is)
    (case c21 => k_is)
    (case k21 => k_is)
    (case q22 => k_is)
    (case l22 => k_is)
    (case c22 => k_is)
    (case k22 => k_is)
    (case q23 => k_is)
    (case l23 => k_is)
    (case c23 => k_is)
    (case k23 => k_is)
    (case q24 => k_is)
    (case l24 => k_is)
    (case c24 => k_is)
    (case k24 => k_is)
    (case q25 => k_is)
    (case l25 => k_is)
    (case c25 => k_is)
    (case k25 => k_is)
    (case z_all => k_is)
    (case z_bool => k_is)
    (case z_int => k_is)
    (case z_isinstance => k_is)
    (case z_len => k_is)
    (case z_list => k_is)
    (case z_range => k_is)
    (case z_repr => k_is)
    (case z_tuple => k_is)
    (case z_zip => k_is)
    (case z_KINDS => k_is)
    (case z_MOST_PLACES => k_is)
    (case z_MOST_WAYS => k_is)
    (case z_MOST_WEIGHT => k_is)
    (case z_MOST_WISHES => k_is)
    (case l_KINDS => k_is)

