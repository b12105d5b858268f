import PyProof.Rows.All
import Wide.All
import OpenK.AllK
import Wide.FinOn
import PyProof.EqAt
import PyProof.EqKinds
import PyProof.TupleCall
import KE.BitLaws
import KE.KSortTup
import PyProof.IsiPairs
import PyProof.IsiHeapPairs
import PyProof.Rows.CountFlat
import PyProof.ListMulRoad
import PyProof.ListRange
import PyProof.Rows.SetFrom
import PyProof.ZipIter
import PyProof.Rows.InDataRows
import PySem.Challenge.RW_pistonrounds_k40_rests_of_groups
set_option Elab.async false
set_option linter.all false
set_option maxRecDepth 100000
namespace L2
open PySem PySem.Spec PyProof.Rows
abbrev Key := Sum Int Str
def keyIs : Key → Value → Bool
  | .inl k, v => Value.isInt k v
  | .inr x, v => Value.isStrOf x v
def keyH (w : World) : Key → Int
  | .inl k => hashInt k
  | .inr x => hashStr w x
theorem keyIs_shape : ∀ {k : Key} {v : Value}, keyIs k v = true → (∃ i t, k = Sum.inl i ∧ v = Value.int i t) ∨ (∃ x t, k = Sum.inr x ∧ v = Value.str x t)
  | .inl i, v, h => by
    obtain ⟨t, e⟩ := Value.isInt_shape (k := i) (v := v) h
    exact .inl ⟨i, t, rfl, e⟩
  | .inr x, v, h => by
    obtain ⟨t, e⟩ := Value.isStrOf_shape (x := x) (v := v) h
    exact .inr ⟨x, t, rfl, e⟩
theorem key_ll (a b : Int) : decide ((Sum.inl a : Key) = Sum.inl b) = (a == b) := by
  by_cases e : a = b
  · subst e; simp
  · have h : ¬ (Sum.inl a : Key) = Sum.inl b := fun q => e (Sum.inl.inj q)
    rw [decide_eq_false h]
    exact (beq_eq_false_iff_ne.mpr e).symm
theorem key_rr (a b : Str) : decide ((Sum.inr a : Key) = Sum.inr b) = decide (a = b) := by
  by_cases e : a = b
  · subst e; simp
  · have h : ¬ (Sum.inr a : Key) = Sum.inr b := fun q => e (Sum.inr.inj q)
    rw [decide_eq_false h, decide_eq_false e]
theorem key_lr (a : Int) (b : Str) : decide ((Sum.inl a : Key) = Sum.inr b) = false := decide_eq_false (fun q => nomatch q)
theorem key_rl (a : Str) (b : Int) : decide ((Sum.inr a : Key) = Sum.inl b) = false := decide_eq_false (fun q => nomatch q)
def mixKind (prog : Program) (w : World) : PySem.KeyKind prog w Key where
  is := keyIs
  hash := keyH w
  inj := fun v a b ha hb => by
    rcases keyIs_shape ha with ⟨i, t, rfl, rfl⟩ | ⟨x, t, rfl, rfl⟩
    · rcases keyIs_shape hb with ⟨j, u, rfl, e⟩ | ⟨y, u, rfl, e⟩
      · injection e with e1 _; rw [e1]
      · exact nomatch e
    · rcases keyIs_shape hb with ⟨j, u, rfl, e⟩ | ⟨y, u, rfl, e⟩
      · exact nomatch e
      · injection e with e1 _; rw [e1]
  byValue := fun k v h => by
    rcases keyIs_shape h with ⟨i, t, rfl, rfl⟩ | ⟨x, t, rfl, rfl⟩ <;> rfl
  pyHash := fun hv h => by
    rcases keyIs_shape hv with ⟨i, t, rfl, rfl⟩ | ⟨x, t, rfl, rfl⟩
    · exact wpAny_pyHash_int h
    · exact wpAny_pyHash_str h
  eqBool := fun hu hv h => by
    rcases keyIs_shape hu with ⟨i, t, rfl, rfl⟩ | ⟨x, t, rfl, rfl⟩
    · rcases keyIs_shape hv with ⟨j, u, rfl, rfl⟩ | ⟨y, u, rfl, rfl⟩
      · rw [key_ll] at h; exact wpAny_eqBool_int h
      · rw [key_lr] at h; exact SeqAt.EqAt.int_str i t y u _ _ _ _ h
    · rcases keyIs_shape hv with ⟨j, u, rfl, rfl⟩ | ⟨y, u, rfl, rfl⟩
      · rw [key_rl] at h; exact SeqAt.EqAt.str_int x t j u _ _ _ _ h
      · rw [key_rr] at h; exact wpAny_eqBool_str h
  «strs» := fun k x t v h => by
    rcases keyIs_shape h with ⟨i, u, rfl, e⟩ | ⟨y, u, rfl, e⟩
    · exact nomatch e
    · injection e with e1 _
      subst e1
      cases v <;> rfl
end L2
namespace L2
open PySem PySem.Spec PyProof.Rows
inductive V where
  | non | bl (b : Bool) | int (i : Int) | str (x : Str) | byt (b : Array UInt8) | flt (b : UInt64) | ref (a : Addr) | ty (n : String)
  deriving DecidableEq
def RelV : V → Value → Prop
  | .non, u => u = Value.none
  | .bl b, u => u = Value.bool b
  | .int i, u => ∃ t, u = Value.int i t
  | .str x, u => ∃ t, u = Value.str x t
  | .byt b, u => ∃ t, u = Value.bytes b t
  | .flt b, u => ∃ t, u = Value.float b t
  | .ref a, u => u = Value.ref a
  | .ty n, u => u = Value.type n
abbrev Vals : List V → List Value → Prop := Paired RelV
theorem Vals.length {xs : List V} {us : List Value} (r : Vals xs us) : xs.length = us.length := Paired.length r
theorem Vals.get : ∀ {xs : List V} {us : List Value} {i : Nat} {x : V}, Vals xs us → xs[i]? = some x → ∃ u, us[i]? = some u ∧ RelV x u
  | _, _, _, _, .nil, e => by simp at e
  | _, _, 0, _, .cons r _, e => by simp at e; subst e; exact ⟨_, rfl, r⟩
  | _, _, i + 1, x, .cons _ t, e => by
    obtain ⟨u, h1, h2⟩ := Vals.get (i := i) (x := x) t (by simpa using e)
    exact ⟨u, by simpa using h1, h2⟩
theorem Vals.set {x : V} {u : Value} (r : RelV x u) : ∀ {xs : List V} {us : List Value} (i : Nat), Vals xs us → Vals (xs.set i x) (us.set i u)
  | _, _, _, .nil => .nil
  | _, _, 0, .cons _ t => .cons r t
  | _, _, i + 1, .cons q t => .cons q (Vals.set r i t)
theorem Vals.append : ∀ {xs ys : List V} {us ws : List Value}, Vals xs us → Vals ys ws → Vals (xs ++ ys) (us ++ ws)
  | _, _, _, _, .nil, s => s
  | _, _, _, _, .cons r t, s => .cons r (Vals.append t s)
theorem Vals.take : ∀ {xs : List V} {us : List Value} (n : Nat), Vals xs us → Vals (xs.take n) (us.take n)
  | _, _, 0, _ => .nil
  | _, _, _ + 1, .nil => .nil
  | _, _, n + 1, .cons r t => .cons r (Vals.take n t)
theorem Vals.drop : ∀ {xs : List V} {us : List Value} (n : Nat), Vals xs us → Vals (xs.drop n) (us.drop n)
  | _, _, 0, r => r
  | _, _, _ + 1, .nil => .nil
  | _, _, n + 1, .cons _ t => Vals.drop n t
def RelO : Option V → Option Value → Prop
  | some v, some u => RelV v u
  | none, none => True
  | _, _ => False
def KV {κ : Type} : List (κ × V) → List (κ × Value) → Prop := Paired fun (p : κ × V) (q : κ × Value) => p.1 = q.1 ∧ RelV p.2 q.2
def kV : Key → V
  | .inl i => .int i
  | .inr x => .str x
inductive HO where
    | lst (xs : List V)
    | tup (xs : List V)
    | dK (kvs : List (Key × V)) | dT (kvs : List (List Key × V))
    | set (S : Int → Bool) (n : Nat)
    | ins (C dx : Addr) (fs : List (Str × V))
    | own (x : Addr)
    | xd (fs : List (Str × V))
    | met (f x : Addr)
    | rng (lo hi : Int)
    | frz (o : Obj) (u : HO)
    | tbl (ps : Array Value)
    | ext (φ : Heap → Prop)
abbrev Hp := Addr → Option HO
def upd (H : Hp) (a : Addr) (o : HO) : Hp := fun b => if b = a then some o else H b
theorem upd_same {H : Hp} {a : Addr} {o : HO} : upd H a o a = some o := by unfold upd; rw [if_pos rfl]
theorem upd_ne {H : Hp} {a b : Addr} {o : HO} (h : b ≠ a) : upd H a o b = H b := by unfold upd; rw [if_neg h]
theorem ne_of {H : Hp} {a b : Addr} {o u : HO} (h : H a = some o) (h' : H b = some u) (d : o ≠ u) : a ≠ b := by
  intro e; subst e; rw [h] at h'; exact d (Option.some.inj h')
theorem ne_of_none {H : Hp} {a b : Addr} {o : HO} (h : H a = some o) (h' : H b = none) : a ≠ b := by
  intro e; subst e; rw [h] at h'; cases h'
section
variable (P : Program) (w : World)
def ObjOk (H : Hp) (h : Heap) (a : Addr) : HO → Prop
  | .lst xs => xs.length ≤ sizeLine ∧ ∃ (its : List Value) (n : Nat), Vals xs its ∧ h.get? a = some { cls := .type "list", data := .seq its.toArray n }
  | .tup xs => xs.length ≤ sizeLine ∧ ∃ its : List Value, Vals xs its ∧ IsTup h a its.toArray
  | .dK kvs => kvs.length ≤ sizeLine ∧ (a == sysModules) = false ∧ ∃ vs, KV kvs vs ∧ h.DictOf (mixKind P w) a vs
  | .dT kvs => kvs.length ≤ sizeLine ∧ (a == sysModules) = false ∧ ∃ xs : List (List Key × Addr × Value),
      Paired (fun (p : List Key × V) (q : List Key × Addr × Value) => p.1 = q.1 ∧ H q.2.1 = some (.tup (p.1.map kV)) ∧ RelV p.2 q.2.2) kvs xs ∧
      ∃ o es ep, h.get? a = some o ∧ o.ExactDict ∧ o.data = .dict es ep ∧ es.toList = xs.map (entryOfKey (tupleKind (mixKind P w))) ∧ (xs.map (·.1)).Nodup
  | .set S n => h.SetOf (intKind P w) a S n
  | .ins C dx fs => H dx = some (.own a) ∧ fs.length ≤ 1000 ∧ dx ≠ a ∧ h.get? a = some (PySem.W.instObj C dx) ∧
      ∃ mA, h.Ns1 dx mA ∧ (∀ f, RelO (fs.lookup f) (mA f)) ∧ PySem.Within mA (fs.map (·.1))
  | .own _ => ∃ o, h.get? a = some o
  | .xd fs => ∃ mA, h.Ns1 a mA ∧ ∀ f, RelO (fs.lookup f) (mA f)
  | .rng lo hi => ∃ t u v, h.get? a = some { cls := .type "range", data := .fields #[.int lo t, .int hi u, .int 1 v] }
  | .frz o u => h.get? a = some o ∧ ObjOk H h a u
  | .tbl ps => h.get? a = some { cls := .none, data := .fields ps }
  | .met f x => h.get? a = some (PySem.W.methodObj (.ref f) (.ref x))
  | .ext φ => φ h ∧ (∃ o, h.get? a = some o) ∧ ∀ h1 h2 : Heap, φ h1 → (∀ o, h1.get? a = some o → h2.get? a = some o) → φ h2
def HOk (H : Hp) (h : Heap) : Prop := ∀ a o, H a = some o → ObjOk P w H h a o
end
section
variable {P : Program} {w : World} {H H' : Hp} {h h' : Heap} {a : Addr} {o : HO}
theorem ObjOk.lt (x : ObjOk P w H h a o) : a < h.objs.size := by
  cases o with
  | lst xs => obtain ⟨_, _, _, _, e⟩ := x; exact Heap.lt_size e
  | tup xs => obtain ⟨_, _, _, p⟩ := x; exact p.lt
  | dK kvs => obtain ⟨_, _, _, _, o, _, _, e, _⟩ := x; exact Heap.lt_size e
  | dT kvs => obtain ⟨_, _, _, _, o, _, _, e, _⟩ := x; exact Heap.lt_size e
  | set S n => obtain ⟨o, _, _, _, e, _⟩ := x; exact Heap.lt_size e
  | ins C dx fs => obtain ⟨_, _, _, e, _⟩ := x; exact Heap.lt_size e
  | own y => obtain ⟨_, e⟩ := x; exact Heap.lt_size e
  | xd fs => obtain ⟨_, ⟨_, _, _, e, _⟩, _⟩ := x; exact Heap.lt_size e
  | rng lo hi => obtain ⟨_, _, _, e⟩ := x; exact Heap.lt_size e
  | frz ob u => obtain ⟨e, _⟩ := x; exact Heap.lt_size e
  | tbl ps => exact Heap.lt_size (show h.get? a = some _ from x)
  | met f y => exact Heap.lt_size (show h.get? a = some _ from x)
  | ext φ => obtain ⟨_, ⟨_, e⟩, _⟩ := x; exact Heap.lt_size e
theorem Paired.mapP {α β : Type} {F G : α → β → Prop} : ∀ {l₁ : List α} {l₂ : List β}, Paired F l₁ l₂ → (∀ a b, F a b → G a b) → Paired G l₁ l₂
  | _, _, .nil, _ => .nil
  | _, _, .cons r t, f => .cons (f _ _ r) (Paired.mapP t f)
theorem ObjOk.stay (x : ObjOk P w H h a o) (k : ∀ b u, (b = a ∨ H b = some (.own a)) → h.get? b = some u → h'.get? b = some u)
    (ho : ∀ b, H b = some (.own a) → H' b = some (.own a)) (ht : ∀ b xs, H b = some (.tup xs) → H' b = some (.tup xs)) : ObjOk P w H' h' a o := by
  induction o with
  | lst xs => obtain ⟨z, its, n, r, e⟩ := x; exact ⟨z, its, n, r, k _ _ (.inl rfl) e⟩
  | tup xs => obtain ⟨z, its, r, ob, e, c⟩ := x; exact ⟨z, its, r, ob, k _ _ (.inl rfl) e, c⟩
  | dK kvs => obtain ⟨z, y, vs, r, ob, es, ep, e, c⟩ := x; exact ⟨z, y, vs, r, ob, es, ep, k _ _ (.inl rfl) e, c⟩
  | dT kvs =>
    obtain ⟨z, y, xs, r, ob, es, ep, e, c⟩ := x
    exact ⟨z, y, xs, Paired.mapP r fun p q z => ⟨z.1, ht _ _ z.2.1, z.2.2⟩, ob, es, ep, k _ _ (.inl rfl) e, c⟩
  | set S n => obtain ⟨ob, es, ep, t, e, c⟩ := x; exact ⟨ob, es, ep, t, k _ _ (.inl rfl) e, c⟩
  | ins C dx fs =>
    obtain ⟨d, z, ne, e, mA, ⟨od, es, ep, e2, c⟩, r⟩ := x
    exact ⟨ho _ d, z, ne, k _ _ (.inl rfl) e, mA, ⟨od, es, ep, k _ _ (.inr d) e2, c⟩, r⟩
  | own y => obtain ⟨ob, e⟩ := x; exact ⟨ob, k _ _ (.inl rfl) e⟩
  | xd fs => obtain ⟨mA, ⟨od, es, ep, e, c⟩, r⟩ := x; exact ⟨mA, ⟨od, es, ep, k _ _ (.inl rfl) e, c⟩, r⟩
  | rng lo hi => obtain ⟨t, u, v, e⟩ := x; exact ⟨t, u, v, k _ _ (.inl rfl) e⟩
  | frz ob u ih => obtain ⟨e, q⟩ := x; exact ⟨k _ _ (.inl rfl) e, ih q⟩
  | tbl ps =>
    have e : h.get? a = some { cls := .none, data := .fields ps } := x
    show h'.get? a = some { cls := .none, data := .fields ps }
    exact k a _ (.inl rfl) e
  | met f y =>
    have e : h.get? a = some (PySem.W.methodObj (.ref f) (.ref y)) := x
    show h'.get? a = some (PySem.W.methodObj (.ref f) (.ref y))
    exact k a _ (.inl rfl) e
  | ext φ => obtain ⟨p, ⟨o, e⟩, st⟩ := x; exact ⟨st _ _ p fun o q => k _ _ (.inl rfl) q, ⟨o, k _ _ (.inl rfl) e⟩, st⟩
theorem HOk.lt (x : HOk P w H h) (e : H a = some o) : a < h.objs.size := (x a o e).lt
theorem HOk.fresh (x : HOk P w H h) (e : h.objs.size ≤ a) : H a = none := by
  cases q : H a with
  | none => rfl
  | some u => exact absurd (Nat.lt_of_lt_of_le (x.lt q) e) (Nat.lt_irrefl _)
theorem HOk.kept (x : HOk P w H h) (k : ∀ b u, h.get? b = some u → h'.get? b = some u) : HOk P w H h' := fun a o e =>
  (x a o e).stay (fun b u _ q => k b u q) (fun _ q => q) fun _ _ q => q
theorem HOk.laid (x : HOk P w H h) (k : ∀ b u, h.get? b = some u → h'.get? b = some u) (hp : h.objs.size ≤ a) (new : ObjOk P w (upd H a o) h' a o) : HOk P w (upd H a o) h' := fun b u e => by
  have hn := x.fresh hp
  by_cases hb : b = a
  · subst hb; rw [upd_same] at e; cases e; exact new
  · rw [upd_ne hb] at e
    exact (x b u e).stay (fun c v _ q => k c v q) (fun c q => by rw [upd_ne (ne_of_none q hn)]; exact q) fun c xs q => by rw [upd_ne (ne_of_none q hn)]; exact q
end
def Rd (H : Hp) (a : Addr) (u : HO) : Prop := H a = some u ∨ ∃ o, H a = some (.frz o u)
theorem Rd.of {H : Hp} {a : Addr} {u : HO} (h : H a = some u) : Rd H a u := .inl h
theorem Rd.ok {P : Program} {w : World} {H : Hp} {h : Heap} {a : Addr} {u : HO} (r : Rd H a u) (x : HOk P w H h) : ObjOk P w H h a u := by
  rcases r with r | ⟨o, r⟩
  · exact x a u r
  · obtain ⟨_, q⟩ := x a _ r
    exact q
def Mut : Option HO → Prop
  | some (.lst _) => True
  | some (.dK _) => True
  | some (.dT _) => True
  | some (.set _ _) => True
  | some (.ins _ _ _) => True
  | some (.ext _) => True
  | _ => False
section
variable {P : Program} {w : World} {H : Hp} {h h' : Heap} {x e : Addr} {o' : HO}
theorem HOk.write (ok : HOk P w H h) (mu : Mut (H x)) (he : e = x ∨ H e = some (.own x)) (k : ∀ b u, b ≠ e → h.get? b = some u → h'.get? b = some u) (heo : ∃ u, h'.get? e = some u)
    (new : ObjOk P w (upd H x o') h' x o') : HOk P w (upd H x o') h' := fun b u q => by
  have nown : ∀ c y, H c = some (.own y) → c ≠ x := fun c y r z => by subst z; rw [r] at mu; exact mu
  have ntup : ∀ c xs, H c = some (.tup xs) → c ≠ x := fun c xs r z => by subst z; rw [r] at mu; exact mu
  by_cases hb : b = x
  · subst hb; rw [upd_same] at q; cases q; exact new
  · rw [upd_ne hb] at q
    by_cases hbe : b = e
    · have q' : H b = some (.own x) := by
        rcases he with z | z
        · exact absurd (hbe.trans z) hb
        · rw [hbe]; exact z
      rw [q] at q'; cases q'
      obtain ⟨v, hv⟩ := heo
      exact ⟨v, by rw [hbe]; exact hv⟩
    · refine (ok b u q).stay (fun c v hc r => k c v ?_ r) (fun c r => by rw [upd_ne (nown c b r)]; exact r) fun c xs r => by rw [upd_ne (ntup c xs r)]; exact r
      rcases hc with rfl | hc
      · exact hbe
      · rintro rfl
        rcases he with z | z
        · exact nown c b hc z
        · rw [hc] at z; cases z; exact hb rfl
end
structure Un (fs ex : List Addr) (H H' : Hp) (h h' : Heap) : Prop where
  keep : ∀ b o, h.get? b = some o → H b = none → b ∉ fs → b ∉ ex → h'.get? b = some o
  slot : ∀ b o, h.get? b = some o → H b = none → b ∈ fs → b ∉ ex → ∃ sl, h'.get? b = some { o with slots := sl }
  free : ∀ b o, h.get? b = some o → H b = none → b ∉ ex → H' b = none
  there : ∀ b o, h.get? b = some o → b ∉ ex → ∃ o', h'.get? b = some o'
  tups : ∀ b xs, H b = some (.tup xs) → H' b = some (.tup xs)
  frzs : ∀ b o u, H b = some (.frz o u) → H' b = some (.frz o u)
  tbls : ∀ b ps, H b = some (.tbl ps) → ∃ more, H' b = some (.tbl (ps ++ more))
section
variable {fs fs' ex ex' : List Addr} {H H1 H2 : Hp} {h h1 h2 h' : Heap} {a x e : Addr} {o : HO}
theorem Un.any (u : Un fs ex H H1 h h1) {b : Addr} {ob : Obj} (q : h.get? b = some ob) (n : H b = none) (hx : b ∉ ex) : ∃ sl, h1.get? b = some { ob with slots := sl } := by
  by_cases hb : b ∈ fs
  · exact u.slot b ob q n hb hx
  · exact ⟨ob.slots, u.keep b ob q n hb hx⟩
theorem Un.trans (a : Un fs ex H H1 h h1) (b : Un fs ex H1 H2 h1 h2) : Un fs ex H H2 h h2 where
  keep := fun c ob q n hc hx => b.keep c ob (a.keep c ob q n hc hx) (a.free c ob q n hx) hc hx
  slot := fun c ob q n hc hx => by
    obtain ⟨sl, e1⟩ := a.slot c ob q n hc hx
    obtain ⟨sl', e2⟩ := b.slot c _ e1 (a.free c ob q n hx) hc hx
    exact ⟨sl', e2⟩
  free := fun c ob q n hx => by
    obtain ⟨o', e1⟩ := a.there c ob q hx
    exact b.free c o' e1 (a.free c ob q n hx) hx
  there := fun c ob q hx => by
    obtain ⟨o', e1⟩ := a.there c ob q hx
    exact b.there c o' e1 hx
  tups := fun c xs q => b.tups c xs (a.tups c xs q)
  frzs := fun c ob xs q => b.frzs c ob xs (a.frzs c ob xs q)
  tbls := fun c ps q => by
    obtain ⟨m1, e1⟩ := a.tbls c ps q
    obtain ⟨m2, e2⟩ := b.tbls c _ e1
    exact ⟨m1 ++ m2, by rw [e2, Array.append_assoc]⟩
theorem Un.kept (k : ∀ b u, h.get? b = some u → h'.get? b = some u) : Un fs ex H H h h' :=
  ⟨fun b ob q _ _ _ => k b ob q, fun b ob q _ _ _ => ⟨ob.slots, k b ob q⟩, fun _ _ _ n _ => n, fun b ob q _ => ⟨ob, k b ob q⟩, fun _ _ q => q, fun _ _ _ q => q, fun _ ps q => ⟨#[], by rw [q]; simp⟩⟩
theorem Un.refl : Un fs ex H H h h := Un.kept fun _ _ q => q
theorem Un.laid (k : ∀ b u, h.get? b = some u → h'.get? b = some u) (hp : h.objs.size ≤ a) (hn : H a = none) : Un fs ex H (upd H a o) h h' where
  keep := fun b u q _ _ _ => k b u q
  slot := fun b u q _ _ _ => ⟨u.slots, k b u q⟩
  free := fun b u q n _ => by rw [upd_ne (Nat.ne_of_lt (Nat.lt_of_lt_of_le (Heap.lt_size q) hp))]; exact n
  there := fun b u q _ => ⟨u, k b u q⟩
  tups := fun b xs q => by rw [upd_ne (ne_of_none q hn)]; exact q
  frzs := fun b u xs q => by rw [upd_ne (ne_of_none q hn)]; exact q
  tbls := fun b ps q => ⟨#[], by rw [upd_ne (ne_of_none q hn), q]; simp⟩
theorem Un.write (mu : Mut (H x)) (he : e = x ∨ H e = some (.own x)) (k : ∀ b u, b ≠ e → h.get? b = some u → h'.get? b = some u) (heo : ∃ u, h'.get? e = some u) : Un fs ex H (upd H x o) h h' := by
  have hx : ∀ b, H b = none → b ≠ x := fun b n z => by subst z; rw [n] at mu; exact mu
  have hb : ∀ b, H b = none → b ≠ e := fun b n z => by
    subst z
    rcases he with r | r
    · exact hx b n r
    · rw [n] at r; cases r
  have hm : ∀ b u, H b = some u → ¬ Mut (some u) → b ≠ x := fun b u q nm z => by subst z; rw [q] at mu; exact nm mu
  refine ⟨fun b u q n _ _ => k b u (hb b n) q, fun b u q n _ _ => ⟨u.slots, k b u (hb b n) q⟩, fun b u q n _ => by rw [upd_ne (hx b n)]; exact n, fun b u q _ => ?_,
    fun b xs q => by rw [upd_ne (hm b _ q fun z => z)]; exact q, fun b u xs q => by rw [upd_ne (hm b _ q fun z => z)]; exact q, fun b ps q => ⟨#[], by rw [upd_ne (hm b _ q fun z => z), q]; simp⟩⟩
  by_cases hbe : b = e
  · subst hbe; exact heo
  · exact ⟨u, k b u hbe q⟩
theorem Un.mono (u : Un fs ex H H1 h h1) (hs : ∀ b ∈ fs, b ∈ fs') (hx : ∀ b ∈ ex, b ∈ ex') : Un fs' ex' H H1 h h1 :=
  ⟨fun b ob q n hb he => u.keep b ob q n (fun z => hb (hs b z)) fun z => he (hx b z), fun _ _ q n _ he => u.any q n fun z => he (hx _ z), fun b ob q n he => u.free b ob q n fun z => he (hx b z), fun b ob q he => u.there b ob q fun z => he (hx b z), u.tups, u.frzs, u.tbls⟩
end
def trk (h : Heap) (H : Hp) : List Addr := (List.range h.objs.size).filter fun a => (H a).isSome
def hidT (h : Heap) (H : Hp) : Heap := PySem.W.hideAll h (trk h H)
theorem hidT_size (h : Heap) (H : Hp) : (hidT h H).objs.size = h.objs.size := PySem.W.hideAll_size _ _
theorem hidT_get {h : Heap} {H : Hp} {b : Addr} {o : Obj} (e : h.get? b = some o) (n : H b = none) : (hidT h H).get? b = some o :=
  PySem.W.hideAll_get _ e fun hm => by
    have q : (H b).isSome = true := (List.mem_filter.mp hm).2
    rw [n] at q; simp at q
theorem of_hidT {h : Heap} {H : Hp} {b : Addr} {o : Obj} (e : (hidT h H).get? b = some o) : h.get? b = some o ∧ H b = none := by
  have e' : h.get? b = some o := PySem.W.of_hideAll (trk h H) e
  refine ⟨e', ?_⟩
  cases q : H b with
  | none => rfl
  | some x =>
    have hm : b ∈ trk h H := List.mem_filter.mpr ⟨List.mem_range.mpr (Heap.lt_size e'), by simp [q]⟩
    have z : (hidT h H).get? b = none := PySem.W.hideAll_none (trk h H) hm
    rw [z] at e; cases e
def allNews (g h : Heap) (L : Addr) : List (Addr × Obj) := (List.range h.objs.size).filterMap fun a => if a = L ∨ (g.get? a).isSome = true then none else (h.get? a).map fun o => (a, o)
def rest (g h : Heap) (L d : Addr) : List (Addr × Obj) := (allNews g h L).filter fun p => decide (p.1 ≠ d)
end L2
namespace L2
open PySem PySem.Spec PyProof.Rows
structure Mod (K : PySem.W.Frag) (mg : Str → Option Value) (base : Heap) : Prop where
  kin : K.In base
  glob : base.Ns mainGlobals mg
  blt : ∃ mb, base.Ns builtinsNs mb ∧ ∀ x : Str, x ≠ "__name__" → mb x = bootBuiltins x
  nolimit : base.NoLimit
structure Cx where
  prog : Program
  w : World
  K : PySem.W.Frag
  mg : Str → Option Value
  base : Heap
  A : Around
  N : List Str
  s_0 : Shared
  H_0 : Hp
  env : Env
  outer : List Env
  stack : List Env
  ex : List Addr
  fn : Str → Bool
  calm : Bool
  pn : List (Addr × Obj)
  xe : Value → Shared → Prop
def frs (l : List Env) : List Addr := l.filterMap (·.frame)
abbrev Cx.fs (X : Cx) : List Addr := frs X.outer
def Vis (sc : Scope) (x : Str) : Prop := sc.names.lookup x = some .local ∨ sc.names.lookup x = some .cell ∨ sc.names.lookup x = some .free
def Loc (sc : Scope) (x : Str) : Prop := sc.names.lookup x = some .local ∨ sc.names.lookup x = some .cell
def Look (env : Env) (h : Heap) (m : Str → Option Value) (x : Str) (u : Value) : Prop :=
  (env.kindOf x = some .local ∧ m x = some u) ∨ ((env.kindOf x = some .cell ∨ env.kindOf x = some .free) ∧ ∃ c, env.cells.lookup x = some c ∧ h.IsCell c (some u))
structure Cx.Ok (X : Cx) : Prop where
  mod : Mod X.K X.mg X.base
  kind : X.env.scope.kind = .function
  glob : X.env.globals = mainGlobals
  blt : X.env.builtins = builtinsNs
  above : X.s_0.heap.objs.size ≤ X.env.locals
  inj : ∀ x y c, X.env.cells.lookup x = some c → X.env.cells.lookup y = some c → x = y
  has : ∀ x, (X.env.kindOf x = some .cell ∨ X.env.kindOf x = some .free) → ∃ c, X.env.cells.lookup x = some c
  cab : ∀ x c, X.fn x = true → X.env.cells.lookup x = some c → X.s_0.heap.objs.size ≤ c
  hd : X.calm = true → X.A.handled = none
  frames : X.A.frames = some X.stack
  stk : X.stack = X.outer ∨ (X.stack = X.env :: X.outer ∧ X.env.frame = some X.env.locals)
  exf : ∀ b ∈ X.ex, b ≠ X.env.locals ∧ ∀ x c, X.env.cells.lookup x = some c → c ≠ b
  bs : ∀ b o, X.base.get? b = some o → X.s_0.heap.get? b = some o ∧ X.H_0 b = none
  bsz : X.base.objs.size ≤ X.s_0.heap.objs.size
  noex : ∀ b o, X.base.get? b = some o → b ∉ X.ex
  exfs : ∀ b ∈ X.ex, b ∉ X.fs
  funs : X.s_0.heap.FunFrames X.base X.outer
  frf : ∀ b ∈ X.fs, X.H_0 b = none
structure Inv (X : Cx) (pins : List (Addr × Obj)) (σ : List (Option V)) (H : Hp) (s : Shared) : Prop where
  ok : X.Ok
  os : s.os = X.s_0.os
  bare : AllBare s.gens
  base : Un X.fs X.ex X.H_0 H X.s_0.heap s.heap
  loc : ∃ m, s.heap.Ns X.env.locals m ∧ ∀ (i : Nat) (x : Str) (v : V), X.N[i]? = some x → σ[i]? = some (some v) → Vis X.env.scope x → ∃ u, RelV v u ∧ Look X.env s.heap m x u
  cell : ∀ x c, X.env.cells.lookup x = some c → ∃ v, s.heap.IsCell c v
  free : H X.env.locals = none
  freeC : ∀ x c, X.env.cells.lookup x = some c → H c = none
  pin : ∀ p ∈ X.pn ++ pins, s.heap.get? p.1 = some p.2 ∧ H p.1 = none ∧ p.1 ≠ X.env.locals ∧ p.1 ∉ X.fs ∧ ∀ v, p.2.data ≠ .cell v
  hok : HOk X.prog X.w H s.heap
  len : σ.length = X.N.length
section
variable {X : Cx} {pins : List (Addr × Obj)} {σ : List (Option V)} {H H' : Hp} {s : Shared} {h' : Heap}
theorem Cx.Ok.nofr (ok : X.Ok) {b : Addr} {o : Obj} (e : X.base.get? b = some o) : b ∉ X.fs := fun hb => by
  have := (ok.funs.mem hb).1
  rw [e] at this; cases this
theorem Inv.bs (I : Inv X pins σ H s) : ∀ b o, X.base.get? b = some o → s.heap.get? b = some o ∧ H b = none := fun b o e =>
  ⟨I.base.keep b o (I.ok.bs b o e).1 (I.ok.bs b o e).2 (I.ok.nofr e) (I.ok.noex b o e), I.base.free b o (I.ok.bs b o e).1 (I.ok.bs b o e).2 (I.ok.noex b o e)⟩
theorem Inv.bk (I : Inv X pins σ H s) : ∀ b o, X.base.get? b = some o → s.heap.get? b = some o := fun b o e => (I.bs b o e).1
theorem Inv.mod (I : Inv X pins σ H s) : Mod X.K X.mg X.base := I.ok.mod
theorem Inv.kIn (I : Inv X pins σ H s) : X.K.In s.heap := I.ok.mod.kin.keeps I.bk
theorem Inv.nolimit (I : Inv X pins σ H s) : s.heap.NoLimit := I.ok.mod.nolimit.keeps I.bk
theorem Inv.lt (I : Inv X pins σ H s) : X.env.locals < s.heap.objs.size := let ⟨_, hn, _⟩ := I.loc; hn.lt
theorem Inv.sz (I : Inv X pins σ H s) : X.s_0.heap.objs.size ≤ s.heap.objs.size := Nat.le_trans I.ok.above (Nat.le_of_lt I.lt)
theorem Inv.nofs (I : Inv X pins σ H s) {a : Addr} (h : s.heap.objs.size ≤ a) : a ∉ X.fs := fun hb => by
  obtain ⟨_, o, ho, _⟩ := I.ok.funs.mem hb
  exact absurd (Nat.lt_of_lt_of_le (Heap.lt_size ho) (Nat.le_trans I.sz h)) (Nat.lt_irrefl _)
theorem Inv.cne (I : Inv X pins σ H s) : ∀ x c, X.env.cells.lookup x = some c → c ≠ X.env.locals := fun x c e z => by
  obtain ⟨v, o, ho, hd⟩ := I.cell x c e
  obtain ⟨m, ⟨o', es, ep, ho', hd', _⟩, _⟩ := I.loc
  rw [z, ho'] at ho; cases ho; rw [hd'] at hd; cases hd
theorem Inv.funs (I : Inv X pins σ H s) : s.heap.FunFrames X.base X.outer := by
  have all : ∀ (l : List Env), (∀ b ∈ frs l, b ∈ X.fs) → X.s_0.heap.FunFrames X.base l → s.heap.FunFrames X.base l := by
    intro l
    induction l with
    | nil => intro _ _; trivial
    | cons env r ih =>
      intro hs hl
      obtain ⟨hk, ⟨L, o, hf, hn, ho, hd⟩, hr⟩ := hl
      have hL : L ∈ X.fs := hs L (by unfold frs; rw [List.filterMap_cons, hf]; exact List.mem_cons_self)
      obtain ⟨sl, e⟩ := I.base.slot L o ho (I.ok.frf L hL) hL fun z => I.ok.exfs L z hL
      exact ⟨hk, ⟨L, _, hf, hn, e, hd⟩, ih (fun b hb => hs b (by unfold frs; rw [List.filterMap_cons, hf]; exact List.mem_cons_of_mem _ hb)) hr⟩
  exact all X.outer (fun _ hb => hb) I.ok.funs
theorem Inv.stack (I : Inv X pins σ H s) : s.heap.FunFrames X.base X.stack := by
  rcases I.ok.stk with e | ⟨e, hf⟩
  · rw [e]; exact I.funs
  · rw [e]
    obtain ⟨m, hn, _⟩ := I.loc
    refine .cons (by rw [I.ok.kind]; decide) hf hn ?_ I.funs
    exact Heap.get?_none_of_le (Nat.le_trans I.ok.bsz I.ok.above)
theorem Inv.stkSub (I : Inv X pins σ H s) : ∀ b ∈ frs X.stack, b ∈ X.env.locals :: X.fs := fun b hb => by
  rcases I.ok.stk with e | ⟨e, hf⟩
  · rw [e] at hb; exact List.mem_cons_of_mem _ hb
  · rw [e] at hb
    unfold frs at hb
    rw [List.filterMap_cons, hf] at hb
    exact hb
theorem Inv.stkFree (I : Inv X pins σ H s) : ∀ b ∈ frs X.stack, H b = none := fun b hb => by
  rcases List.mem_cons.mp (I.stkSub b hb) with e | hb
  · rw [e]; exact I.free
  · obtain ⟨_, o, ho, _⟩ := I.ok.funs.mem hb
    exact I.base.free b o ho (I.ok.frf b hb) fun z => I.ok.exfs b z hb
theorem Inv.step {g' : Array GenState} {t' : Nat} {d' : Drawn} {ch : List Addr} (I : Inv X pins σ H s)
    (hch : ∀ b ∈ ch, (b ∈ X.ex ∨ X.s_0.heap.objs.size ≤ b) ∧ b ≠ X.env.locals ∧ (∀ x c, X.env.cells.lookup x = some c → c ≠ b) ∧ ∀ p ∈ X.pn ++ pins, p.1 ≠ b)
    (keep : ∀ b o, b ≠ X.env.locals → b ∉ X.fs → b ∉ ch → s.heap.get? b = some o → H b = none → h'.get? b = some o)
    (slot : ∀ b o, b ≠ X.env.locals → b ∈ X.fs → b ∉ ch → s.heap.get? b = some o → H b = none → ∃ sl, h'.get? b = some { o with slots := sl }) (free : ∀ b o, b ∉ ch → s.heap.get? b = some o → H b = none → H' b = none)
    (there : ∀ b o, b ∉ ch → s.heap.get? b = some o → ∃ o', h'.get? b = some o')
    (tups : ∀ b xs, H b = some (.tup xs) → H' b = some (.tup xs)) (frzs : ∀ b o u, H b = some (.frz o u) → H' b = some (.frz o u)) (tbls : ∀ b ps, H b = some (.tbl ps) → ∃ more, H' b = some (.tbl (ps ++ more)))
    (ns : ∀ m, s.heap.Ns X.env.locals m → h'.Ns X.env.locals m) (hok : HOk X.prog X.w H' h') (hg : AllBare g') :
    Inv X pins σ H' { s with heap := h', gens := g', drawn := d', toks := t' } := by
  have neL : ∀ b o, X.s_0.heap.get? b = some o → b ≠ X.env.locals := fun b o e => Nat.ne_of_lt (Nat.lt_of_lt_of_le (Heap.lt_size e) I.ok.above)
  have neC : ∀ b o, X.s_0.heap.get? b = some o → b ∉ X.ex → b ∉ ch := fun b o e hx hb => by
    rcases (hch b hb).1 with z | z
    · exact hx z
    · exact absurd (Nat.lt_of_lt_of_le (Heap.lt_size e) z) (Nat.lt_irrefl _)
  have cellK : ∀ x c, X.env.cells.lookup x = some c → ∀ v, s.heap.IsCell c v → h'.IsCell c v := fun x c e v ⟨o, ho, hd⟩ => by
    have nch : c ∉ ch := fun z => (hch c z).2.2.1 x c e rfl
    by_cases hc : c ∈ X.fs
    · obtain ⟨sl, q⟩ := slot c o (I.cne x c e) hc nch ho (I.freeC x c e)
      exact ⟨_, q, hd⟩
    · exact ⟨o, keep c o (I.cne x c e) hc nch ho (I.freeC x c e), hd⟩
  refine ⟨I.ok, I.os, hg, ⟨fun b o e n hb hx => ?_, fun b o e n hb hx => ?_, fun b o e n hx => ?_, fun b o e hx => ?_, fun b xs e => tups b xs (I.base.tups b xs e), fun b o xs e => frzs b o xs (I.base.frzs b o xs e), fun b ps e => ?_⟩, ?_, fun x c e => ?_, ?_, fun x c e => ?_, fun p hp => ?_, hok, I.len⟩
  · exact keep b o (neL b o e) hb (neC b o e hx) (I.base.keep b o e n hb hx) (I.base.free b o e n hx)
  · obtain ⟨sl, e1⟩ := I.base.slot b o e n hb hx
    obtain ⟨sl', e2⟩ := slot b _ (neL b o e) hb (neC b o e hx) e1 (I.base.free b o e n hx)
    exact ⟨sl', e2⟩
  · obtain ⟨o', e1⟩ := I.base.there b o e hx
    exact free b o' (neC b o e hx) e1 (I.base.free b o e n hx)
  · obtain ⟨o', e1⟩ := I.base.there b o e hx
    exact there b o' (neC b o e hx) e1
  · obtain ⟨m1, e1⟩ := I.base.tbls b ps e
    obtain ⟨m2, e2⟩ := tbls b _ e1
    exact ⟨m1 ++ m2, by rw [e2, Array.append_assoc]⟩
  · obtain ⟨m, hn, hl⟩ := I.loc
    refine ⟨m, ns m hn, fun i x v e1 e2 e3 => ?_⟩
    obtain ⟨u, r, l⟩ := hl i x v e1 e2 e3
    refine ⟨u, r, ?_⟩
    rcases l with l | ⟨k, c, e, z⟩
    · exact .inl l
    · exact .inr ⟨k, c, e, cellK x c e _ z⟩
  · obtain ⟨v, z⟩ := I.cell x c e
    exact ⟨v, cellK x c e v z⟩
  · obtain ⟨m, ⟨o, _, _, ho, _⟩, _⟩ := I.loc
    exact free _ o (fun z => (hch _ z).2.1 rfl) ho I.free
  · obtain ⟨v, o, ho, hd⟩ := I.cell x c e
    exact free c o (fun z => (hch c z).2.2.1 x c e rfl) ho (I.freeC x c e)
  · obtain ⟨e, n, ne, nf, d⟩ := I.pin p hp
    have nch : p.1 ∉ ch := fun z => (hch p.1 z).2.2.2 p hp rfl
    exact ⟨keep p.1 p.2 ne nf nch e n, free p.1 p.2 nch e n, ne, nf, d⟩
theorem Inv.un {t' : Nat} (I : Inv X pins σ H s) (u : Un X.fs [] H H' s.heap h') (hok : HOk X.prog X.w H' h') : Inv X pins σ H' { s with heap := h', toks := t' } := by
  obtain ⟨m, ⟨o, es, ep, ho, r⟩, _⟩ := id I.loc
  obtain ⟨sl, hL⟩ := u.any ho I.free (by simp)
  exact I.step (g' := s.gens) (d' := s.drawn) (ch := []) (fun _ z => nomatch z) (fun b o _ hb _ e n => u.keep b o e n hb (by simp)) (fun b o _ hb _ e n => u.slot b o e n hb (by simp)) (fun b o _ e n => u.free b o e n (by simp)) (fun b o _ e => u.there b o e (by simp)) u.tups u.frzs u.tbls (fun m' hm => by
    obtain ⟨o', es', ep', ho', r'⟩ := hm
    rw [ho] at ho'; cases ho'
    exact ⟨_, es', ep', hL, r'⟩) hok I.bare
theorem Inv.call {g' : Array GenState} {t' : Nat} {d' : Drawn} {ch : List Addr} (I : Inv X pins σ H s) (u : Un (frs X.stack) ch H H' s.heap h') (hok : HOk X.prog X.w H' h') (hg : AllBare g')
    (hch : ∀ b ∈ ch, (b ∈ X.ex ∨ X.s_0.heap.objs.size ≤ b) ∧ b ≠ X.env.locals ∧ (∀ x c, X.env.cells.lookup x = some c → c ≠ b) ∧ ∀ p ∈ X.pn ++ pins, p.1 ≠ b) :
    Inv X pins σ H' { s with heap := h', gens := g', drawn := d', toks := t' } := by
  obtain ⟨m, ⟨o, es, ep, ho, r⟩, _⟩ := id I.loc
  obtain ⟨sl, hL⟩ := u.any ho I.free fun z => (hch _ z).2.1 rfl
  exact I.step (ch := ch) hch (fun b o hL hb hc e n => u.keep b o e n (fun z => (List.mem_cons.mp (I.stkSub b z)).elim hL hb) hc) (fun b o _ _ hc e n => u.any e n hc) (fun b o hc e n => u.free b o e n hc) (fun b o hc e => u.there b o e hc) u.tups u.frzs u.tbls (fun m' hm => by
    obtain ⟨o', es', ep', ho', r'⟩ := hm
    rw [ho] at ho'; cases ho'
    exact ⟨_, es', ep', hL, r'⟩) hok hg
theorem Inv.turned {t' : Nat} {it : Addr} (I : Inv X pins σ H s) (k : ∀ b o, b ≠ it → s.heap.get? b = some o → h'.get? b = some o) (hn : H it = none) (hL : it ≠ X.env.locals)
    (h1 : it ∈ X.ex ∨ X.s_0.heap.objs.size ≤ it) (h2 : ∀ x c, X.env.cells.lookup x = some c → c ≠ it) (h3 : ∀ p ∈ X.pn ++ pins, p.1 ≠ it) : Inv X pins σ H { s with heap := h', toks := t' } := by
  have nit : ∀ b u, H b = some u → b ≠ it := fun b u e z => by rw [z, hn] at e; cases e
  refine I.step (g' := s.gens) (d' := s.drawn) (ch := [it]) (fun b hb => ?_) (fun b o _ _ hc e _ => k b o (fun z => hc (by simp [z])) e) (fun b o _ _ hc e _ => ⟨o.slots, k b o (fun z => hc (by simp [z])) e⟩) (fun _ _ _ _ n => n)
    (fun b o hc e => ⟨o, k b o (fun z => hc (by simp [z])) e⟩) (fun _ _ e => e) (fun _ _ _ e => e) (fun b ps e => ⟨#[], by rw [e]; simp⟩) (fun m hm => ?_) (fun b u e => ?_) I.bare
  · have e : b = it := by simpa using hb
    subst e
    exact ⟨h1, hL, h2, h3⟩
  · obtain ⟨o, es, ep, ho, r⟩ := hm
    exact ⟨o, es, ep, k _ o (Ne.symm hL) ho, r⟩
  · refine (I.hok b u e).stay (fun c v hc q => k c v ?_ q) (fun _ q => q) fun _ _ q => q
    rcases hc with z | z
    · rw [z]; exact nit b u e
    · exact nit c _ z
theorem Inv.tok (I : Inv X pins σ H s) (t : Nat) : Inv X pins σ H { s with toks := t } := I.un (h' := s.heap) (t' := t) Un.refl I.hok
theorem Inv.kept {t' : Nat} (I : Inv X pins σ H s) (k : ∀ b u, s.heap.get? b = some u → h'.get? b = some u) : Inv X pins σ H { s with heap := h', toks := t' } := I.un (Un.kept k) (I.hok.kept k)
theorem Inv.laid {a : Addr} {o : HO} {t' : Nat} (I : Inv X pins σ H s) (k : ∀ b u, s.heap.get? b = some u → h'.get? b = some u) (hp : s.heap.objs.size ≤ a) (new : ObjOk X.prog X.w (upd H a o) h' a o) :
    Inv X pins σ (upd H a o) { s with heap := h', toks := t' } := I.un (Un.laid k hp (I.hok.fresh hp)) (I.hok.laid k hp new)
theorem Inv.write {x e : Addr} {o : HO} {t' : Nat} (I : Inv X pins σ H s) (mu : Mut (H x)) (he : e = x ∨ H e = some (.own x)) (k : ∀ b u, b ≠ e → s.heap.get? b = some u → h'.get? b = some u) (heo : ∃ u, h'.get? e = some u)
    (new : ObjOk X.prog X.w (upd H x o) h' x o) : Inv X pins σ (upd H x o) { s with heap := h', toks := t' } := I.un (Un.write mu he k heo) (I.hok.write mu he k heo new)
theorem Inv.weak {σ' : List (Option V)} (I : Inv X pins σ H s) (hl : σ'.length = σ.length) (w : ∀ (i : Nat) v, σ'[i]? = some (some v) → σ[i]? = some (some v)) : Inv X pins σ' H s :=
  ⟨I.ok, I.os, I.bare, I.base, let ⟨m, hn, hl'⟩ := I.loc; ⟨m, hn, fun i x v e1 e2 e3 => hl' i x v e1 (w i v e2) e3⟩, I.cell, I.free, I.freeC, I.pin, I.hok, hl.trans I.len⟩
theorem Inv.pins_of {pins' : List (Addr × Obj)} (I : Inv X pins σ H s) (h : ∀ p ∈ pins', s.heap.get? p.1 = some p.2 ∧ H p.1 = none ∧ p.1 ≠ X.env.locals ∧ p.1 ∉ X.fs ∧ ∀ v, p.2.data ≠ .cell v) : Inv X pins' σ H s :=
  ⟨I.ok, I.os, I.bare, I.base, I.loc, I.cell, I.free, I.freeC, fun p hp => (List.mem_append.mp hp).elim (fun z => I.pin p (List.mem_append_left _ z)) (h p), I.hok, I.len⟩
theorem nodup_ix {N : List Str} (hN : N.Nodup) {i j : Nat} {x : Str} (a : N[i]? = some x) (b : N[j]? = some x) : i = j := by
  obtain ⟨h1, e1⟩ := List.getElem?_eq_some_iff.mp a
  obtain ⟨h2, e2⟩ := List.getElem?_eq_some_iff.mp b
  exact (List.getElem_inj hN).mp (e1.trans e2.symm)
theorem store_ok2 {M : Model} {A : Around} {E : Value → Shared → Prop} {i : Nat} {x : Str} {v : V} {u : Value} {Q : Unit → Shared → Prop} (I : Inv X pins σ H s) (hN : X.N.Nodup) (hi : X.N[i]? = some x) (hx : Loc X.env.scope x) (r : RelV v u)
    (h : ∀ s', Inv X pins (σ.set i (some v)) H s' → (∃ a, Heap.SameBut a s.heap s'.heap ∧ (a = X.env.locals ∨ X.env.cells.lookup x = some a)) → Q () s') (hf : X.fn x = true ∨ X.env.scope.names.lookup x = some .local := by first | exact .inl rfl | exact .inr rfl | assumption) : wpAny M A (storeName X.env x u) Q E s := by
  obtain ⟨m, hn, hl⟩ := id I.loc
  have hcls : (X.env.scope.kind == .class || (X.env.scope.kind == .module && X.env.locals != X.env.globals)) = false := by rw [I.ok.kind]; rfl
  have hiσ : i < σ.length := by rw [I.len]; exact (List.getElem?_eq_some_iff.mp hi).1
  have cne := I.cne
  have tracked : ∀ {a : Addr} {h' : Heap}, (∃ o, s.heap.get? a = some o ∧ H a = none) → Heap.SameBut a s.heap h' → HOk X.prog X.w H h' := fun {a h'} ha hs b ob e => by
    obtain ⟨_, _, hfree⟩ := ha
    refine (I.hok b ob e).stay (fun c w' hc q => (hs.2 c ?_).trans q) (fun _ q => q) fun _ _ q => q
    rintro rfl
    rcases hc with rfl | hc
    · rw [hfree] at e; cases e
    · rw [hfree] at hc; cases hc
  rcases hx with hk | hk
  · refine wpAny_storeName_local hk hn (fun h' hn' hs => ?_) hcls
    obtain ⟨oL, _, _, hoL, _⟩ := id hn
    refine h _ ⟨I.ok, I.os, I.bare, ⟨fun b o e n hb hx => ?_, fun b o e n hb hx => ?_, I.base.free, fun b o e hx => ?_, I.base.tups, I.base.frzs, I.base.tbls⟩, ⟨_, hn', fun j y v' e1 e2 e3 => ?_⟩, fun y c e => ?_, I.free, I.freeC, fun p hp => ?_, tracked ⟨oL, hoL, I.free⟩ hs, by simpa using I.len⟩ ⟨_, hs, .inl rfl⟩
    · exact (hs.2 b (Nat.ne_of_lt (Nat.lt_of_lt_of_le (Heap.lt_size e) I.ok.above))).trans (I.base.keep b o e n hb hx)
    · obtain ⟨sl, e1⟩ := I.base.slot b o e n hb hx
      exact ⟨sl, (hs.2 b (Nat.ne_of_lt (Nat.lt_of_lt_of_le (Heap.lt_size e) I.ok.above))).trans e1⟩
    · obtain ⟨o', e1⟩ := I.base.there b o e hx
      exact ⟨o', (hs.2 b (Nat.ne_of_lt (Nat.lt_of_lt_of_le (Heap.lt_size e) I.ok.above))).trans e1⟩
    · by_cases hj : j = i
      · subst hj
        rw [hi] at e1; cases e1
        rw [List.getElem?_set_self hiσ] at e2
        cases e2
        exact ⟨u, r, .inl ⟨hk, by simp⟩⟩
      · rw [List.getElem?_set_ne (Ne.symm hj)] at e2
        obtain ⟨u', r', q⟩ := hl j y v' e1 e2 e3
        refine ⟨u', r', ?_⟩
        rcases q with ⟨k, e⟩ | ⟨k, c, e, z⟩
        · refine .inl ⟨k, ?_⟩
          have : y ≠ x := fun e => hj (nodup_ix hN e1 (e ▸ hi))
          simp [this, e]
        · exact .inr ⟨k, c, e, z.sameBut hs (cne y c e)⟩
    · obtain ⟨w', z⟩ := I.cell y c e
      exact ⟨w', z.sameBut hs (cne y c e)⟩
    · obtain ⟨e, n, ne, nf, d⟩ := I.pin p hp
      exact ⟨(hs.2 p.1 ne).trans e, n, ne, nf, d⟩
  · have hfn : X.fn x = true := by
      rcases hf with z | z
      · exact z
      · rw [z] at hk; cases hk
    obtain ⟨c, hc⟩ := I.ok.has x (.inl hk)
    obtain ⟨w', z⟩ := I.cell x c hc
    refine wpAny_storeName_cell I.ok.kind hk hc z (fun h' hc' hs => ?_)
    obtain ⟨oc, hoc, hocd⟩ := id z
    refine h { s with heap := h' } ⟨I.ok, I.os, I.bare, ⟨fun b o e n hb hx => ?_, fun b o e n hb hx => ?_, I.base.free, fun b o e hx => ?_, I.base.tups, I.base.frzs, I.base.tbls⟩, ⟨m, hn.sameBut hs (Ne.symm (cne x c hc)), fun j y v' e1 e2 e3 => ?_⟩, fun y c' e => ?_, I.free, I.freeC, fun p hp => ?_, tracked ⟨oc, hoc, I.freeC x c hc⟩ hs, by simpa using I.len⟩ ⟨c, hs, .inr hc⟩
    · exact (hs.2 b (Nat.ne_of_lt (Nat.lt_of_lt_of_le (Heap.lt_size e) (I.ok.cab x c hfn hc)))).trans (I.base.keep b o e n hb hx)
    · obtain ⟨sl, e1⟩ := I.base.slot b o e n hb hx
      exact ⟨sl, (hs.2 b (Nat.ne_of_lt (Nat.lt_of_lt_of_le (Heap.lt_size e) (I.ok.cab x c hfn hc)))).trans e1⟩
    · obtain ⟨o', e1⟩ := I.base.there b o e hx
      exact ⟨o', (hs.2 b (Nat.ne_of_lt (Nat.lt_of_lt_of_le (Heap.lt_size e) (I.ok.cab x c hfn hc)))).trans e1⟩
    · by_cases hj : j = i
      · subst hj
        rw [hi] at e1; cases e1
        rw [List.getElem?_set_self hiσ] at e2
        cases e2
        exact ⟨u, r, .inr ⟨.inl hk, c, hc, hc'⟩⟩
      · rw [List.getElem?_set_ne (Ne.symm hj)] at e2
        obtain ⟨u', r', q⟩ := hl j y v' e1 e2 e3
        refine ⟨u', r', ?_⟩
        rcases q with q | ⟨k, c', e, z'⟩
        · exact .inl q
        · refine .inr ⟨k, c', e, z'.sameBut hs ?_⟩
          rintro rfl
          exact hj (nodup_ix hN e1 (I.ok.inj _ _ _ e hc ▸ hi))
    · by_cases hcc : c' = c
      · subst hcc; exact ⟨_, hc'⟩
      · obtain ⟨w2, z2⟩ := I.cell y c' e
        exact ⟨w2, z2.sameBut hs hcc⟩
    · obtain ⟨e, n, ne, nf, d⟩ := I.pin p hp
      refine ⟨(hs.2 p.1 ?_).trans e, n, ne, nf, d⟩
      intro q
      rw [q, hoc] at e
      have q' : oc = p.2 := Option.some.inj e
      exact d w' (by rw [← q']; exact hocd)
theorem store_ok {M : Model} {A : Around} {E : Value → Shared → Prop} {i : Nat} {x : Str} {v : V} {u : Value} {Q : Unit → Shared → Prop} (I : Inv X pins σ H s) (hN : X.N.Nodup) (hi : X.N[i]? = some x) (hx : Loc X.env.scope x) (r : RelV v u)
    (h : ∀ s', Inv X pins (σ.set i (some v)) H s' → Q () s') (hf : X.fn x = true ∨ X.env.scope.names.lookup x = some .local := by first | exact .inl rfl | exact .inr rfl | assumption) : wpAny M A (storeName X.env x u) Q E s :=
  store_ok2 I hN hi hx r (fun s' I' _ => h s' I') hf
theorem Inv.call' {s' : Shared} {ch : List Addr} (I : Inv X pins σ H s) (ho : s'.os = s.os) (u : Un (frs X.stack) ch H H' s.heap s'.heap) (hok : HOk X.prog X.w H' s'.heap) (hg : AllBare s'.gens)
    (hch : ∀ b ∈ ch, (b ∈ X.ex ∨ X.s_0.heap.objs.size ≤ b) ∧ b ≠ X.env.locals ∧ (∀ x c, X.env.cells.lookup x = some c → c ≠ b) ∧ ∀ p ∈ X.pn ++ pins, p.1 ≠ b) : Inv X pins σ H' s' := by
  obtain ⟨h', g', d', t', o'⟩ := s'
  have e : o' = s.os := ho
  subst e
  exact I.call (g' := g') (t' := t') (d' := d') u hok hg hch
end
abbrev XK := Value → Option Addr → Hp → Prop
abbrev St := List (Option V)
abbrev VK := V → Hp → Prop
abbrev TE := St → Hp → VK → Prop
abbrev TT := St → Hp → (Bool → Hp → Prop) → Prop
abbrev TA := St → Hp → (List V → Hp → Prop) → Prop
structure Ends where
  nx : St → Hp → Prop
  rt : VK
  bk : St → Hp → Prop := fun _ _ => False
  ct : St → Hp → Prop := fun _ _ => False
abbrev TS := Ends → St → Hp → Prop
def EP (X : Cx) (pins : List (Addr × Obj)) (σ : St) (Q : VK) (u : Value) (s' : Shared) : Prop := ∃ v H', Inv X pins σ H' s' ∧ RelV v u ∧ Q v H'
def TP (X : Cx) (pins : List (Addr × Obj)) (σ : St) (Q : Bool → Hp → Prop) (b : Bool) (s' : Shared) : Prop := ∃ H', Inv X pins σ H' s' ∧ Q b H'
def AP (X : Cx) (pins : List (Addr × Obj)) (σ : St) (Q : List V → Hp → Prop) (us : List Value) (s' : Shared) : Prop := ∃ vs H', Inv X pins σ H' s' ∧ Vals vs us ∧ Q vs H'
def SP (X : Cx) (pins : List (Addr × Obj)) (D : Ends) (f : Flow) (s' : Shared) : Prop :=
  match f with
  | .next => ∃ σ' H', Inv X pins σ' H' s' ∧ D.nx σ' H'
  | .brk => ∃ σ' H', Inv X pins σ' H' s' ∧ D.bk σ' H'
  | .cont => ∃ σ' H', Inv X pins σ' H' s' ∧ D.ct σ' H'
  | .ret u => ∃ v σ' H', Inv X pins σ' H' s' ∧ RelV v u ∧ D.rt v H'
def PE (X : Cx) (e : Expr) (t : TE) : Prop :=
  ∀ (pins : List (Addr × Obj)) (s : Shared) (σ : St) (H : Hp) (Q : VK), Inv X pins σ H s → t σ H Q → wpAny (model X.prog X.w) X.A (eval e X.env) (EP X pins σ Q) X.xe s
def PT (X : Cx) (e : Expr) (t : TT) : Prop :=
  ∀ (pins : List (Addr × Obj)) (s : Shared) (σ : St) (H : Hp) (Q : Bool → Hp → Prop), Inv X pins σ H s → t σ H Q → wpAny (model X.prog X.w) X.A (isTrue e X.env (eval e X.env)) (TP X pins σ Q) X.xe s
def PW (X : Cx) (e : Expr) (t : TT) : Prop :=
  ∀ (whole : Sem Value) (pins : List (Addr × Obj)) (s : Shared) (σ : St) (H : Hp) (Q : Bool → Hp → Prop), Inv X pins σ H s → t σ H Q → wpAny (model X.prog X.w) X.A (isTrue e X.env whole) (TP X pins σ Q) X.xe s
theorem PW.pt {X : Cx} {e : Expr} {t : TT} (h : PW X e t) : PT X e t := h _
def PA (X : Cx) (es : List Expr) (t : TA) : Prop :=
  ∀ (pos : Pos) (pins : List (Addr × Obj)) (s : Shared) (σ : St) (H : Hp) (Q : List V → Hp → Prop), Inv X pins σ H s → t σ H Q → wpAny (model X.prog X.w) X.A (spliced (backTo pos (starEach es X.env))) (AP X pins σ Q) X.xe s
def PS (X : Cx) (st : Stmt) (t : TS) : Prop :=
  ∀ (pins : List (Addr × Obj)) (s : Shared) (σ : St) (H : Hp) (D : Ends), Inv X pins σ H s → t D σ H → wpAny (model X.prog X.w) X.A (exec st X.env) (SP X pins D) X.xe s
def PSs (X : Cx) (st : List Stmt) (t : TS) : Prop :=
  ∀ (pins : List (Addr × Obj)) (s : Shared) (σ : St) (H : Hp) (D : Ends), Inv X pins σ H s → t D σ H → wpAny (model X.prog X.w) X.A (execs st X.env) (SP X pins D) X.xe s
theorem thn {α : Type} {t : Sem α} {Q Q' : α → Shared → Prop} {M : Model} {A : Around} {E : Value → Shared → Prop} {s : Shared} (h : wpAny M A t Q E s) (hQ : ∀ a s, Q a s → Q' a s) : wpAny M A t Q' E s := wpAny_mono h hQ fun _ _ x => x
end L2
namespace L2
open PySem PySem.Spec PyProof.Rows
section
variable {X : Cx}
def tVar (i : Nat) : TE := fun σ H Q => ∃ v, σ[i]? = some (some v) ∧ Q v H
def tC (v : V) : TE := fun _ H Q => Q v H
theorem pe_var {i : Nat} {x : Str} {pos : Pos} (hN : X.N[i]? = some x) (hv : Vis X.env.scope x) (hd : (x == ("__debug__" : Str)) = false := by decide) (hcd : (x == ("__classdict__" : Str)) = false := by decide) : PE X (.Name x pos) (tVar i) := by
  intro pins s σ H Q I h
  obtain ⟨v, e, h⟩ := h
  obtain ⟨m, hn, hl⟩ := I.loc
  obtain ⟨u, r, l⟩ := hl i x v hN e hv
  have fin : EP X pins σ Q u s := ⟨v, H, I, r, h⟩
  rcases l with ⟨hk, hm⟩ | ⟨hk, c, hc, hcell⟩
  · exact wpAny_Name (wpAny_loadName_local I.ok.kind hk hn hm fin) hd
  · rcases hk with hk | hk
    · exact wpAny_Name (wpAny_loadName_cell I.ok.kind hk hc hcell fin) hd
    · exact wpAny_Name (wpAny_loadName_free I.ok.kind hk hc hcell fin hcd) hd
theorem pe_int {i j pos} : PE X (.Constant (.int i) j pos) (tC (.int i)) := fun _ _ _ H _ I h => wpAny_Constant_int ⟨.int i, H, I.tok _, ⟨_, rfl⟩, h⟩
theorem pe_bl {b j pos} : PE X (.Constant (.bool b) j pos) (tC (.bl b)) := fun _ _ _ H _ I h => Constant_bool ⟨.bl b, H, I, rfl, h⟩
def Gl (X : Cx) (x : Str) : Prop := X.env.kindOf x = some .globalImplicit
theorem ld_glob {E : Value → Shared → Prop} {pins : List (Addr × Obj)} {s : Shared} {σ : St} {H : Hp} {x : Str} {u : Value} {pos : Pos} {Q : Value → Shared → Prop} (I : Inv X pins σ H s) (hg : Gl X x) (hm : X.mg x = some u) (h : Q u s)
    (hd : (x == ("__debug__" : Str)) = false := by decide) : wpAny (model X.prog X.w) X.A (eval (.Name x pos) X.env) Q E s :=
  Calls.Name_function_global I.ok.kind hg (Calls.loadGlobal_global (by rw [I.ok.glob]; exact I.mod.glob.keeps I.bk) hm h) hd
theorem ld_blt {E : Value → Shared → Prop} {pins : List (Addr × Obj)} {s : Shared} {σ : St} {H : Hp} {x : Str} {u : Value} {pos : Pos} {Q : Value → Shared → Prop} (I : Inv X pins σ H s) (hg : Gl X x) (hm : X.mg x = none) (hv : bootBuiltins x = some u) (h : Q u s)
    (hn : x ≠ "__name__" := by decide) (hd : (x == ("__debug__" : Str)) = false := by decide) : wpAny (model X.prog X.w) X.A (eval (.Name x pos) X.env) Q E s := by
  obtain ⟨mb, h1, h2⟩ := I.mod.blt
  exact Calls.Name_function_global I.ok.kind hg (Calls.loadGlobal_builtin (by rw [I.ok.glob]; exact I.mod.glob.keeps I.bk) hm (by rw [I.ok.blt]; exact h1.keeps I.bk) ((h2 x hn).trans hv) h) hd
theorem pe_glob {x : Str} {v : V} {u : Value} {pos : Pos} (hg : Gl X x) (hm : X.mg x = some u) (r : RelV v u) (hd : (x == ("__debug__" : Str)) = false := by decide) : PE X (.Name x pos) (tC v) :=
  fun _ _ _ H _ I h => ld_glob I hg hm ⟨v, H, I, r, h⟩ hd
def t2I (ta tb : TE) (k : Int → Int → Hp → Prop) : St → Hp → Prop := fun σ H => ta σ H fun x H1 => tb σ H1 fun y H2 => ∃ i j, x = .int i ∧ y = .int j ∧ k i j H2
def tAdd (ta tb : TE) : TE := fun σ H Q => t2I ta tb (fun i j H2 => Q (.int (i + j)) H2) σ H
def tSub (ta tb : TE) : TE := fun σ H Q => t2I ta tb (fun i j H2 => Q (.int (i - j)) H2) σ H
def tMul (ta tb : TE) : TE := fun σ H Q => t2I ta tb (fun i j H2 => (-(2 ^ 64) < i ∧ i < 2 ^ 64) ∧ Q (.int (i * j)) H2) σ H
variable {a b : Expr} {ta tb : TE} {pos : Pos}
def PC (X : Cx) (op : CmpOp) (a b : Expr) (t : TE) : Prop :=
  ∀ (pins : List (Addr × Obj)) (s : Shared) (σ : St) (H : Hp) (Q : VK), Inv X pins σ H s → t σ H Q →
    wpAny (model X.prog X.w) X.A (eval a X.env) (fun v s₁ => wpAny (model X.prog X.w) X.A (eval b X.env) (fun u s₂ => wpAny (model X.prog X.w) X.A (compareOp op v u) (EP X pins σ Q) X.xe s₂) X.xe s₁) X.xe s
def tCmp (p : Int → Int → Bool) (ta tb : TE) : TE := fun σ H Q => t2I ta tb (fun i j H2 => Q (.bl (p i j)) H2) σ H
abbrev tLt : TE → TE → TE := tCmp fun i j => decide (i < j)
abbrev tLe : TE → TE → TE := tCmp fun i j => decide (i ≤ j)
abbrev tGt : TE → TE → TE := tCmp fun i j => decide (j < i)
abbrev tGe : TE → TE → TE := tCmp fun i j => decide (j ≤ i)
abbrev tEqI : TE → TE → TE := tCmp fun i j => decide (i = j)
abbrev tNeI : TE → TE → TE := tCmp fun i j => !decide (i = j)
def tIsN (ta : TE) : TE := fun σ H Q => ta σ H fun x H1 => Q (.bl (decide (x = .non))) H1
def tNotN (ta : TE) : TE := fun σ H Q => ta σ H fun x H1 => Q (.bl (!decide (x = .non))) H1
def tB (t : TE) : TT := fun σ H Q => t σ H fun x H1 => ∃ c, x = .bl c ∧ Q c H1
variable {tA tB' : TT} {rest : List Expr}
def tAnd (t u : TT) : TT := fun σ H Q => t σ H fun c H1 => if c = true then u σ H1 Q else Q false H1
def tOr (t u : TT) : TT := fun σ H Q => t σ H fun c H1 => if c = true then Q true H1 else u σ H1 Q
def tNot (t : TT) : TT := fun σ H Q => t σ H fun c H1 => Q (!c) H1
theorem pw_or1 (ha : PT X a tA) : PW X (.BoolOp .Or [a] pos) tA := by
  intro wh pins s σ H Q I h
  refine isTrue_or (thn (ha pins s σ H Q I h) fun c s1 e => ?_)
  cases c with
  | false => exact isTrue_or_nil e
  | true => exact e
theorem pw_or (ha : PT X a tA) (hb : PW X (.BoolOp .Or (b :: rest) pos) tB') : PW X (.BoolOp .Or (a :: b :: rest) pos) (tOr tA tB') := by
  intro wh pins s σ H Q I h
  refine isTrue_or (thn (ha pins s σ H _ I h) fun c s1 ⟨H1, I1, q1⟩ => ?_)
  cases c with
  | true => exact ⟨H1, I1, q1⟩
  | false => exact hb wh pins s1 σ H1 Q I1 q1
theorem pt_not (ha : PT X a tA) : PT X (.UnaryOp .Not a pos) (tNot tA) := by
  intro pins s σ H Q I h
  exact isTrue_not (ha pins s σ H (fun c H1 => Q (!c) H1) I h)
def tAndV (ta tb : TE) : TE := fun σ H Q => ta σ H fun x H1 => ∃ c, x = .bl c ∧ if c = true then tb σ H1 Q else Q (.bl false) H1
def tOrV (ta tb : TE) : TE := fun σ H Q => ta σ H fun x H1 => ∃ c, x = .bl c ∧ if c = true then Q (.bl true) H1 else tb σ H1 Q
def tNotV (ta : TE) : TE := fun σ H Q => ta σ H fun x H1 => ∃ c, x = .bl c ∧ Q (.bl (!c)) H1
theorem pe_one {op} {t : TE} (h : PE X a t) : PE X (.BoolOp op [a] pos) t := fun pins s σ H Q I hw => BoolOp_one (h pins s σ H Q I hw)
theorem pe_and (ha : PE X a ta) (hb : PE X (.BoolOp .And (b :: rest) pos) tb) : PE X (.BoolOp .And (a :: b :: rest) pos) (tAndV ta tb) := by
  intro pins s σ H Q I h
  refine BoolOp_and (thn (ha pins s σ H _ I h) fun v s1 ⟨x, H1, I1, r1, q1⟩ => ?_)
  obtain ⟨c, rfl, q1⟩ := q1
  cases r1
  refine wpAny_truthy_bool ?_
  cases c with
  | true => exact hb pins s1 σ H1 Q I1 q1
  | false => exact ⟨.bl false, H1, I1, rfl, q1⟩
theorem pe_not (ha : PE X a ta) : PE X (.UnaryOp .Not a pos) (tNotV ta) := by
  intro pins s σ H Q I h
  refine UnaryOp_ (thn (ha pins s σ H _ I h) fun v s1 ⟨x, H1, I1, r1, q1⟩ => ?_)
  obtain ⟨c, rfl, q1⟩ := q1
  cases r1
  exact not_of (wpAny_truthy_bool ⟨.bl (!c), H1, I1, rfl, q1⟩)
def tIf (t : TT) (ta tb : TE) : TE := fun σ H Q => t σ H fun c H1 => if c = true then ta σ H1 Q else tb σ H1 Q
theorem pe_ifExp {c : Expr} (hc : PT X c tA) (ha : PE X a ta) (hb : PE X b tb) : PE X (.IfExp c a b pos) (tIf tA ta tb) := by
  intro pins s σ H Q I h
  refine wpAny_IfExp (thn (hc pins s σ H _ I h) fun d s1 ⟨H1, I1, q1⟩ => ?_)
  cases d with
  | true => exact ha pins s1 σ H1 Q I1 q1
  | false => exact hb pins s1 σ H1 Q I1 q1
end
end L2
namespace L2
open PySem PySem.Spec PyProof.Rows
def SqL (K : PySem.W.Frag) (H : Hp) (a : Addr) (xs : List V) : Prop :=
  Rd H a (.lst xs) ∨
    ∃ (o : Obj) (its : Array Value) (n : Nat), K.lookup a = some o ∧ o.cls = .type "list" ∧ o.dict = none ∧ o.data = .seq its n ∧ its.size ≤ sizeLine ∧ Vals xs its.toList
def SqT (K : PySem.W.Frag) (H : Hp) (a : Addr) (xs : List V) : Prop :=
  Rd H a (.tup xs) ∨
    ∃ (o : Obj) (its : Array Value) (n : Nat), K.lookup a = some o ∧ o.cls = .type "tuple" ∧ o.data = .seq its n ∧ its.size ≤ sizeLine ∧ Vals xs its.toList
def absV : Value → Option V
  | .none => some .non
  | .bool b => some (.bl b)
  | .int i _ => some (.int i)
  | .str x _ => some (.str x)
  | .bytes b _ => some (.byt b)
  | .float b _ => some (.flt b)
  | .ref a => some (.ref a)
  | .type n => some (.ty n)
  | _ => none
theorem RelV.abs {x : V} {u : Value} (r : RelV x u) : absV u = some x := by
  cases x with
  | non => cases r; rfl
  | bl _ => cases r; rfl
  | int _ => obtain ⟨t, rfl⟩ := r; rfl
  | str _ => obtain ⟨t, rfl⟩ := r; rfl
  | byt _ => obtain ⟨t, rfl⟩ := r; rfl
  | flt _ => obtain ⟨t, rfl⟩ := r; rfl
  | ref _ => cases r; rfl
  | ty _ => cases r; rfl
theorem RelV.inj {x y : V} {u : Value} (r : RelV x u) (q : RelV y u) : x = y := Option.some.inj (r.abs.symm.trans q.abs)
theorem Vals.inj : ∀ {xs ys : List V} {us : List Value}, Vals xs us → Vals ys us → xs = ys
  | _, _, _, .nil, .nil => rfl
  | _, _, _, .cons r t, .cons r' t' => by rw [r.inj r', Vals.inj t t']
section
variable {X : Cx} {pins : List (Addr × Obj)} {σ : St} {H : Hp} {s : Shared} {a : Addr} {xs ys : List V}
theorem SqL.of {K : PySem.W.Frag} (h : H a = some (.lst xs)) : SqL K H a xs := .inl (.inl h)
theorem SqT.of {K : PySem.W.Frag} (h : H a = some (.tup xs)) : SqT K H a xs := .inl (.inl h)
theorem Inv.list (I : Inv X pins σ H s) (h : SqL X.K H a xs) : ∃ its : List Value, Vals xs its ∧ PlainL s.heap a its.toArray ∧ xs.length ≤ sizeLine := by
  rcases h with h | ⟨o, its, n, hk, hc, hd, hs, hz, r⟩
  · obtain ⟨z, its, n, r, e⟩ := h.ok I.hok
    exact ⟨its, r, ⟨_, n, e, rfl, rfl, rfl⟩, z⟩
  · refine ⟨its.toList, r, ⟨o, n, I.kIn a o hk, hc, hd, by simpa using hs⟩, ?_⟩
    have e := r.length
    simp only [Array.length_toList] at e
    omega
theorem Inv.tuple (I : Inv X pins σ H s) (h : SqT X.K H a xs) : ∃ its : List Value, Vals xs its ∧ IsTup s.heap a its.toArray ∧ xs.length ≤ sizeLine := by
  rcases h with h | ⟨o, its, n, hk, hc, hs, hz, r⟩
  · obtain ⟨z, its, r, p⟩ := h.ok I.hok
    exact ⟨its, r, p, z⟩
  · refine ⟨its.toList, r, ⟨o, I.kIn a o hk, hc, n, by simpa using hs⟩, ?_⟩
    have e := r.length
    simp only [Array.length_toList] at e
    omega
theorem Inv.list_inj (I : Inv X pins σ H s) (h : SqL X.K H a xs) (h' : SqL X.K H a ys) : xs = ys := by
  obtain ⟨its, r, ⟨o, n, e, _, _, d⟩, _⟩ := I.list h
  obtain ⟨its', r', ⟨o', n', e', _, _, d'⟩, _⟩ := I.list h'
  rw [e] at e'; cases e'
  rw [d] at d'
  injection d' with d1 _
  have : its = its' := by simpa using congrArg Array.toList d1
  subst this
  exact r.inj r'
theorem Inv.tuple_inj (I : Inv X pins σ H s) (h : SqT X.K H a xs) (h' : SqT X.K H a ys) : xs = ys := by
  obtain ⟨its, r, ⟨o, e, _, n, d⟩, _⟩ := I.tuple h
  obtain ⟨its', r', ⟨o', e', _, n', d'⟩, _⟩ := I.tuple h'
  rw [e] at e'; cases e'
  rw [d] at d'
  injection d' with d1 _
  have : its = its' := by simpa using congrArg Array.toList d1
  subst this
  exact r.inj r'
end
abbrev Cx.wish (X : Cx) (E : Value → Shared → Prop) : Cx := { X with xe := E }
abbrev Cx.nox (X : Cx) : Cx := X.wish fun _ _ => False
theorem Cx.Ok.wish {X : Cx} (ok : X.Ok) (E : Value → Shared → Prop) : (X.wish E).Ok :=
  ⟨ok.mod, ok.kind, ok.glob, ok.blt, ok.above, ok.inj, ok.has, ok.cab, ok.hd, ok.frames, ok.stk, ok.exf, ok.bs, ok.bsz, ok.noex, ok.exfs, ok.funs, ok.frf⟩
theorem Cx.Ok.unwish {X : Cx} {E : Value → Shared → Prop} (ok : (X.wish E).Ok) : X.Ok :=
  ⟨ok.mod, ok.kind, ok.glob, ok.blt, ok.above, ok.inj, ok.has, ok.cab, ok.hd, ok.frames, ok.stk, ok.exf, ok.bs, ok.bsz, ok.noex, ok.exfs, ok.funs, ok.frf⟩
section
variable {X : Cx} {pins : List (Addr × Obj)} {σ : St} {H : Hp} {s : Shared} {E : Value → Shared → Prop}
theorem Inv.wish (I : Inv X pins σ H s) (E : Value → Shared → Prop) : Inv (X.wish E) pins σ H s := ⟨I.ok.wish E, I.os, I.bare, I.base, I.loc, I.cell, I.free, I.freeC, I.pin, I.hok, I.len⟩
theorem Inv.unwish (I : Inv (X.wish E) pins σ H s) : Inv X pins σ H s := ⟨I.ok.unwish, I.os, I.bare, I.base, I.loc, I.cell, I.free, I.freeC, I.pin, I.hok, I.len⟩
theorem SP.unwish {D : Ends} {f : Flow} {s' : Shared} (h : SP (X.wish E) pins D f s') : SP X pins D f s' := by
  cases f with
  | next => obtain ⟨σ', H', I, q⟩ := h; exact ⟨σ', H', I.unwish, q⟩
  | brk => obtain ⟨σ', H', I, q⟩ := h; exact ⟨σ', H', I.unwish, q⟩
  | cont => obtain ⟨σ', H', I, q⟩ := h; exact ⟨σ', H', I.unwish, q⟩
  | ret u => obtain ⟨v, σ', H', I, r, q⟩ := h; exact ⟨v, σ', H', I.unwish, r, q⟩
theorem PE.nox {e : Expr} {t : TE} (h : PE X.nox e t) : PE X e t := fun pins s σ H Q I hw =>
  wpAny_mono (h pins s σ H Q (I.wish _) hw) (fun _ _ ⟨v, H', I', r, q⟩ => ⟨v, H', I'.unwish, r, q⟩) fun _ _ z => False.elim z
theorem PT.nox {e : Expr} {t : TT} (h : PT X.nox e t) : PT X e t := fun pins s σ H Q I hw =>
  wpAny_mono (h pins s σ H Q (I.wish _) hw) (fun _ _ ⟨H', I', q⟩ => ⟨H', I'.unwish, q⟩) fun _ _ z => False.elim z
theorem PSs.nox {st : List Stmt} {t : TS} (h : PSs X.nox st t) : PSs X st t := fun pins s σ H D I hw =>
  wpAny_mono (h pins s σ H D (I.wish _) hw) (fun _ _ q => q.unwish) fun _ _ z => False.elim z
end
section
variable {X : Cx} {st : Stmt} {rest : List Stmt} {t u : TS} {e : Expr} {te : TE} {pos : Pos}
def tNext : TS := fun D σ H => D.nx σ H
def tSeq (t u : TS) : TS := fun D σ H => t { D with nx := u D } σ H
theorem pss_nil : PSs X [] tNext := fun _ _ σ H _ I h => wpAny_execs_nil ⟨σ, H, I, h⟩
theorem pss_cons (h1 : PS X st t) (h2 : PSs X rest u) : PSs X (st :: rest) (tSeq t u) := by
  intro pins s σ H D I h
  refine wpAny_execs_cons (thn (h1 pins s σ H { D with nx := u D } I h) fun f s1 q => ?_)
  cases f with
  | next =>
    obtain ⟨σ', H', I', q⟩ := q
    exact h2 pins s1 σ' H' D I' q
  | ret v => exact q
  | brk => exact q
  | cont => exact q
theorem pss_one (h1 : PS X st t) : PSs X [st] t := by
  intro pins s σ H D I h
  refine wpAny_execs_cons (thn (h1 pins s σ H D I h) fun f s1 q => ?_)
  cases f with
  | next => exact wpAny_execs_nil q
  | ret v => exact q
  | brk => exact q
  | cont => exact q
def tBreak : TS := fun D σ H => D.bk σ H
def tCont : TS := fun D σ H => D.ct σ H
theorem Inv.quiet {pins : List (Addr × Obj)} {σ : St} {H : Hp} {s : Shared} (I : Inv X pins σ H s) : interactive X.env = false := by simp [interactive, I.ok.kind]
def tDrop (te : TE) : TS := fun D σ H => te σ H fun _ H1 => D.nx σ H1
theorem ps_expr (he : PE X e te) (hs : swapsWith e none pos.line X.env = pure false := by rfl) : PS X (.Expr e pos) (tDrop te) := by
  intro pins s σ H D I h
  exact wpAny_Expr_any (thn (he pins s σ H _ I h) fun v s1 ⟨x, H1, I1, r1, q1⟩ => ⟨σ, H1, I1, q1⟩) I.quiet hs
def tRet (te : TE) : TS := fun D σ H => te σ H D.rt
theorem ps_ret (he : PE X e te) : PS X (.Return (some e) pos) (tRet te) := by
  intro pins s σ H D I h
  exact wpAny_Return_some (thn (he pins s σ H _ I h) fun v s1 ⟨x, H1, I1, r1, q1⟩ => ⟨x, σ, H1, I1, r1, q1⟩)
def tRetN : TS := fun D _ H => D.rt .non H
def tIfS (c : TT) (t u : TS) : TS := fun D σ H => c σ H fun b H1 => if b = true then t D σ H1 else u D σ H1
theorem ps_if {c : Expr} {a b : List Stmt} {tc : TT} (hc : PT X c tc) (ha : PSs X a t) (hb : PSs X b u) : PS X (.If c a b pos) (tIfS tc t u) := by
  intro pins s σ H D I h
  refine wpAny_If (thn (hc pins s σ H _ I h) fun d s1 ⟨H1, I1, q1⟩ => ?_)
  cases d with
  | true => exact ha pins s1 σ H1 D I1 q1
  | false => exact hb pins s1 σ H1 D I1 q1
def tNever : TS := fun _ _ _ => False
end
abbrev TG := V → St → Hp → (St → Hp → Prop) → Prop
abbrev TGs := List V → St → Hp → (St → Hp → Prop) → Prop
def PG (X : Cx) (target : Expr) (t : TG) : Prop :=
  ∀ (pins : List (Addr × Obj)) (s : Shared) (σ : St) (H : Hp) (v : V) (u : Value) (Q : St → Hp → Prop), Inv X pins σ H s → RelV v u → t v σ H Q →
    wpAny (model X.prog X.w) X.A (assign target X.env u) (fun _ s' => ∃ σ' H', Inv X pins σ' H' s' ∧ Q σ' H') X.xe s
def PGs (X : Cx) (ts : List Expr) (t : TGs) : Prop :=
  ∀ (pins : List (Addr × Obj)) (s : Shared) (σ : St) (H : Hp) (vs : List V) (us : List Value) (Q : St → Hp → Prop), Inv X pins σ H s → Vals vs us → t vs σ H Q →
    wpAny (model X.prog X.w) X.A (assignInOrder ((assignEach ts X.env).map (·.2)) us) (fun _ s' => ∃ σ' H', Inv X pins σ' H' s' ∧ Q σ' H') X.xe s
abbrev TSet := V → V → V → Hp → (Hp → Prop) → Prop
def PSet (X : Cx) (t : TSet) : Prop :=
  ∀ (pins : List (Addr × Obj)) (s : Shared) (σ : St) (H : Hp) (o i v : V) (ov iv u : Value) (Q : Hp → Prop), Inv X pins σ H s → RelV o ov → RelV i iv → RelV v u → t o i v H Q →
    wpAny (model X.prog X.w) X.A (setItem ov iv u) (fun _ s' => ∃ H', Inv X pins σ H' s' ∧ Q H') X.xe s
abbrev TIp := V → V → Hp → VK → Prop
def PIp (X : Cx) (op : Operator) (t : TIp) : Prop :=
  ∀ (pins : List (Addr × Obj)) (s : Shared) (σ : St) (H : Hp) (x y : V) (v u : Value) (Q : VK), Inv X pins σ H s → RelV x v → RelV y u → t x y H Q →
    wpAny (model X.prog X.w) X.A (inplaceOp op v u) (EP X pins σ Q) X.xe s
section
variable {X : Cx} {pos : Pos}
def gName (i : Nat) : TG := fun v σ H Q => Q (σ.set i (some v)) H
theorem pg_name {i : Nat} {x : Str} (hN : X.N.Nodup) (hi : X.N[i]? = some x) (hx : Loc X.env.scope x) (hf : X.fn x = true ∨ X.env.scope.names.lookup x = some .local := by first | exact .inl rfl | exact .inr rfl | assumption) : PG X (.Name x pos) (gName i) := by
  intro pins s σ H v u Q I r h
  exact wpAny_assign_Name (store_ok I hN hi hx r (fun s' I' => ⟨_, H, I', h⟩) hf)
def gNil : TGs := fun vs σ H Q => vs = [] ∧ Q σ H
def gCons (t : TG) (u : TGs) : TGs := fun vs σ H Q => ∃ v r, vs = v :: r ∧ t v σ H fun σ' H' => u r σ' H' Q
theorem pgs_nil : PGs X [] gNil := by
  intro pins s σ H vs us Q I r h
  obtain ⟨e, h⟩ := h
  subst e
  cases r
  exact assignInOrder_nil ⟨σ, H, I, h⟩
theorem pgs_cons {e : Expr} {es : List Expr} {t : TG} {u : TGs} (h1 : PG X e t) (h2 : PGs X es u)
    (hs : (assignEach (e :: es) X.env).map (·.2) = assign e X.env :: (assignEach es X.env).map (·.2) := by rfl) : PGs X (e :: es) (gCons t u) := by
  intro pins s σ H vs us Q I r h
  obtain ⟨v, vr, e1, h⟩ := h
  subst e1
  cases r with
  | cons r rr =>
    rw [hs]
    refine assignInOrder_cons (thn (h1 pins s σ H _ _ _ I r h) fun _ s1 ⟨σ1, H1, I1, q1⟩ => ?_)
    exact h2 pins s1 σ1 H1 _ _ Q I1 rr q1
def gTup (K : PySem.W.Frag) (n : Nat) (t : TGs) : TG := fun v σ H Q => ∃ a xs, v = .ref a ∧ SqT K H a xs ∧ xs.length = n ∧ t xs σ H Q
theorem pg_tup {es : List Expr} {k : Nat} {t : TGs} {n : Nat} (hc : X.calm = true) (h : PGs X es t)
    (hn : (assignEach es X.env).length = n := by rfl) (hst : (assignEach es X.env).findIdx? (·.1) = none := by rfl) : PG X (.Tuple es k pos) (gTup X.K n t) := by
  intro pins s σ H v u Q I r hw
  obtain ⟨a, xs, e1, hq, hl, hw⟩ := hw
  subst e1
  cases r
  obtain ⟨its, rv, ht, hz⟩ := I.tuple hq
  refine assign_Tuple_tuple (I.ok.hd hc) ht (by simp [hn, ← hl, rv.length]) hst fun h' hx => ?_
  have I1 : Inv X pins σ H { s with heap := h' } := I.kept (t' := s.toks) fun b o e => hx b o (Nat.ne_of_lt (Heap.lt_size e)) e
  exact h pins _ σ H xs _ Q I1 (by simpa using rv) hw
def gSub (to ti : TE) (t : TSet) : TG := fun v σ H Q => to σ H fun o H1 => ti σ H1 fun i H2 => t o i v H2 fun H3 => Q σ H3
theorem pg_sub {o i : Expr} {to ti : TE} {t : TSet} (ho : PE X o to) (hi : PE X i ti) (hs : PSet X t)
    (ha : ∀ v, assign (.Subscript o i pos) X.env v = (do
      let ov ← holding [v] (eval o X.env)
      let iv ← holding [v, ov] (eval i X.env)
      standAt pos
      holding [v, ov, iv] (setItem ov iv v)
      release [v, ov, iv] []) := by intro _; rfl) : PG X (.Subscript o i pos) (gSub to ti t) := by
  intro pins s σ H v u Q I r h
  rw [ha]
  refine wpAny_bind (wpAny_holding (thn (ho pins s σ H _ I h) fun ov s1 ⟨x, H1, I1, r1, q1⟩ => ?_))
  refine wpAny_bind (wpAny_holding (thn (hi pins s1 σ H1 _ I1 q1) fun iv s2 ⟨y, H2, I2, r2, q2⟩ => ?_))
  refine wpAny_bind (wpAny_standAt (wpAny_bind (wpAny_holding (thn (hs pins s2 σ H2 x y v ov iv u _ I2 r1 r2 r q2) fun _ s3 ⟨H3, I3, q3⟩ => ?_))))
  exact wpAny_release ⟨σ, H3, I3, q3⟩
def tAsg (te : TE) (g : TG) : TS := fun D σ H => te σ H fun x H1 => g x σ H1 D.nx
theorem ps_asg {tg e : Expr} {te : TE} {g : TG} (he : PE X e te) (hg : PG X tg g) (hs : swapsWithSole [tg] e pos.line X.env = pure false := by rfl) (hw : swappedStores [tg] e X.env = pure none := by rfl)
    (h1 : (assignEach [tg] X.env).map (·.2) = [assign tg X.env] := by rfl) : PS X (.Assign [tg] e pos) (tAsg te g) := by
  intro pins s σ H D I h
  refine wpAny_Assign_stores (thn (he pins s σ H _ I h) fun v s1 ⟨x, H1, I1, r1, q1⟩ => ?_) hs hw
  rw [h1]
  exact thn (hg pins s1 σ H1 x v _ I1 r1 q1) fun _ s2 q => q
theorem ps_set {i : Nat} {x : Str} {e : Expr} {te : TE} {pos' : Pos} (hN : X.N.Nodup) (hi : X.N[i]? = some x) (hx : Loc X.env.scope x) (he : PE X e te) (hs : swapsWith e (some (.Name x pos')) pos.line X.env = pure false := by rfl) (hf : X.fn x = true ∨ X.env.scope.names.lookup x = some .local := by first | exact .inl rfl | exact .inr rfl | assumption) :
    PS X (.Assign [.Name x pos'] e pos) (tAsg te (gName i)) := by
  intro pins s σ H D I h
  refine wpAny_Assign_Name (thn (he pins s σ H _ I h) fun v s1 ⟨y, H1, I1, r1, q1⟩ => ?_) hs
  exact store_ok I1 hN hi hx r1 (fun s2 I2 => ⟨_, H1, I2, q1⟩) hf
def tPar (i j : Nat) (ta : TA) : TS := fun D σ H => ta σ H fun vs H1 => ∃ v w, vs = [v, w] ∧ D.nx ((σ.set i (some v)).set j (some w)) H1
def tAug (i : Nat) (te : TE) (ti : TIp) : TS := fun D σ H => ∃ x, σ[i]? = some (some x) ∧ te σ H fun y H1 => ti x y H1 fun z H2 => D.nx (σ.set i (some z)) H2
def tAugS (to ti te : TE) (tget : V → V → Hp → VK → Prop) (tip : TIp) (tset : TSet) : TS := fun D σ H => to σ H fun o H1 => ti σ H1 fun i H2 => tget o i H2 fun x H3 => te σ H3 fun y H4 => tip x y H4 fun z H5 => tset o i z H5 fun H6 => D.nx σ H6
def PGet (X : Cx) (t : V → V → Hp → VK → Prop) : Prop :=
  ∀ (pins : List (Addr × Obj)) (s : Shared) (σ : St) (H : Hp) (o i : V) (ov iv : Value) (Q : VK), Inv X pins σ H s → RelV o ov → RelV i iv → t o i H Q →
    wpAny (model X.prog X.w) X.A (getItem ov iv) (EP X pins σ Q) X.xe s
def ipI (f : Int → Int → Int) : TIp := fun x y H Q => ∃ i j, x = .int i ∧ y = .int j ∧ Q (.int (f i j)) H
end
section
variable {X : Cx} {pos : Pos}
def tWhile (c : TT) (tb : TS) : TS := fun D σ H => ∃ W : Nat → St → Hp → Prop, (∃ m, W m σ H) ∧ ∀ m σ H, W m σ H →
  c σ H fun b H1 => if b = true then ∃ N : St → Hp → Prop, (∀ σ' H', N σ' H' → ∃ m', m' < m ∧ W m' σ' H') ∧ tb { D with nx := N, ct := N, bk := D.nx } σ H1 else D.nx σ H1
theorem ps_while {c : Expr} {body : List Stmt} {tc : TT} {tb : TS} (hp : PassesOwn (model X.prog X.w) X.A X.env X.xe) (hc : PT X c tc) (hb : PSs X body tb) : PS X (.While c body [] pos) (tWhile tc tb) := by
  intro pins s σ H D I h
  obtain ⟨W, ⟨m0, w0⟩, turn⟩ := h
  refine wpAny_While (codeAny_whileLoop (fun n s' => ∃ σ' H', Inv X pins σ' H' s' ∧ W n σ' H') ?_ m0 ⟨σ, H, I, w0⟩)
  rintro n s1 ⟨σ1, H1, I1, w1⟩
  refine wpAny_passesOwn hp (thn (hc pins s1 σ1 H1 _ I1 (turn n σ1 H1 w1)) fun b s2 ⟨H2, I2, q2⟩ => ?_)
  cases b with
  | true =>
    obtain ⟨N, hN, q2⟩ := q2
    rw [if_pos rfl]
    refine wpAny_passesOwn hp (thn (hb pins s2 σ1 H2 _ I2 q2) fun f s3 q3 => ?_)
    cases f with
    | next =>
      obtain ⟨σ3, H3, I3, n3⟩ := q3
      obtain ⟨m', hm, w3⟩ := hN σ3 H3 n3
      exact ⟨m', hm, σ3, H3, I3, w3⟩
    | cont =>
      obtain ⟨σ3, H3, I3, n3⟩ := q3
      obtain ⟨m', hm, w3⟩ := hN σ3 H3 n3
      exact ⟨m', hm, σ3, H3, I3, w3⟩
    | brk => exact q3
    | ret v => exact q3
  | false =>
    rw [if_neg Bool.false_ne_true]
    exact wpAny_execs_nil ⟨σ1, H2, I2, q2⟩
end
structure It where
  go : Nat → Hp → Prop
  yld : Nat → Hp → V → Hp → Prop
  stop : Nat → Hp → Prop
def FpOk (X : Cx) (pins : List (Addr × Obj)) (H : Hp) (b : Addr) : Prop :=
  H b = none ∧ b ≠ X.env.locals ∧ b ∉ X.fs ∧ (b ∈ X.ex ∨ X.s_0.heap.objs.size ≤ b) ∧ (∀ x c, X.env.cells.lookup x = some c → c ≠ b) ∧ ∀ p ∈ X.pn ++ pins, p.1 ≠ b
theorem Inv.fpOk {X : Cx} {pins : List (Addr × Obj)} {σ : St} {H H' : Hp} {s : Shared} {b : Addr} (I : Inv X pins σ H s) (hb : s.heap.objs.size ≤ b) (hn : H' b = none) : FpOk X pins H' b := by
  refine ⟨hn, Nat.ne_of_gt (Nat.lt_of_lt_of_le I.lt hb), I.nofs hb, .inr (Nat.le_trans I.sz hb), fun x c e z => ?_, fun p hp z => ?_⟩
  · obtain ⟨v, q⟩ := I.cell x c e
    exact absurd (Nat.lt_of_lt_of_le q.lt (by rw [z]; exact hb)) (Nat.lt_irrefl _)
  · exact absurd (Nat.lt_of_lt_of_le (Heap.lt_size (I.pin p hp).1) (by rw [z]; exact hb)) (Nat.lt_irrefl _)
structure Turn (P : Program) (w : World) (K : PySem.W.Frag) (tg : Expr) (J : It) (fp : List Addr) (it : Addr) (tn : Nat → Heap → Prop) : Prop where
  mem : it ∈ fp
  obj : ∀ i h, tn i h → ∀ b ∈ fp, ∃ o, h.get? b = some o ∧ ∀ v, o.data ≠ .cell v
  keep : ∀ i h h', tn i h → (∀ b ∈ fp, ∀ o, h.get? b = some o → h'.get? b = some o) → tn i h'
  item : ∀ (X : Cx), X.prog = P → X.w = w → X.K = K → X.calm = true → ∀ (i : Nat) (pins : List (Addr × Obj)) (s : Shared) (σ : St) (H : Hp) (E : Value → Shared → Prop), Inv X pins σ H s → (∀ b ∈ fp, FpOk X pins H b) → tn i s.heap → J.go i H →
    wpAny (model P w) X.A (pyNext (.ref it)) (fun r s1 => ∃ u, r = some u ∧
      wpAny (model P w) X.A (letOwnedTupleGo tg (.ref it) u) (fun _ s2 => ∃ x H', Inv X pins σ H' s2 ∧ RelV x u ∧ J.yld i H x H' ∧ tn (i + 1) s2.heap ∧ ∀ b ∈ fp, H' b = none) E s1) E s
  done : ∀ (X : Cx), X.prog = P → X.w = w → X.K = K → X.calm = true → ∀ (i : Nat) (pins : List (Addr × Obj)) (s : Shared) (σ : St) (H : Hp) (E : Value → Shared → Prop), Inv X pins σ H s → (∀ b ∈ fp, FpOk X pins H b) → tn i s.heap → J.stop i H →
    wpAny (model P w) X.A (pyNext (.ref it)) (fun r s1 => r = none ∧ Inv X pins σ H s1) E s
  self : ∀ (A : Around) (i : Nat) (s : Shared) (Q : Value → Shared → Prop) (E : Value → Shared → Prop), tn i s.heap → Q (.ref it) s → wpAny (model P w) A (pyIter (.ref it)) Q E s
abbrev TI := St → Hp → (It → Hp → Prop) → Prop
def PIE (X : Cx) (pins : List (Addr × Obj)) (σ : St) (tg : Expr) (R : It → Hp → Prop) (itv : Value) (s2 : Shared) : Prop :=
  ∃ (it : Addr) (fp : List Addr) (tn : Nat → Heap → Prop) (J : It) (H' : Hp), itv = .ref it ∧ Inv X pins σ H' s2 ∧ Turn X.prog X.w X.K tg J fp it tn ∧ tn 0 s2.heap ∧ (∀ b ∈ fp, FpOk X pins H' b) ∧ R J H'
def PI (X : Cx) (tg iter : Expr) (wi : TI) : Prop :=
  ∀ (pins : List (Addr × Obj)) (s : Shared) (σ : St) (H : Hp) (R : It → Hp → Prop), Inv X pins σ H s → wi σ H R →
    wpAny (model X.prog X.w) X.A (eval iter X.env) (fun v s1 => wpAny (model X.prog X.w) X.A (pyIter v) (PIE X pins σ tg R) X.xe s1) X.xe s
theorem go_of {M : Model} {A : Around} {E : Value → Shared → Prop} {s : Shared} {tg : Expr} {it : Addr} {u : Value} {o : Obj} {n : String} {vs : Array Value} {Q : Unit → Shared → Prop} (ho : s.heap.get? it = some o) (hc : o.cls = .type n) (hd : o.data = .fields vs)
    (hn : ["enumerate", "zip", "dict_itemiterator", "dict_reverseitemiterator", "odict_iterator", "itertools.zip_longest", "itertools.pairwise"].contains n = false) (hQ : Q () s) : wpAny M A (letOwnedTupleGo tg (.ref it) u) Q E s := by
  unfold letOwnedTupleGo
  cases tg <;> first
    | exact wpAny_pure hQ
    | (cases u <;> first
        | exact wpAny_pure hQ
        | (refine wpAny_bind (wpAny_load ho ?_)
           rw [hc, hd]
           show wpAny M A (if (["enumerate", "zip", "dict_itemiterator", "dict_reverseitemiterator", "odict_iterator", "itertools.zip_longest", "itertools.pairwise"].contains n && vs[0]? == some (rawInt _)) = true then _ else _) Q E s
           rw [if_neg (by intro h; rw [hn, Bool.false_and] at h; cases h)]
           exact wpAny_pure hQ))
def Itl (K : PySem.W.Frag) (a : Addr) : It :=
  ⟨fun i H => ∃ xs x, SqL K H a xs ∧ xs[i]? = some x, fun i H x H' => H' = H ∧ ∀ xs, SqL K H a xs → xs[i]? = some x, fun i H => ∃ xs, SqL K H a xs ∧ xs.length ≤ i⟩
def Itt (K : PySem.W.Frag) (a : Addr) : It :=
  ⟨fun i H => ∃ xs x, SqT K H a xs ∧ xs[i]? = some x, fun i H x H' => H' = H ∧ ∀ xs, SqT K H a xs → xs[i]? = some x, fun i H => ∃ xs, SqT K H a xs ∧ xs.length ≤ i⟩
def Itr (lo : Int) (n : Nat) : It := ⟨fun i _ => i < n, fun i H x H' => H' = H ∧ x = .int (lo + i), fun i _ => n ≤ i⟩
theorem turn_list {P : Program} {w : World} {K : PySem.W.Frag} {tg : Expr} (a it : Addr) : Turn P w K tg (Itl K a) [it] it (fun i h => h.IsListIter it a i) where
  mem := by simp
  obj := fun i h st b hb => by
    have e : b = it := by simpa using hb
    subst e
    obtain ⟨o, e, c, d⟩ := st
    exact ⟨o, e, fun v z => by rw [d] at z; cases z⟩
  keep := fun i h h' st k => st.at fun o e => k it (by simp) o e
  item := by
    intro X hP hw hK hc i pins s σ H E I hf st hg
    subst hP hw hK
    obtain ⟨xs, x, hq, hx⟩ := hg
    obtain ⟨its, rv, p, hz⟩ := I.list hq
    obtain ⟨u, hu, ru⟩ := rv.get hx
    obtain ⟨f0, f1, f2, f3, f4, f5⟩ := hf it (by simp)
    refine wpAny_pyNext_list_item st p.isList (x := u) (by simpa using hu) fun h' st' sb => ?_
    have I1 : Inv X pins σ H { s with heap := h' } := I.turned (t' := s.toks) (fun b o hb e => (sb.2 b hb).trans e) f0 f1 f3 f4 f5
    obtain ⟨o, e, c, d⟩ := id st'
    exact ⟨u, rfl, go_of (s := { s with heap := h' }) e c d (by decide) ⟨x, H, I1, ru, ⟨rfl, fun ys hy => by rw [I.list_inj hy hq]; exact hx⟩, st', fun b hb => (hf b hb).1⟩⟩
  done := by
    intro X hP hw hK hc i pins s σ H E I hf st hg
    subst hP hw hK
    obtain ⟨xs, hq, hx⟩ := hg
    obtain ⟨its, rv, p, hz⟩ := I.list hq
    obtain ⟨f0, f1, f2, f3, f4, f5⟩ := hf it (by simp)
    have hl := rv.length
    exact wpAny_pyNext_list_end (I.ok.hd hc) st p.isList (by simp; omega) fun h' eb => ⟨rfl, I.turned (t' := s.toks) (fun b o hb e => eb b o hb e) f0 f1 f3 f4 f5⟩
  self := fun _ _ _ _ _ st h => wpAny_pyIter_listiter st h
theorem turn_tuple {P : Program} {w : World} {K : PySem.W.Frag} {tg : Expr} (a it : Addr) : Turn P w K tg (Itt K a) [it] it (fun i h => h.IsTupleIter it a i) where
  mem := by simp
  obj := fun i h st b hb => by
    have e : b = it := by simpa using hb
    subst e
    obtain ⟨o, e, c, d⟩ := st
    exact ⟨o, e, fun v z => by rw [d] at z; cases z⟩
  keep := fun i h h' st k => st.at fun o e => k it (by simp) o e
  item := by
    intro X hP hw hK hc i pins s σ H E I hf st hg
    subst hP hw hK
    obtain ⟨xs, x, hq, hx⟩ := hg
    obtain ⟨its, rv, p, hz⟩ := I.tuple hq
    obtain ⟨u, hu, ru⟩ := rv.get hx
    obtain ⟨f0, f1, f2, f3, f4, f5⟩ := hf it (by simp)
    refine wpAny_pyNext_tuple_item st (show s.heap.IsTuple a its.toArray from p) (x := u) (by simpa using hu) fun h' st' sb => ?_
    have I1 : Inv X pins σ H { s with heap := h' } := I.turned (t' := s.toks) (fun b o hb e => (sb.2 b hb).trans e) f0 f1 f3 f4 f5
    obtain ⟨o, e, c, d⟩ := id st'
    exact ⟨u, rfl, go_of (s := { s with heap := h' }) e c d (by decide) ⟨x, H, I1, ru, ⟨rfl, fun ys hy => by rw [I.tuple_inj hy hq]; exact hx⟩, st', fun b hb => (hf b hb).1⟩⟩
  done := by
    intro X hP hw hK hc i pins s σ H E I hf st hg
    subst hP hw hK
    obtain ⟨xs, hq, hx⟩ := hg
    obtain ⟨its, rv, p, hz⟩ := I.tuple hq
    obtain ⟨f0, f1, f2, f3, f4, f5⟩ := hf it (by simp)
    have hl := rv.length
    exact wpAny_pyNext_tuple_end (I.ok.hd hc) st (show s.heap.IsTuple a its.toArray from p) (by simp; omega) fun h' eb => ⟨rfl, I.turned (t' := s.toks) (fun b o hb e => eb b o hb e) f0 f1 f3 f4 f5⟩
  self := fun _ _ _ _ _ st h => wpAny_pyIter_tupleiter st h
theorem turn_range {P : Program} {w : World} {K : PySem.W.Frag} {tg : Expr} (it : Addr) (lo : Int) (n : Nat) : Turn P w K tg (Itr lo n) [it] it (fun i h => IsRangeIter h it (lo + (i : Nat) * 1) ((n : Int) - (i : Nat)) 1) where
  mem := by simp
  obj := fun i h st b hb => by
    have e : b = it := by simpa using hb
    subst e
    exact ⟨_, st, fun v z => by
      have z' : Data.fields _ = Data.cell v := z
      cases z'⟩
  keep := fun i h h' st k => k it (by simp) _ st
  item := by
    intro X hP hw hK hc i pins s σ H E I hf st hg
    subst hP hw hK
    obtain ⟨f0, f1, f2, f3, f4, f5⟩ := hf it (by simp)
    have W := Walks.range (prog := X.prog) (w := X.w) (I.ok.hd hc) it lo 1 n
    refine W.item i s _ _ hg st fun v h' tk hv st' kk => ?_
    obtain ⟨t, rfl⟩ := hv
    have I1 : Inv X pins σ H { s with heap := h', toks := tk } := I.turned (fun b o hb e => kk b o (by simpa using hb) e) f0 f1 f3 f4 f5
    refine ⟨_, rfl, go_of (s := { s with heap := h', toks := tk }) (n := "range_iterator") st' rfl rfl (by decide) ⟨.int (lo + i), H, I1, ⟨t, ?_⟩, ⟨rfl, rfl⟩, st', fun b hb => (hf b hb).1⟩⟩
    rw [Int.mul_one]
  done := by
    intro X hP hw hK hc i pins s σ H E I hf st hg
    subst hP hw hK
    obtain ⟨f0, f1, f2, f3, f4, f5⟩ := hf it (by simp)
    exact wpAny_pyNext_range_end (I.ok.hd hc) st (by have : n ≤ i := hg; omega) fun h' eb => ⟨rfl, I.turned (t' := s.toks) (fun b o hb e => eb b o hb e) f0 f1 f3 f4 f5⟩
  self := fun _ _ _ _ _ st h => wpAny_pyIter_rangeiter st h
end L2
namespace L2
open PySem PySem.Spec PyProof.Rows
section
variable {X : Cx} {tg : Expr}
def iList (K : PySem.W.Frag) (tl : TE) : TI := fun σ H R => tl σ H fun x H1 => ∃ a, x = .ref a ∧ (∃ xs, SqL K H1 a xs) ∧ R (Itl K a) H1
def iTup (K : PySem.W.Frag) (tl : TE) : TI := fun σ H R => tl σ H fun x H1 => ∃ a, x = .ref a ∧ (∃ xs, SqT K H1 a xs) ∧ R (Itt K a) H1
theorem pi_list {l : Expr} {tl : TE} (hl : PE X l tl) : PI X tg l (iList X.K tl) := by
  intro pins s σ H R I h
  refine thn (hl pins s σ H _ I h) fun v s1 ⟨x, H1, I1, r1, q1⟩ => ?_
  obtain ⟨a, e, ⟨xs, hq⟩, q⟩ := q1
  subst e
  cases r1
  obtain ⟨its, rv, p, hz⟩ := I1.list hq
  refine wpAny_pyIter_list p.isList ?_
  refine ⟨s1.heap.objs.size, [s1.heap.objs.size], _, _, H1, rfl, I1.kept (t' := s1.toks) fun b o e => Heap.get?_push_of_some _ e, turn_list a _, ⟨_, Heap.get?_push_size _ rfl, rfl, rfl⟩, fun b hb => ?_, q⟩
  have e : b = s1.heap.objs.size := by simpa using hb
  subst e
  exact I1.fpOk (Nat.le_refl _) (I1.hok.fresh (Nat.le_refl _))
theorem pi_tup {l : Expr} {tl : TE} (hl : PE X l tl) : PI X tg l (iTup X.K tl) := by
  intro pins s σ H R I h
  refine thn (hl pins s σ H _ I h) fun v s1 ⟨x, H1, I1, r1, q1⟩ => ?_
  obtain ⟨a, e, ⟨xs, hq⟩, q⟩ := q1
  subst e
  cases r1
  obtain ⟨its, rv, p, hz⟩ := I1.tuple hq
  refine wpAny_pyIter_tuple (show s1.heap.IsTuple a its.toArray from p) ?_
  refine ⟨s1.heap.objs.size, [s1.heap.objs.size], _, _, H1, rfl, I1.kept (t' := s1.toks) fun b o e => Heap.get?_push_of_some _ e, turn_tuple a _, ⟨_, Heap.get?_push_size _ rfl, rfl, rfl⟩, fun b hb => ?_, q⟩
  have e : b = s1.heap.objs.size := by simpa using hb
  subst e
  exact I1.fpOk (Nat.le_refl _) (I1.hok.fresh (Nat.le_refl _))
theorem range_it {pins : List (Addr × Obj)} {σ : St} {H : Hp} {s : Shared} {R : It → Hp → Prop} {E : Value → Shared → Prop} {lo hi : Int} {t u v : Tok} {tk : Nat} (I : Inv X pins σ H s) (h1 : -(2 ^ 62) ≤ lo) (h2 : lo < 2 ^ 62) (h3 : -(2 ^ 62) ≤ hi) (h4 : hi < 2 ^ 62)
    (q : R (Itr lo (hi - lo).toNat) H) : wpAny (model X.prog X.w) X.A (pyIter (.ref s.heap.objs.size)) (PIE X pins σ tg R) E { s with heap := s.heap.push { cls := .type "range", data := .fields #[.int lo t, .int hi u, .int 1 v] }, toks := tk } := by
  refine wpAny_pyIter_range (IsRange.new ..) (small_one h1 h2 h3 h4) ?_
  have I1 : Inv X pins σ H { s with heap := s.heap.push { cls := .type "range", data := .fields #[.int lo t, .int hi u, .int 1 v] }, toks := tk } := I.kept fun b o e => Heap.get?_push_of_some _ e
  refine ⟨(s.heap.push { cls := .type "range", data := .fields #[.int lo t, .int hi u, .int 1 v] }).objs.size, [(s.heap.push { cls := .type "range", data := .fields #[.int lo t, .int hi u, .int 1 v] }).objs.size], _, _, H, rfl,
    I1.kept (t' := tk) fun b o e => Heap.get?_push_of_some _ e, turn_range _ lo (hi - lo).toNat, ?_, fun b hb => ?_, q⟩
  · have e1 : lo + ((0 : Nat) : Int) * 1 = lo := by simp
    have e2 : (((hi - lo).toNat : Nat) : Int) - ((0 : Nat) : Int) = Builtin.Range.rangeSize lo hi 1 := by rw [rangeSize_one]; split <;> omega
    show IsRangeIter _ _ (lo + ((0 : Nat) : Int) * 1) ((((hi - lo).toNat : Nat) : Int) - ((0 : Nat) : Int)) 1
    rw [e1, e2]
    exact Heap.get?_push_size _ rfl
  · have e : b = (s.heap.push { cls := .type "range", data := .fields #[.int lo t, .int hi u, .int 1 v] }).objs.size := by simpa using hb
    subst e
    exact I1.fpOk (Nat.le_refl _) (I1.hok.fresh (Nat.le_refl _))
def iRng1 (ta : TA) : TI := fun σ H R => ta σ H fun vs H1 => ∃ j : Int, vs = [.int j] ∧ -(2 ^ 62) ≤ j ∧ j < 2 ^ 62 ∧ R (Itr 0 j.toNat) H1
def iRng2 (ta : TA) : TI := fun σ H R => ta σ H fun vs H1 => ∃ i j : Int, vs = [.int i, .int j] ∧ (-(2 ^ 62) ≤ i ∧ i < 2 ^ 62 ∧ -(2 ^ 62) ≤ j ∧ j < 2 ^ 62) ∧ R (Itr i (j - i).toNat) H1
theorem pi_range1 {a : Expr} {ta : TA} {p pos : Pos} (hg : Gl X "range") (hm : X.mg "range" = none) (ha : PA X [a] ta) (hs : starEach [a] X.env = [(false, eval a X.env)] := by rfl) : PI X tg (.Call (.Name "range" p) [a] [] pos) (iRng1 ta) := by
  intro pins s σ H R I h
  refine Call_ (ld_blt I hg hm boot_range (PyProof.Rows.callWith_type1 (thn (ha pos pins s σ H _ I h) fun us s1 ⟨vs, H1, I1, r1, q1⟩ => ?_) hs rfl))
  obtain ⟨j, e, q1, q2, q⟩ := q1
  subst e
  cases r1 with
  | cons r rr =>
    cases rr
    obtain ⟨t, rfl⟩ := r
    exact call_range_1 (range_it I1 (by omega) (by omega) q1 q2 (by simpa using q))
theorem pi_range2 {a b : Expr} {ta : TA} {p pos : Pos} (hg : Gl X "range") (hm : X.mg "range" = none) (ha : PA X [a, b] ta) (hs : starEach [a, b] X.env = [(false, eval a X.env), (false, eval b X.env)] := by rfl) (hs2 : starEach [b] X.env = [(false, eval b X.env)] := by rfl) :
    PI X tg (.Call (.Name "range" p) [a, b] [] pos) (iRng2 ta) := by
  intro pins s σ H R I h
  refine Call_ (ld_blt I hg hm boot_range (PyProof.Rows.callWith_type1 (thn (ha pos pins s σ H _ I h) fun us s1 ⟨vs, H1, I1, r1, q1⟩ => ?_) (by rw [hs, hs2]) (by rw [hs2]; rfl)))
  obtain ⟨i, j, e, ⟨q1, q2, q3, q4⟩, q⟩ := q1
  subst e
  cases r1 with
  | cons r rr =>
    cases rr with
    | cons r' rr =>
      cases rr
      obtain ⟨t, rfl⟩ := r
      obtain ⟨t', rfl⟩ := r'
      exact call_range_2 (range_it I1 q1 q2 q3 q4 q)
def tFor (wi : TI) (g : TG) (tb : TS) : TS := fun D σ H => wi σ H fun J H1 => ∃ W : Nat → Nat → St → Hp → Prop, (∃ m, W 0 m σ H1) ∧ ∀ i m σ H, W i m σ H →
  (J.stop i H ∧ D.nx σ H) ∨ (J.go i H ∧ ∃ N : St → Hp → Prop, (∀ σ' H', N σ' H' → ∃ m', m' < m ∧ W (i + 1) m' σ' H') ∧ ∀ x H', J.yld i H x H' → g x σ H' fun σ2 H2 => tb { D with nx := N, ct := N, bk := D.nx } σ2 H2)
def pinsAt (fp : List Addr) (h : Heap) : List (Addr × Obj) := fp.filterMap fun b => (h.get? b).map fun o => (b, o)
theorem mem_pinsAt {fp : List Addr} {h : Heap} {b : Addr} {o : Obj} (hb : b ∈ fp) (e : h.get? b = some o) : (b, o) ∈ pinsAt fp h := List.mem_filterMap.mpr ⟨b, hb, by rw [e]; rfl⟩
theorem of_pinsAt {fp : List Addr} {h : Heap} {p : Addr × Obj} (hp : p ∈ pinsAt fp h) : p.1 ∈ fp ∧ h.get? p.1 = some p.2 := by
  obtain ⟨b, hb, e⟩ := List.mem_filterMap.mp hp
  cases q : h.get? b with
  | none => rw [q] at e; cases e
  | some o =>
    rw [q] at e
    have e' : (b, o) = p := Option.some.inj e
    subst e'
    exact ⟨hb, q⟩
theorem Inv.pinned {pins : List (Addr × Obj)} {σ : St} {H : Hp} {s : Shared} {fp : List Addr} (I : Inv X pins σ H s) (hf : ∀ b ∈ fp, FpOk X pins H b) (ho : ∀ b ∈ fp, ∃ o, s.heap.get? b = some o ∧ ∀ v, o.data ≠ .cell v) : Inv X (pins ++ pinsAt fp s.heap) σ H s :=
  I.pins_of fun p hp => (List.mem_append.mp hp).elim (fun z => I.pin p (List.mem_append_right _ z)) fun z => by
    obtain ⟨hb, e⟩ := of_pinsAt z
    obtain ⟨f0, f1, f2, _⟩ := hf p.1 hb
    obtain ⟨o, e', d⟩ := ho p.1 hb
    rw [e] at e'; cases e'
    exact ⟨e, f0, f1, f2, d⟩
theorem Inv.unpinned {pins pl : List (Addr × Obj)} {σ : St} {H : Hp} {s : Shared} (I : Inv X (pins ++ pl) σ H s) : Inv X pins σ H s := I.pins_of fun p hp => I.pin p (List.mem_append_right _ (List.mem_append_left _ hp))
theorem ps_for {iter : Expr} {body : List Stmt} {wi : TI} {g : TG} {tb : TS} {pos : Pos} (hp : PassesOwn (model X.prog X.w) X.A X.env X.xe) (hc : X.calm = true) (hi : PI X tg iter wi) (hg : PG X tg g) (hb : PSs X body tb)
    (hs : ∀ x, foldedSetIterable iter X.env x = pure x := by intro _; rfl) : PS X (.For tg iter body [] pos) (tFor wi g tb) := by
  intro pins s σ H D I h
  refine wpAny_For (thn (hi pins s σ H _ I h) fun v s1 h1 => thn h1 fun itv s2 h2 => ?_) hs
  obtain ⟨it, fp, tn, J, H2, e, I2, T, st2, f2, W, ⟨m0, w0⟩, turn⟩ := h2
  subst e
  have stat : ∀ {H' : Hp}, (∀ b ∈ fp, H' b = none) → ∀ b ∈ fp, FpOk X pins H' b := fun hn b hb => ⟨hn b hb, (f2 b hb).2⟩
  refine codeAny_forLoop_any (fun n s' => ∃ i σ' H', Inv X pins σ' H' s' ∧ tn i s'.heap ∧ (∀ b ∈ fp, H' b = none) ∧ W i n σ' H') ?_ m0 ⟨0, σ, H2, I2, st2, fun b hb => (f2 b hb).1, w0⟩
  rintro n s3 ⟨i, σ3, H3, I3, st3, fr3, w3⟩
  rcases turn i n σ3 H3 w3 with ⟨stop, qn⟩ | ⟨go, N, hN, step⟩
  · refine wpAny_passesOwn hp (thn (T.done X rfl rfl rfl hc i pins s3 σ3 H3 X.xe I3 (stat fr3) st3 stop) fun r s4 ⟨hr, I4⟩ => ?_)
    subst hr
    exact wpAny_execs_nil ⟨σ3, H3, I4, qn⟩
  · refine wpAny_passesOwn hp (thn (T.item X rfl rfl rfl hc i pins s3 σ3 H3 X.xe I3 (stat fr3) st3 go) fun r s4 ⟨u, hr, h4⟩ => ?_)
    subst hr
    refine wpAny_passesOwn hp (thn h4 fun _ s5 ⟨x, H5, I5, r5, y5, st5, fr5⟩ => ?_)
    have I5' := I5.pinned (stat fr5) (T.obj _ _ st5)
    refine wpAny_passesOwn hp (thn (hg _ s5 σ3 H5 x u _ I5' r5 (step x H5 y5)) fun _ s6 ⟨σ6, H6, I6, q6⟩ => ?_)
    refine wpAny_passesOwn hp (thn (hb _ s6 σ6 H6 _ I6 q6) fun f s7 q7 => ?_)
    have again : ∀ {σ7 : St} {H7 : Hp}, Inv X (pins ++ pinsAt fp s5.heap) σ7 H7 s7 → N σ7 H7 → ∃ m, m < n ∧ ∃ i σ' H', Inv X pins σ' H' s7 ∧ tn i s7.heap ∧ (∀ b ∈ fp, H' b = none) ∧ W i m σ' H' := fun {σ7 H7} I7 n7 => by
      obtain ⟨m', hm, w7⟩ := hN σ7 H7 n7
      refine ⟨m', hm, i + 1, σ7, H7, I7.unpinned, T.keep _ _ _ st5 fun b hb o e => (I7.pin (b, o) (List.mem_append_right _ (List.mem_append_right _ (mem_pinsAt hb e)))).1, fun b hb => ?_, w7⟩
      obtain ⟨o, e, d⟩ := T.obj _ _ st5 b hb
      exact (I7.pin (b, o) (List.mem_append_right _ (List.mem_append_right _ (mem_pinsAt hb e)))).2.1
    cases f with
    | next => obtain ⟨σ7, H7, I7, n7⟩ := q7; exact again I7 n7
    | cont => obtain ⟨σ7, H7, I7, n7⟩ := q7; exact again I7 n7
    | brk => obtain ⟨σ7, H7, I7, q7⟩ := q7; exact ⟨σ7, H7, I7.unpinned, q7⟩
    | ret v => obtain ⟨x7, σ7, H7, I7, r7, q7⟩ := q7; exact ⟨x7, σ7, H7, I7.unpinned, r7, q7⟩
end
end L2
namespace L2
open PySem PySem.Spec PyProof.Rows
abbrev R2 := V → V → Hp → VK → Prop
def OpR (X : Cx) (f : Value → Value → Sem Value) (r : R2) : Prop :=
  ∀ (pins : List (Addr × Obj)) (s : Shared) (σ : St) (H : Hp) (x y : V) (v u : Value) (Q : VK), Inv X pins σ H s → RelV x v → RelV y u → r x y H Q →
    wpAny (model X.prog X.w) X.A (f v u) (EP X pins σ Q) X.xe s
def UnR (X : Cx) (f : Value → Sem Value) (r : V → Hp → VK → Prop) : Prop :=
  ∀ (pins : List (Addr × Obj)) (s : Shared) (σ : St) (H : Hp) (x : V) (v : Value) (Q : VK), Inv X pins σ H s → RelV x v → r x H Q →
    wpAny (model X.prog X.w) X.A (f v) (EP X pins σ Q) X.xe s
def CallR (X : Cx) (f : Value) (r : List V → Hp → VK → Prop) : Prop :=
  ∀ (pins : List (Addr × Obj)) (s : Shared) (σ : St) (H : Hp) (xs : List V) (us : List Value) (Q : VK), Inv X pins σ H s → Vals xs us → r xs H Q →
    wpAny (model X.prog X.w) X.A (call f us) (EP X pins σ Q) X.xe s
def TruR (X : Cx) (r : V → Hp → (Bool → Hp → Prop) → Prop) : Prop :=
  ∀ (pins : List (Addr × Obj)) (s : Shared) (σ : St) (H : Hp) (x : V) (v : Value) (Q : Bool → Hp → Prop), Inv X pins σ H s → RelV x v → r x H Q →
    wpAny (model X.prog X.w) X.A (truthy v) (TP X pins σ Q) X.xe s
def tOp (r : R2) (ta tb : TE) : TE := fun σ H Q => ta σ H fun x H1 => tb σ H1 fun y H2 => r x y H2 Q
def tUn (r : V → Hp → VK → Prop) (ta : TE) : TE := fun σ H Q => ta σ H fun x H1 => r x H1 Q
def rI (C : Int → Int → Prop) (g : Int → Int → V) : R2 := fun x y H Q => ∃ i j, x = .int i ∧ y = .int j ∧ C i j ∧ Q (g i j) H
def rI0 (g : Int → Int → V) : R2 := fun x y H Q => ∃ i j, x = .int i ∧ y = .int j ∧ Q (g i j) H
def rU (g : Int → V) : V → Hp → VK → Prop := fun x H Q => ∃ i, x = .int i ∧ Q (g i) H
section
variable {X : Cx} {a b c : Expr} {ta tb tc : TE} {pos : Pos}
theorem binT (ha : PE X a ta) (hb : PE X b tb) {pins : List (Addr × Obj)} {s : Shared} {σ : St} {H : Hp} {R : V → V → Hp → Prop} (I : Inv X pins σ H s)
    (h : ta σ H fun x H1 => tb σ H1 fun y H2 => R x y H2) {Q : Value → Shared → Prop} {f : Value → Value → Sem Value}
    (hf : ∀ v u s2 x y H2, Inv X pins σ H2 s2 → RelV x v → RelV y u → R x y H2 → wpAny (model X.prog X.w) X.A (f v u) Q X.xe s2) :
    wpAny (model X.prog X.w) X.A (eval a X.env) (fun v s₁ => wpAny (model X.prog X.w) X.A (eval b X.env) (fun u s₂ => wpAny (model X.prog X.w) X.A (f v u) Q X.xe s₂) X.xe s₁) X.xe s := by
  refine thn (ha pins s σ H _ I h) fun v s1 ⟨x, H1, I1, r1, q1⟩ => ?_
  refine thn (hb pins s1 σ H1 _ I1 q1) fun u s2 ⟨y, H2, I2, r2, q2⟩ => ?_
  exact hf v u s2 x y H2 I2 r1 r2 q2
theorem pe_op {op : Operator} {r : R2} (ho : OpR X (binaryOp op) r) (ha : PE X a ta) (hb : PE X b tb) : PE X (.BinOp a op b pos) (tOp r ta tb) := by
  intro pins s σ H Q I h
  exact wpAny_BinOp (binT ha hb I h fun v u s2 x y H2 I2 rx ry q => ho pins s2 σ H2 x y v u Q I2 rx ry q)
theorem pe_un {op : UnaryOp} {r : V → Hp → VK → Prop} (ho : UnR X (unaryOp op) r) (ha : PE X a ta) : PE X (.UnaryOp op a pos) (tUn r ta) := by
  intro pins s σ H Q I h
  exact UnaryOp_ (thn (ha pins s σ H _ I h) fun v s1 ⟨x, H1, I1, r1, q1⟩ => ho pins s1 σ H1 x v Q I1 r1 q1)
theorem opI {f : Value → Value → Sem Value} {C : Int → Int → Prop} {g : Int → Int → Int}
    (rule : ∀ (i j : Int) (t u : Tok) (s : Shared) (Q : Value → Shared → Prop) (E : Value → Shared → Prop), C i j → Q (.int (g i j) s.toks) { s with toks := s.toks + 1 } → wpAny (model X.prog X.w) X.A (f (.int i t) (.int j u)) Q E s) :
    OpR X f (rI C fun i j => .int (g i j)) := by
  intro pins s σ H x y v u Q I rx ry h
  obtain ⟨i, j, rfl, rfl, hc, q⟩ := h
  obtain ⟨t, rfl⟩ := rx
  obtain ⟨t', rfl⟩ := ry
  exact rule i j t t' s _ _ hc ⟨.int (g i j), H, I.tok _, ⟨_, rfl⟩, q⟩
theorem opI0 {f : Value → Value → Sem Value} {g : Int → Int → Int}
    (rule : ∀ (i j : Int) (t u : Tok) (s : Shared) (Q : Value → Shared → Prop) (E : Value → Shared → Prop), Q (.int (g i j) s.toks) { s with toks := s.toks + 1 } → wpAny (model X.prog X.w) X.A (f (.int i t) (.int j u)) Q E s) :
    OpR X f (rI0 fun i j => .int (g i j)) := by
  intro pins s σ H x y v u Q I rx ry h
  obtain ⟨i, j, rfl, rfl, q⟩ := h
  obtain ⟨t, rfl⟩ := rx
  obtain ⟨t', rfl⟩ := ry
  exact rule i j t t' s _ _ ⟨.int (g i j), H, I.tok _, ⟨_, rfl⟩, q⟩
theorem opB0 {f : Value → Value → Sem Value} {g : Int → Int → Bool}
    (rule : ∀ (i j : Int) (t u : Tok) (s : Shared) (Q : Value → Shared → Prop) (E : Value → Shared → Prop), Q (.bool (g i j)) s → wpAny (model X.prog X.w) X.A (f (.int i t) (.int j u)) Q E s) :
    OpR X f (rI0 fun i j => .bl (g i j)) := by
  intro pins s σ H x y v u Q I rx ry h
  obtain ⟨i, j, rfl, rfl, q⟩ := h
  obtain ⟨t, rfl⟩ := rx
  obtain ⟨t', rfl⟩ := ry
  exact rule i j t t' s _ _ ⟨.bl (g i j), H, I, rfl, q⟩
def CDiv (i j : Int) : Prop := 0 < j ∧ j < 1073741824
def CDivN (i j : Int) : Prop := j ≠ 0 ∧ j.natAbs < 1073741824
def CPow (i j : Int) : Prop := 0 ≤ j ∧ j ≤ 1000000 ∧ i.natAbs < 2 ^ 64
def CMul (i j : Int) : Prop := (-(2 ^ 64) < i ∧ i < 2 ^ 64) ∨ (-(2 ^ 64) < j ∧ j < 2 ^ 64)
theorem CMul.ok {i j : Int} (h : CMul i j) : IntMulOk i j := by
  rcases h with ⟨h1, h2⟩ | ⟨h1, h2⟩
  · exact .of_left (intBits_le_64 h1 h2)
  · exact .of_right (intBits_le_64 h1 h2)
theorem op_add : OpR X (binaryOp .Add) (rI0 fun i j => .int (i + j)) := opI0 fun _ _ _ _ _ _ _ q => add_int q
theorem op_sub : OpR X (binaryOp .Sub) (rI0 fun i j => .int (i - j)) := opI0 fun _ _ _ _ _ _ _ q => sub_int q
theorem op_mul : OpR X (binaryOp .Mult) (rI CMul fun i j => .int (i * j)) := opI fun _ _ _ _ _ _ _ hc q => mul_int q hc.ok
theorem op_fdivN : OpR X (binaryOp .FloorDiv) (rI CDivN fun i j => .int (i.fdiv j)) := opI fun _ _ _ _ _ _ _ hc q => floordiv_int hc.1 q (.inl (PyProof.noPylong_small hc.2))
theorem op_modN : OpR X (binaryOp .Mod) (rI (fun _ j => j ≠ 0) fun i j => .int (i.fmod j)) := opI fun _ _ _ _ _ _ _ hc q => mod_int' hc q
theorem op_pow : OpR X (binaryOp .Pow) (rI CPow fun i j => .int (i ^ j.toNat)) := opI fun _ _ _ _ _ _ _ hc q => pow_int_small hc.1 hc.2.1 hc.2.2 q
theorem unI {f : Value → Sem Value} {g : Int → Int}
    (rule : ∀ (i : Int) (t : Tok) (s : Shared) (Q : Value → Shared → Prop) (E : Value → Shared → Prop), Q (.int (g i) s.toks) { s with toks := s.toks + 1 } → wpAny (model X.prog X.w) X.A (f (.int i t)) Q E s) :
    UnR X f (rU fun i => .int (g i)) := by
  intro pins s σ H x v Q I rx h
  obtain ⟨i, rfl, q⟩ := h
  obtain ⟨t, rfl⟩ := rx
  exact rule i t s _ _ ⟨.int (g i), H, I.tok _, ⟨_, rfl⟩, q⟩
theorem un_neg : UnR X (unaryOp .USub) (rU fun i => .int (-i)) := unI fun _ _ _ _ _ q => neg_int q
end
def scal : V → V → Bool
  | .non, .non => true | .non, .int _ => true | .int _, .non => true | .non, .bl _ => true | .bl _, .non => true | .non, .str _ => true | .str _, .non => true
  | .int _, .int _ => true | .bl _, .bl _ => true | .str _, .str _ => true | .byt _, .byt _ => true
  | .int _, .str _ => true | .str _, .int _ => true | .bl _, .str _ => true | .str _, .bl _ => true
  | _, _ => false
def rEq : R2 := fun x y H Q => scal x y = true ∧ Q (.bl (decide (x = y))) H
def rNe : R2 := fun x y H Q => scal x y = true ∧ Q (.bl (!decide (x = y))) H
theorem dec_int {i j : Int} : decide (V.int i = V.int j) = (i == j) := by
  rw [Bool.eq_iff_iff]
  simp
theorem dec_bl {i j : Bool} : decide (V.bl i = V.bl j) = (i == j) := by
  rw [Bool.eq_iff_iff]
  simp
theorem dec_str {i j : Str} : decide (V.str i = V.str j) = (i == j) := by
  rw [Bool.eq_iff_iff]
  simp
theorem dec_byt {i j : Array UInt8} : decide (V.byt i = V.byt j) = (i.toList == j.toList) := by
  rw [Bool.eq_iff_iff]
  cases i
  cases j
  simp
section
variable {X : Cx} {a b c : Expr} {ta tb tc : TE} {pos : Pos}
theorem fin_bl {pins : List (Addr × Obj)} {σ : St} {H : Hp} {s : Shared} {Q : VK} {k k' : Bool} (I : Inv X pins σ H s) (q : Q (.bl k) H) (e : k = k') : EP X pins σ Q (.bool k') s := by
  subst e
  exact ⟨.bl k, H, I, rfl, q⟩
theorem op_eq : OpR X (compareOp .Eq) rEq := by
  intro pins s σ H x y v u Q I rx ry h
  obtain ⟨hs, q⟩ := h
  cases x with
  | non =>
    cases rx
    cases y with
    | non => cases ry; exact PySem.EqNone.eq_none_none (fin_bl I q (by simp))
    | bl j => cases ry; exact PySem.EqNone.eq_none_bool (fin_bl I q (by simp))
    | int j => obtain ⟨t', rfl⟩ := ry; exact PySem.EqNone.eq_none_int (fin_bl I q (by simp))
    | str j => obtain ⟨t', rfl⟩ := ry; exact PySem.EqNone.eq_none_str (fin_bl I q (by simp))
    | _ => exact absurd (show false = true from hs) Bool.false_ne_true
  | bl i =>
    cases rx
    cases y with
    | non => cases ry; exact PySem.EqNone.eq_bool_none (fin_bl I q (by simp))
    | bl j => cases ry; exact eq_bool (fin_bl I q dec_bl)
    | str j => obtain ⟨t', rfl⟩ := ry; exact PySem.EqMixed.eq_bool_str (fin_bl I q (by simp))
    | _ => exact absurd (show false = true from hs) Bool.false_ne_true
  | int i =>
    obtain ⟨t, rfl⟩ := rx
    cases y with
    | non => cases ry; exact PySem.EqNone.eq_int_none (fin_bl I q (by simp))
    | int j => obtain ⟨t', rfl⟩ := ry; exact eq_int (fin_bl I q dec_int)
    | str j => obtain ⟨t', rfl⟩ := ry; exact PySem.EqMixed.eq_int_str (fin_bl I q (by simp))
    | _ => exact absurd (show false = true from hs) Bool.false_ne_true
  | str i =>
    obtain ⟨t, rfl⟩ := rx
    cases y with
    | non => cases ry; exact PySem.EqNone.eq_str_none (fin_bl I q (by simp))
    | bl j => cases ry; exact PySem.EqMixed.eq_str_bool (fin_bl I q (by simp))
    | int j => obtain ⟨t', rfl⟩ := ry; exact PySem.EqMixed.eq_str_int (fin_bl I q (by simp))
    | str j => obtain ⟨t', rfl⟩ := ry; exact eq_str (fin_bl I q dec_str)
    | _ => exact absurd (show false = true from hs) Bool.false_ne_true
  | byt i =>
    obtain ⟨t, rfl⟩ := rx
    cases y with
    | byt j => obtain ⟨t', rfl⟩ := ry; exact PySem.W.eq_bytes (fin_bl I q dec_byt)
    | _ => exact absurd (show false = true from hs) Bool.false_ne_true
  | _ => cases y <;> exact absurd (show false = true from hs) Bool.false_ne_true
theorem op_ne : OpR X (compareOp .NotEq) rNe := by
  intro pins s σ H x y v u Q I rx ry h
  obtain ⟨hs, q⟩ := h
  cases x with
  | non =>
    cases rx
    cases y with
    | non => cases ry; exact PySem.EqNone.ne_none_none (fin_bl I q (by simp))
    | bl j => cases ry; exact PySem.EqNone.ne_none_bool (fin_bl I q (by simp))
    | int j => obtain ⟨t', rfl⟩ := ry; exact PySem.EqNone.ne_none_int (fin_bl I q (by simp))
    | str j => obtain ⟨t', rfl⟩ := ry; exact PySem.EqNone.ne_none_str (fin_bl I q (by simp))
    | _ => exact absurd (show false = true from hs) Bool.false_ne_true
  | bl i =>
    cases rx
    cases y with
    | non => cases ry; exact PySem.EqNone.ne_bool_none (fin_bl I q (by simp))
    | bl j => cases ry; exact ne_bool (fin_bl I q (congrArg not dec_bl))
    | str j => obtain ⟨t', rfl⟩ := ry; exact PySem.EqMixed.ne_bool_str (fin_bl I q (by simp))
    | _ => exact absurd (show false = true from hs) Bool.false_ne_true
  | int i =>
    obtain ⟨t, rfl⟩ := rx
    cases y with
    | non => cases ry; exact PySem.EqNone.ne_int_none (fin_bl I q (by simp))
    | int j => obtain ⟨t', rfl⟩ := ry; exact ne_int (fin_bl I q (congrArg not dec_int))
    | str j => obtain ⟨t', rfl⟩ := ry; exact PySem.EqMixed.ne_int_str (fin_bl I q (by simp))
    | _ => exact absurd (show false = true from hs) Bool.false_ne_true
  | str i =>
    obtain ⟨t, rfl⟩ := rx
    cases y with
    | non => cases ry; exact PySem.EqNone.ne_str_none (fin_bl I q (by simp))
    | bl j => cases ry; exact PySem.EqMixed.ne_str_bool (fin_bl I q (by simp))
    | int j => obtain ⟨t', rfl⟩ := ry; exact PySem.EqMixed.ne_str_int (fin_bl I q (by simp))
    | str j => obtain ⟨t', rfl⟩ := ry; exact ne_str (fin_bl I q (congrArg not dec_str))
    | _ => exact absurd (show false = true from hs) Bool.false_ne_true
  | byt i =>
    obtain ⟨t, rfl⟩ := rx
    cases y with
    | byt j => obtain ⟨t', rfl⟩ := ry; exact PySem.W.ne_bytes (fin_bl I q (congrArg not dec_byt))
    | _ => exact absurd (show false = true from hs) Bool.false_ne_true
  | _ => cases y <;> exact absurd (show false = true from hs) Bool.false_ne_true
theorem op_lt : OpR X (compareOp .Lt) (rI0 fun i j => .bl (decide (i < j))) := opB0 fun _ _ _ _ _ _ _ q => lt_int q
theorem op_le : OpR X (compareOp .LtE) (rI0 fun i j => .bl (decide (i ≤ j))) := opB0 fun _ _ _ _ _ _ _ q => le_int q
theorem op_gt : OpR X (compareOp .Gt) (rI0 fun i j => .bl (decide (j < i))) := opB0 fun _ _ _ _ _ _ _ q => gt_int q
def isObj : HO → Bool
  | .lst _ => true
  | .ins _ _ _ => true
  | _ => false
theorem OpR.or {f : Value → Value → Sem Value} {r r' : R2} (h : OpR X f r) (h' : OpR X f r') : OpR X f (fun x y H Q => r x y H Q ∨ r' x y H Q) := by
  intro pins s σ H x y v u Q I rx ry q
  rcases q with q | q
  · exact h pins s σ H x y v u Q I rx ry q
  · exact h' pins s σ H x y v u Q I rx ry q
theorem nomark (b : Expr) {op : CmpOp} (h : op ≠ .In := by decide) (h2 : op ≠ .NotIn := by decide) : behindInMarks op b = false := by
  have e1 : (op == CmpOp.In) = false := by cases op <;> first | rfl | exact absurd rfl h
  have e2 : (op == CmpOp.NotIn) = false := by cases op <;> first | rfl | exact absurd rfl h2
  cases b <;> simp [behindInMarks, e1, e2]
theorem pe_cmpR {op : CmpOp} {r : R2} (ho : OpR X (compareOp op) r) (ha : PE X a ta) (hb : PE X b tb) (hm : behindInMarks op b = false) : PE X (.Compare a [op] [b] pos) (tOp r ta tb) := by
  intro pins s σ H Q I h
  exact wpAny_Compare1 (binT ha hb I h fun v u s2 x y H2 I2 rx ry q => ho pins s2 σ H2 x y v u Q I2 rx ry q) hm
def tTest (t : TE) : TT := fun σ H Q => t σ H fun x H' => ∃ k, x = .bl k ∧ Q k H'
theorem pt_cmpR {op : CmpOp} {r : R2} (ho : OpR X (compareOp op) r) (ha : PE X a ta) (hb : PE X b tb) (hm : behindInMarks op b = false) : PT X (.Compare a [op] [b] pos) (tTest (tOp r ta tb)) := by
  intro pins s σ H Q I h
  refine wpAny_isTrue_Compare1 (thn (ha pins s σ H _ I h) fun v s1 ⟨x, H1, I1, r1, q1⟩ => thn (hb pins s1 σ H1 _ I1 q1) fun u s2 ⟨y, H2, I2, r2, q2⟩ =>
    thn (ho pins s2 σ H2 x y v u _ I2 r1 r2 q2) fun c s3 ⟨z, H3, I3, r3, k, e, q3⟩ => ?_) hm
  subst e
  cases r3
  exact wpAny_truthy_bool ⟨H3, I3, q3⟩
def tChain (r r' : R2) (ta tb tc : TE) : TE := fun σ H Q => ta σ H fun x H1 => tb σ H1 fun y H2 => r x y H2 fun z H3 => ∃ k, z = .bl k ∧
  (if k = true then tc σ H3 fun w' H4 => r' y w' H4 Q else Q (.bl false) H3)
theorem pe_chain {op op' : CmpOp} {r r' : R2} (ho : OpR X (compareOp op) r) (ho' : OpR X (compareOp op') r') (ha : PE X a ta) (hb : PE X b tb) (hc : PE X c tc)
    (hm : lastMarks [op, op'] [b, c] = false := by with_unfolding_all rfl) : PE X (.Compare a [op, op'] [b, c] pos) (tChain r r' ta tb tc) := by
  intro pins s σ H Q I h
  refine Compare_chain (thn (ha pins s σ H _ I h) fun v s1 ⟨x, H1, I1, r1, q1⟩ => chain_link (thn (hb pins s1 σ H1 _ I1 q1) fun u s2 ⟨y, H2, I2, r2, q2⟩ =>
    thn (ho pins s2 σ H2 x y v u _ I2 r1 r2 q2) fun d s3 ⟨z, H3, I3, r3, k, e, q3⟩ => ?_)) hm
  subst e
  cases r3
  refine wpAny_truthy_bool ?_
  cases k with
  | false => exact ite_ff ⟨.bl false, H3, I3, rfl, q3⟩
  | true => exact ite_tt (chain_last (thn (hc pins s3 σ H3 _ I3 q3) fun w' s4 ⟨z', H4, I4, r4, q4⟩ => ho' pins s4 σ H4 y z' u w' Q I4 r2 r4 q4))
def TruV (K : PySem.W.Frag) (x : V) (H : Hp) (k : Bool) : Prop :=
  match x with
  | .non => k = false
  | .bl b => k = b
  | .int i => k = (i != 0)
  | .str y => y.length ≤ sizeLine ∧ k = ((y.length : Int) != 0)
  | .byt y => y.size ≤ sizeLine ∧ k = ((y.size : Int) != 0)
  | .ref p => (∃ xs, SqL K H p xs ∧ k = !xs.isEmpty) ∨ (∃ xs, SqT K H p xs ∧ k = !xs.isEmpty) ∨ ∃ kvs, H p = some (.dK kvs) ∧ k = !kvs.isEmpty
  | _ => False
theorem isEmpty_kv {κ : Type} {kvs : List (κ × V)} {vs : List (κ × Value)} (r : KV kvs vs) : (!vs.isEmpty) = !kvs.isEmpty := by
  cases r <;> rfl
theorem isEmpty_of {xs : List V} {its : List Value} (r : Vals xs its) : (!its.toArray.isEmpty) = !xs.isEmpty := by
  cases r <;> simp
theorem line63 : (sizeLine : Nat) < 2 ^ 63 := by rw [sizeLine_eq]; decide
theorem tru_ok : TruR X (fun x H Q => ∃ k, TruV X.K x H k ∧ Q k H) := by
  intro pins s σ H x v Q I rx h
  obtain ⟨k, e, q⟩ := h
  have hl := line63
  have hs : sizeLine = 16777216 := sizeLine_eq
  cases x with
  | non =>
    cases rx
    have e' : k = false := e
    subst e'
    exact truthy_none ⟨H, I, q⟩
  | bl b =>
    cases rx
    have e' : k = b := e
    subst e'
    exact wpAny_truthy_bool ⟨H, I, q⟩
  | int i =>
    obtain ⟨t, rfl⟩ := rx
    have e' : k = (i != 0) := e
    subst e'
    exact PySem.P.truthy_int ⟨H, I, q⟩
  | str y =>
    obtain ⟨t, rfl⟩ := rx
    obtain ⟨hy, e'⟩ : y.length ≤ sizeLine ∧ k = ((y.length : Int) != 0) := e
    subst e'
    exact PySem.P.truthy_str (by omega) ⟨H, I.tok _, q⟩
  | byt y =>
    obtain ⟨t, rfl⟩ := rx
    obtain ⟨hy, e'⟩ : y.size ≤ sizeLine ∧ k = ((y.size : Int) != 0) := e
    subst e'
    exact PySem.W.truthy_bytes (by omega) ⟨H, I.tok _, q⟩
  | ref p =>
    cases rx
    have e' : (∃ xs, SqL X.K H p xs ∧ k = !xs.isEmpty) ∨ (∃ xs, SqT X.K H p xs ∧ k = !xs.isEmpty) ∨ ∃ kvs, H p = some (.dK kvs) ∧ k = !kvs.isEmpty := e
    rcases e' with ⟨xs, hx, e'⟩ | ⟨xs, hx, e'⟩ | ⟨kvs, hx, e'⟩
    · subst e'
      obtain ⟨its, r, pl, hz⟩ := I.list hx
      have hlen := r.length
      exact wpAny_truthy_list pl.isList (by simp only [List.size_toArray]; omega) ⟨H, I.tok _, by rw [isEmpty_of r]; exact q⟩
    · subst e'
      obtain ⟨its, r, pl, hz⟩ := I.tuple hx
      have hlen := r.length
      exact truthy_tuple pl (by simp only [List.size_toArray]; omega) ⟨H, I.tok _, by rw [isEmpty_of r]; exact q⟩
    · subst e'
      obtain ⟨hz, hS, vs, r, m⟩ : kvs.length ≤ sizeLine ∧ (p == sysModules) = false ∧ ∃ vs, KV kvs vs ∧ s.heap.DictOf (mixKind X.prog X.w) p vs := I.hok p _ hx
      have hlen : kvs.length = vs.length := Paired.length r
      exact wpAny_truthy_dict hS m (by omega) ⟨H, I.tok _, by rw [isEmpty_kv r]; exact q⟩
  | _ => exact (show False from e).elim
theorem pt_truth (ha : PE X a ta) (he : ∀ whole, isTrue a X.env whole = (do let v ← whole; standAt a.pos; holding [v] (truthy v))) :
    PT X a (fun σ H Q => ta σ H fun x H' => ∃ k, TruV X.K x H' k ∧ Q k H') := by
  intro pins s σ H Q I h
  exact isTrue_plain (thn (ha pins s σ H _ I h) fun v s1 ⟨x, H1, I1, r1, q1⟩ => tru_ok pins s1 σ H1 x v Q I1 r1 q1) (he _)
def PlainIxT (b : Expr) : Prop := ∀ o i, subscripted b false o i = operate [o, i] (getItem o i)
theorem vals1 {x : V} {us : List Value} (r : Vals [x] us) : ∃ u, us = [u] ∧ RelV x u := by
  cases r with
  | cons r1 r2 => cases r2; exact ⟨_, rfl, r1⟩
theorem vals2 {x y : V} {us : List Value} (r : Vals [x, y] us) : ∃ u w', us = [u, w'] ∧ RelV x u ∧ RelV y w' := by
  cases r with
  | cons r1 r2 =>
    cases r2 with
    | cons r3 r4 => cases r4; exact ⟨_, _, rfl, r1, r3⟩
theorem call_abs : CallR X (.builtin "abs") (fun xs H Q => ∃ i, xs = [.int i] ∧ Q (.int (if i < 0 then -i else i)) H) := by
  intro pins s σ H xs us Q I r h
  obtain ⟨i, rfl, q⟩ := h
  obtain ⟨u, rfl, t, rfl⟩ := vals1 r
  exact call_abs_int fun u tk => ⟨.int (if i < 0 then -i else i), H, I.tok _, ⟨_, rfl⟩, q⟩
theorem call_int1 : CallR X (.type "int") (fun xs H Q => (∃ i, xs = [.int i] ∧ Q (.int i) H) ∨ ∃ k, xs = [.bl k] ∧ Q (.int (if k then 1 else 0)) H) := by
  intro pins s σ H xs us Q I r h
  rcases h with ⟨i, rfl, q⟩ | ⟨k, rfl, q⟩
  · obtain ⟨u, rfl, t, rfl⟩ := vals1 r
    exact call_int_int ⟨.int i, H, I, ⟨_, rfl⟩, q⟩
  · obtain ⟨u, rfl, r1⟩ := vals1 r
    cases r1
    exact call_int_bool ⟨.int (if k then 1 else 0), H, I.tok _, ⟨_, rfl⟩, q⟩
def LenV (K : PySem.W.Frag) (x : V) (H : Hp) (n : Nat) : Prop :=
  match x with
  | .str y => y.length ≤ sizeLine ∧ n = y.length
  | .byt y => y.size ≤ sizeLine ∧ n = y.size
  | .ref p => (∃ xs, SqL K H p xs ∧ n = xs.length) ∨ ∃ xs, SqT K H p xs ∧ n = xs.length
  | _ => False
end
end L2
namespace L2
open PySem PySem.Spec PyProof.Rows
structure ObjM (h : Heap) (x dx C : Addr) (mA : Str → Option Value) : Prop where
  obj : h.get? x = some (PySem.W.instObj C dx)
  ns : h.Ns1 dx mA
  ne : dx ≠ x
theorem lookIn_ns {h : Heap} {dx : Addr} {mA : Str → Option Value} (n : h.Ns1 dx mA) : ∃ od, h.get? dx = some od ∧ ∀ name, PySem.W.lookIn name od = some (mA name) := by
  obtain ⟨o, es, ep, ho, hd, hk, _, hm⟩ := n
  refine ⟨o, ho, fun name => ?_⟩
  have e := hm name
  unfold nsFind findBy at e
  rw [← Array.find?_toList] at e
  unfold PySem.W.lookIn
  rw [hd]
  dsimp only
  split
  · rename_i y q
    rw [q] at e
    exact congrArg some e
  · rename_i q
    rw [q] at e
    have a : es.toList.any (·.refKey) = false := by
      rw [List.any_eq_false]
      intro y hy
      obtain ⟨z, t, hkey⟩ := hk y (Array.mem_toList_iff.mp hy)
      simp [DictEntry.refKey, hkey]
    have a' : ¬ es.toList.any (·.refKey) = true := by rw [a]; exact Bool.false_ne_true
    rw [if_neg a']
    exact congrArg some e
theorem ObjM.look {h : Heap} {x dx C : Addr} {mA : Str → Option Value} (I : ObjM h x dx C mA) : ∃ od, PySem.W.InstAt h x (PySem.W.instObj C dx) C (some od) ∧ ∀ name, PySem.W.lookIn name od = some (mA name) :=
  let ⟨od, ho, hl⟩ := lookIn_ns I.ns
  ⟨od, ⟨I.obj, rfl, rfl, ho⟩, hl⟩
section
variable {prog : Program} {w : World} {A : Around} {E : Value → Shared → Prop} {s : Shared} {K : PySem.W.Frag} {x dx C f : Addr} {mA : Str → Option Value} {name : Str} {v : Value}
theorem set_map {ns : List Str} {Q : Unit → Shared → Prop} (X : K.In s.heap) (I : ObjM s.heap x dx C mA)
    (hs : PySem.W.findIn K (.ref C) "__setattr__" = some (some (.builtin "object.__setattr__"))) (hp : PySem.W.plainOver K C = true) (ht : PySem.W.takerIn K C name = some none) (hh : PySem.W.hasDictIn K C = true)
    (hw : PySem.Within mA ns) (hsz : ns.length ≤ sizeLine)
    (h : ∀ h', ObjM h' x dx C (fun y => if y = name then some v else mA y) → Heap.SameBut dx s.heap h' → Q () { s with heap := h', toks := s.toks + 2 }) :
    wpAny (model prog w) A (setAttr (.ref x) name v) Q E s := by
  obtain ⟨od, J, hl⟩ := I.look
  refine PySem.W.set_plain X J hs (PySem.W.osa_open (s := { s with toks := s.toks + 1 }) (r := none) X J hp ht fun b => ?_)
  obtain ⟨cd, hc, hd'⟩ := PySem.W.any_some hh
  have hx : s.heap.get? x = some ⟨.ref C, some dx, .plain, #[]⟩ := I.obj
  refine wpAny_bind (wpAny_pure (wpAny_bind (wpAny_bind (wpAny_loadPart hx (wpAny_bind (PySem.W.Looks.here (s := { s with toks := s.toks + 1 }) (PySem.W.looks_clsIn X hc) ?_))))))
  rw [hd']
  refine wpAny_pure (a := some dx) (wpAny_bind (wpAny_pure (wpAny_bind ?_)))
  refine wpAny_nsSet1 (s := { s with toks := s.toks + 1 }) I.ns fun h' hn2 hs2 => ?_
  obtain ⟨oD, esD, epD, hoD, hdD, hcD⟩ := hn2.count (PySem.Within.cons name v hw)
  refine wpAny_bind (wpAny_lookBehind hoD (by rw [hdD]; exact pastItsLine_dict (Nat.le_trans hcD (by rw [List.length_cons]; omega))) ?_)
  exact wpAny_pure (h _ ⟨(hs2.2 _ (Ne.symm I.ne)).trans I.obj, hn2, I.ne⟩ hs2)
end
def putF (f : Str) (v : V) : List (Str × V) → List (Str × V)
  | [] => [(f, v)]
  | (g, x) :: r => if g = f then (g, v) :: r else (g, x) :: putF f v r
section
variable {P : Program} {w : World} {H H' : Hp} {h h' : Heap} {a C dx : Addr} {fs fs' : List (Str × V)}
end
structure Cls (K : PySem.W.Frag) (C : Addr) : Prop where
  pg : PySem.W.plainGet K C Str.empty = true
  hd : PySem.W.hasDictIn K C = true
  po : PySem.W.plainOver K C = true
  sa : PySem.W.findIn K (.ref C) "__setattr__" = some (some (.builtin "object.__setattr__"))
theorem Cls.get {K : PySem.W.Frag} {C : Addr} (c : Cls K C) (f : Str) : PySem.W.plainGet K C f = true := c.pg
def NoAttr (K : PySem.W.Frag) (C : Addr) (f : Str) : Prop := PySem.W.findIn K (.ref C) f = some none
structure Con (K : PySem.W.Frag) (C : Addr) (f : Str) (v : V) (u : Value) : Prop where
  at_ : PySem.W.findIn K (.ref C) f = some (some u)
  rel : RelV v u
  get : PySem.W.specialIn K u "__get__" = some none
  cp : PySem.W.copiedNames.contains f = false
structure Meth (K : PySem.W.Frag) (C : Addr) (m : Str) (f : Addr) : Prop where
  at_ : PySem.W.findIn K (.ref C) m = some (some (.ref f))
  fn : PySem.W.isFn K (.ref f) = true
  kp : PySem.W.keepIn K (.ref f) = true
section
variable {X : Cx} {pins : List (Addr × Obj)} {σ : St} {H : Hp} {s : Shared} {a C dx : Addr} {fs : List (Str × V)} {f : Str} {v : V} {A : Around} {E : Value → Shared → Prop}
end
def tFld (K : PySem.W.Frag) (ta : TE) (f : Str) : TE := fun σ H Q => ta σ H fun x H1 => ∃ a C dx fs v, x = .ref a ∧ H1 a = some (.ins C dx fs) ∧ Cls K C ∧ NoAttr K C f ∧ fs.lookup f = some v ∧ Q v H1
def tCon (K : PySem.W.Frag) (ta : TE) (f : Str) : TE := fun σ H Q => ta σ H fun x H1 => ∃ a C dx fs v u, x = .ref a ∧ H1 a = some (.ins C dx fs) ∧ Cls K C ∧ Con K C f v u ∧ fs.lookup f = none ∧ Q v H1
def sFld (K : PySem.W.Frag) (ta tv : TE) (f : Str) : TS := fun D σ H => tv σ H fun y H1 => ta σ H1 fun x H2 => ∃ a C dx fs, x = .ref a ∧ H2 a = some (.ins C dx fs) ∧ Cls K C ∧ NoAttr K C f ∧ fs.length < 1000 ∧
  D.nx σ (upd H2 a (.ins C dx (putF f y fs)))
def InOp (X : Cx) (op : Operator) (rd : V → V → Hp → VK → Prop) : Prop :=
  ∀ (pins : List (Addr × Obj)) (s : Shared) (σ : St) (H : Hp) (x y : V) (u v : Value) (Q : VK), Inv X pins σ H s → RelV x u → RelV y v → rd x y H Q → wpAny (model X.prog X.w) X.A (inplaceOp op u v) (EP X pins σ Q) X.xe s
def sFldAug (K : PySem.W.Frag) (ta tv : TE) (rd : V → V → Hp → VK → Prop) (f : Str) : TS := fun D σ H => ta σ H fun x H1 => ∃ a C dx fs v, x = .ref a ∧ H1 a = some (.ins C dx fs) ∧ Cls K C ∧ NoAttr K C f ∧ fs.lookup f = some v ∧
  tv σ H1 fun y H2 => rd v y H2 fun z H3 => ∃ dx' fs', H3 a = some (.ins C dx' fs') ∧ fs'.length < 1000 ∧ D.nx σ (upd H3 a (.ins C dx' (putF f z fs')))
section
variable {X : Cx} {o e value : Expr} {f : Str} {pos pos' tpos : Pos} {ta tv : TE}
def rAdd : V → V → Hp → VK → Prop := fun x y H Q => ∃ i j, x = .int i ∧ y = .int j ∧ Q (.int (i + j)) H
def rSub : V → V → Hp → VK → Prop := fun x y H Q => ∃ i j, x = .int i ∧ y = .int j ∧ Q (.int (i - j)) H
end
section
variable {X : Cx} {pins : List (Addr × Obj)} {σ : St} {H : Hp} {s : Shared} {A : Around} {E : Value → Shared → Prop} {Q : Value → Shared → Prop} {c : Value} {b : Bool}
inductive TyOf (K : PySem.W.Frag) (H : Hp) : V → Value → Prop where
  | non : TyOf K H .non (.type "NoneType")
  | bl (x : Bool) : TyOf K H (.bl x) (.type "bool")
  | int (i : Int) : TyOf K H (.int i) (.type "int")
  | str (x : Str) : TyOf K H (.str x) (.type "str")
  | flt (x : UInt64) : TyOf K H (.flt x) (.type "float")
  | lst {a : Addr} {xs : List V} (e : H a = some (.lst xs)) : TyOf K H (.ref a) (.type "list")
  | frz {a : Addr} {o : Obj} {xs : List V} (e : H a = some (.frz o (.lst xs))) : TyOf K H (.ref a) (.type "list")
  | tup {a : Addr} {xs : List V} (e : H a = some (.tup xs)) : TyOf K H (.ref a) (.type "tuple")
  | dK {a : Addr} {kvs : List (Key × V)} (e : H a = some (.dK kvs)) : TyOf K H (.ref a) (.type "dict")
  | dT {a : Addr} {kvs : List (List Key × V)} (e : H a = some (.dT kvs)) : TyOf K H (.ref a) (.type "dict")
  | ins {a C dx : Addr} {fs : List (Str × V)} (e : H a = some (.ins C dx fs)) (cl : Cls K C) (ha : PySem.W.findIn K (.ref C) "__class__" = some (some (.builtin "object.__class__")))
      (hn : PySem.W.specialIn K (.builtin "object.__class__") "__get__" = some (some (.builtin "getset_descriptor.__get__"))) (htk : PySem.W.takesIn K (.builtin "object.__class__") = some true)
      (hm : PySem.W.mroIn K C (.type "object") = some true) : TyOf K H (.ref a) (.ref C)
end
end L2
namespace L2
open PySem PySem.Spec PyProof.Rows
structure Room (k : Nat) (A : Around) : Prop where
  hd : A.handled = none
  dp : A.depth + 3 * k + 5 < recursionLimit
  un : A.units + 16 * k + 200 < cLine
  gd : A.guards = some []
theorem Room.mono {j k : Nat} {A : Around} (r : Room k A) (h : j ≤ k) : Room j A := ⟨r.hd, by have := r.dp; omega, by have := r.un; omega, r.gd⟩
theorem Room.deeper {k : Nat} {A : Around} (r : Room (k + 1) A) (env : Env) : Room k (A.deeper env) :=
  ⟨r.hd, by have := r.dp; show A.depth + 1 + 3 * k + 5 < _; omega, by have := r.un; show A.units + 3 + 16 * k + 200 < _; omega, by exact r.gd⟩
theorem Room.in1 {k : Nat} {A : Around} (r : Room (k + 1) A) : Room k A.in1 :=
  ⟨r.hd, by have := r.dp; show A.depth + 3 * k + 5 < _; omega, by have := r.un; show A.units + 1 + 16 * k + 200 < _; omega, by exact r.gd⟩
theorem Room.depth {k : Nat} {A : Around} (r : Room k A) : A.depth < recursionLimit := by have := r.dp; omega
theorem Room.units {k : Nat} {A : Around} (r : Room k A) : A.units + 64 < cLine := by have := r.un; omega
def tNil : TA := fun _ H Q => Q [] H
def tCons (ta : TE) (tr : TA) : TA := fun σ H Q => ta σ H fun x H1 => tr σ H1 fun xs H2 => Q (x :: xs) H2
section
variable {X : Cx} {e : Expr} {es : List Expr} {te : TE} {t : TA} {pos : Pos}
theorem pa_nil : PA X [] tNil := fun _ _ _ _ H Q I h => Calls.spliced_nil ⟨[], H, I, .nil, h⟩
theorem pa_cons (ha : PE X e te) (hr : PA X es t) (hs : starEach (e :: es) X.env = (false, eval e X.env) :: starEach es X.env := by rfl) : PA X (e :: es) (tCons te t) := by
  intro pos pins s σ H Q I h
  rw [hs]
  show wpAny _ _ (spliced ((false, eval e X.env) :: backTo pos (starEach es X.env))) _ _ s
  refine Calls.spliced_cons (thn (ha pins s σ H _ I h) fun u s1 ⟨x, H1, I1, r1, q1⟩ => ?_)
  exact thn (hr pos pins s1 σ H1 _ I1 q1) fun us s2 ⟨xs, H2, I2, r2, q2⟩ => ⟨x :: xs, H2, I2, .cons r1 r2, q2⟩
def tTup (t : TA) : TE := fun σ H Q => t σ H fun xs H1 => xs.length ≤ sizeLine ∧ ∀ p, H1 p = none → Q (.ref p) (upd H1 p (.tup xs))
def tLst (t : TA) : TE := fun σ H Q => t σ H fun xs H1 => xs.length ≤ sizeLine ∧ ∀ p, H1 p = none → Q (.ref p) (upd H1 p (.lst xs))
theorem pe_tup {x1} (h : PA X es t) : PE X (.Tuple es x1 pos) (tTup t) := by
  intro pins s σ H Q I hq
  refine wpAny_Tuple_spliced (thn (h pos pins s σ H _ I hq) fun us s1 ⟨xs, H1, I1, r, z, q⟩ => ⟨by rw [← r.length]; exact z, ?_⟩)
  have hf : H1 s1.heap.objs.size = none := I1.hok.fresh (Nat.le_refl _)
  refine ⟨.ref s1.heap.objs.size, upd H1 s1.heap.objs.size (.tup xs), I1.laid (t' := s1.toks) (fun b u e => Heap.get?_push_of_some _ e) (Nat.le_refl _) ?_, rfl, q _ hf⟩
  exact ⟨z, us, r, ⟨_, Heap.get?_push_size _ rfl, rfl, _, rfl⟩⟩
theorem pe_lst (h : PA X es t) : PE X (.List es pos) (tLst t) := by
  intro pins s σ H Q I hq
  refine wpAny_List_spliced (thn (h pos pins s σ H _ I hq) fun us s1 ⟨xs, H1, I1, r, z, q⟩ => ⟨by rw [← r.length]; exact z, ?_⟩)
  have hf : H1 s1.heap.objs.size = none := I1.hok.fresh (Nat.le_refl _)
  refine ⟨.ref s1.heap.objs.size, upd H1 s1.heap.objs.size (.lst xs), I1.laid (t' := s1.toks) (fun b u e => Heap.get?_push_of_some _ e) (Nat.le_refl _) ?_, rfl, q _ hf⟩
  exact ⟨z, us, 0, r, Heap.get?_push_size _ rfl⟩
end
abbrev Sp := List V → Hp → VK → XK → Prop
abbrev CXT := List Env → Hp → Shared → XK → Value → Shared → Prop
structure Env0 (P : Program) (w : World) (K : PySem.W.Frag) (mg : Str → Option Value) (base : Heap) (A : Around) (outer : List Env) (s : Shared) (H : Hp) : Prop where
  frames : A.frames = some outer
  mod : Mod K mg base
  bs : ∀ b o, base.get? b = some o → s.heap.get? b = some o ∧ H b = none
  bsz : base.objs.size ≤ s.heap.objs.size
  funs : s.heap.FunFrames base outer
  frf : ∀ b ∈ frs outer, H b = none
  hok : HOk P w H s.heap
  bare : AllBare s.gens
def CE (outer : List Env) (P : Program) (w : World) (H : Hp) (s : Shared) (Q : VK) (u : Value) (s' : Shared) : Prop :=
  ∃ v H', s'.os = s.os ∧ AllBare s'.gens ∧ Un (frs outer) [] H H' s.heap s'.heap ∧ HOk P w H' s'.heap ∧ RelV v u ∧ Q v H'
def CR (CX : CXT) (outer : List Env) (P : Program) (w : World) (H : Hp) (s : Shared) (Q : VK) (E : XK) (r : Result) (s' : Shared) : Prop :=
  match r with
  | .ok (.ret u) => CE outer P w H s Q u s'
  | .ok _ => False
  | .error e => CX outer H s E e s'
structure FnOk (P : Program) (w : World) (K : PySem.W.Frag) (mg : Str → Option Value) (base : Heap) (CX : CXT) (k : Nat) (f : Addr) (fd : FuncData) (ps : List Str) (sp : Sp) : Prop where
  len : ∀ vs H Q E, sp vs H Q E → vs.length = ps.length
  run : ∀ (A : Around) (outer : List Env) (s : Shared) (H : Hp) (args : Args) (us : List Value) (vs : List V) (Q : VK) (E : XK), Room k A → Env0 P w K mg base A outer s H → BindsTo s fd args (ps.zip us) → Vals vs us → sp vs H Q E →
    codeAny (model P w) A (.call (.ref f) args) (CR CX outer P w H s Q E) s
theorem FnOk.mono {P : Program} {w : World} {K : PySem.W.Frag} {mg : Str → Option Value} {base : Heap} {CX : CXT} {j k : Nat} {f : Addr} {fd : FuncData} {ps : List Str} {sp : Sp} (F : FnOk P w K mg base CX j f fd ps sp) (h : j ≤ k) :
    FnOk P w K mg base CX k f fd ps sp := ⟨F.len, fun A outer s H args us vs Q E hr => F.run A outer s H args us vs Q E (hr.mono h)⟩
theorem FnOk.imp {P : Program} {w : World} {K : PySem.W.Frag} {mg : Str → Option Value} {base : Heap} {CX : CXT} {k : Nat} {f : Addr} {fd : FuncData} {ps : List Str} {sp sp' : Sp} (F : FnOk P w K mg base CX k f fd ps sp)
    (h : ∀ vs H Q E, sp' vs H Q E → sp vs H Q E) : FnOk P w K mg base CX k f fd ps sp' :=
  ⟨fun vs H Q E q => F.len vs H Q E (h _ _ _ _ q), fun A outer s H args us vs Q E hr he hb hv hs => F.run A outer s H args us vs Q E hr he hb hv (h _ _ _ _ hs)⟩
theorem Env0.in1 {P : Program} {w : World} {K : PySem.W.Frag} {mg : Str → Option Value} {base : Heap} {A : Around} {outer : List Env} {s : Shared} {H : Hp} (e : Env0 P w K mg base A outer s H) :
    Env0 P w K mg base A.in1 outer s H := ⟨e.frames, e.mod, e.bs, e.bsz, e.funs, e.frf, e.hok, e.bare⟩
section
variable {X : Cx} {pins : List (Addr × Obj)} {σ : St} {H : Hp} {s s' : Shared}
theorem Inv.env0 (I : Inv X pins σ H s) : Env0 X.prog X.w X.K X.mg X.base X.A X.stack s H :=
  ⟨I.ok.frames, I.ok.mod, I.bs, Nat.le_trans I.ok.bsz I.sz, I.stack, I.stkFree, I.hok, I.bare⟩
theorem Inv.after {Q : VK} {u : Value} (I : Inv X pins σ H s) (h : CE X.stack X.prog X.w H s Q u s') : EP X pins σ Q u s' := by
  obtain ⟨v, H', os, bare, un, hok, r, q⟩ := h
  obtain ⟨hh, g, d, t, os'⟩ := s'
  obtain rfl : os' = s.os := os
  exact ⟨v, H', I.call (h' := hh) (g' := g) (d' := d) (t' := t) (ch := []) un hok bare (fun b z => absurd z (by simp)), r, q⟩
end
def tCall (sp : Sp) (dvs : List V) (E : XK) (t : TA) : TE := fun σ H Q => t σ H fun vs H1 => sp (vs ++ dvs) H1 Q E
def tMeth (C : Addr) (m : Str) (sp : Sp) (dvs : List V) (E : XK) (ta : TE) (t : TA) : TE := fun σ H Q => ta σ H fun x H1 => ∃ a dx fs, x = .ref a ∧ H1 a = some (.ins C dx fs) ∧ fs.lookup m = none ∧
  t σ H1 fun vs H2 => sp (x :: (vs ++ dvs)) H2 Q E
def tMake (C : Addr) (sp : Sp) (dvs : List V) (E : XK) (t : TA) : TE := fun σ H Q => t σ H fun vs H1 => ∀ x dx, H1 x = none → H1 dx = none → dx ≠ x →
  sp (.ref x :: (vs ++ dvs)) (upd (upd H1 dx (.own x)) x (.ins C dx [])) (fun v H2 => v = .non ∧ Q (.ref x) H2) E
def Binds (K : PySem.W.Frag) (fd : FuncData) (ps : List Str) (ds : List Value) : Prop :=
  ∀ (s : Shared) (us : List Value), K.In s.heap → (us ++ ds).length = ps.length → BindsTo s fd ⟨us, []⟩ (ps.zip (us ++ ds))
theorem Binds.all {K : PySem.W.Frag} {fd : FuncData} {ps : List Str} (h : ∀ us : List Value, us.length = ps.length → bindArgs fd ⟨us, []⟩ = pure (ps.zip us)) : Binds K fd ps [] := fun s us _ hl => by
  rw [List.append_nil] at hl ⊢
  exact .of_eq (h us hl)
def Passes (CX : CXT) (X : Cx) (E : XK) : Prop := ∀ (pins : List (Addr × Obj)) (σ : St) (H : Hp) (s : Shared) (e : Value) (s' : Shared), Inv X pins σ H s → CX X.stack H s E e s' → X.xe e s'
section
variable {X : Cx} {CX : CXT} {k : Nat} {f C : Addr} {fd : FuncData} {ps : List Str} {sp : Sp} {dvs : List V} {ds : List Value} {E : XK} {x m : Str} {p pos apos : Pos} {e o : Expr} {es : List Expr} {ta : TE} {t : TA}
theorem run_fn {pins : List (Addr × Obj)} {σ : St} {H : Hp} {s : Shared} {Q : VK} {us : List Value} {vs : List V} (F : FnOk X.prog X.w X.K X.mg X.base CX k f fd ps sp) (hr : Room k X.A) (hb : Binds X.K fd ps ds) (hd : Vals dvs ds) (hx : Passes CX X E)
    (I : Inv X pins σ H s) (r : Vals vs us) (h : sp (vs ++ dvs) H Q E) : wpAny (model X.prog X.w) X.A (call (.ref f) us) (EP X pins σ Q) X.xe s := by
  have r2 : Vals (vs ++ dvs) (us ++ ds) := r.append hd
  have hl : (us ++ ds).length = ps.length := by rw [← r2.length]; exact F.len _ _ _ _ h
  refine wpAny_call (codeAny_mono (F.run X.A X.stack s H ⟨us, []⟩ (us ++ ds) (vs ++ dvs) Q E hr I.env0 (hb s us I.kIn hl) r2 h) fun r s' hq => ?_)
  cases r with
  | error e => exact hx pins σ H s e s' I hq
  | ok fl =>
    cases fl with
    | ret u => exact I.after hq
    | next => exact False.elim hq
    | brk => exact False.elim hq
    | cont => exact False.elim hq
theorem pe_call (F : FnOk X.prog X.w X.K X.mg X.base CX k f fd ps sp) (hr : Room k X.A) (hg : Gl X x) (hm : X.mg x = some (.ref f)) (hk : PySem.W.keepIn X.K (.ref f) = true) (hb : Binds X.K fd ps ds) (hd : Vals dvs ds) (hx : Passes CX X E)
    (ha : PA X (e :: es) t) (hdb : (x == ("__debug__" : Str)) = false := by decide) (he : starEach (e :: es) X.env = (false, eval e X.env) :: starEach es X.env := by rfl) (hpl : (backTo pos (starEach es X.env)).any (·.1) = false := by rfl) :
    PE X (.Call (.Name x p) (e :: es) [] pos) (tCall sp dvs E t) := by
  intro pins s σ H Q I h
  refine wpAny_Call_Name_kw (ld_glob I hg hm ?_ hdb)
  refine PySem.W.callWith_K (h₀ := X.base) I.ok.mod.kin hk (thn (ha pos pins s σ H _ I h) fun us s1 ⟨vs, H1, I1, r, q⟩ => ⟨I1.kIn, ?_⟩) he hpl
  exact run_fn F hr hb hd hx I1 r q
structure Mk (K : PySem.W.Frag) (C f : Addr) : Prop where
  makes : PySem.W.makesIn K C = true
  init : PySem.W.findIn K (.ref C) "__init__" = some (some (.ref f))
  fn : PySem.W.isFn K (.ref f) = true
  kp : PySem.W.keepIn K (.ref C) = true
end
def PK (X : Cx) (kws : List Keyword) (t : TA) : Prop :=
  ∀ (pos : Pos) (pins : List (Addr × Obj)) (s : Shared) (σ : St) (H : Hp) (Q : List V → Hp → Prop), Inv X pins σ H s → t σ H Q → wpAny (model X.prog X.w) X.A (evalAll ((backToKw pos (keywordEach kws X.env)).map (·.2))) (AP X pins σ Q) X.xe s
section
variable {X : Cx} {CX : CXT} {k : Nat} {f C : Addr} {fd : FuncData} {ps ks : List Str} {sp : Sp} {E : XK} {x m : Str} {p pos apos kpos : Pos} {e o : Expr} {es : List Expr} {kws : List Keyword} {te ta : TE} {t tk : TA} {nm : Option Str}
structure KBinds (K : PySem.W.Frag) (fd : FuncData) (ps ks : List Str) (g : List Value → List Value → List Value) (gV : List V → List V → List V) : Prop where
  to : ∀ (s : Shared) (us ws : List Value), K.In s.heap → (g us ws).length = ps.length → BindsTo s fd ⟨us, ks.zip ws⟩ (ps.zip (g us ws))
  rel : ∀ {vs : List V} {us : List Value} {zs : List V} {ws : List Value}, Vals vs us → Vals zs ws → Vals (gV vs zs) (g us ws)
def tCallK (sp : Sp) (gV : List V → List V → List V) (E : XK) (t tk : TA) : TE := fun σ H Q => t σ H fun vs H1 => tk σ H1 fun zs H2 => sp (gV vs zs) H2 Q E
variable {g : List Value → List Value → List Value} {gV : List V → List V → List V}
end
structure FnScope (N P : List Str) (sc : Scope) : Prop where
  kind : sc.kind = .function
  co : sc.isCoroutine = false
  gen : sc.isGenerator = false
  nd : N.Nodup
  pre : N.take P.length = P
  par : ∀ x ∈ P, sc.names.lookup x = some .local ∨ sc.names.lookup x = some .cell
  nofree : ∀ y ∈ sc.names, y.2 ≠ .free
theorem bindL_out {kindOf : Str → Option NameKind} {x : Str} : ∀ {binds : List (Str × Value)} {m : Str → Option Value}, (∀ v, (x, v) ∉ binds) → bindL kindOf binds m x = m x
  | [], _, _ => rfl
  | (n, v) :: r, m, h => by
    unfold bindL
    rw [bindL_out fun w hw => h w (List.mem_cons_of_mem _ hw)]
    split
    · have : x ≠ n := by rintro rfl; exact h v List.mem_cons_self
      simp [this]
    · rfl
theorem bindC_out {kindOf : Str → Option NameKind} {x : Str} : ∀ {binds : List (Str × Value)} {m : Str → Option Value}, (∀ v, (x, v) ∉ binds) → bindC kindOf binds m x = m x
  | [], _, _ => rfl
  | (n, v) :: r, m, h => by
    unfold bindC
    rw [bindC_out fun w hw => h w (List.mem_cons_of_mem _ hw)]
    split
    · rfl
    · have : x ≠ n := by rintro rfl; exact h v List.mem_cons_self
      simp [this]
theorem bindL_get {kindOf : Str → Option NameKind} {x : Str} {v : Value} : ∀ {P : List Str} {vs : List Value} {i : Nat} {m : Str → Option Value}, P.Nodup → P[i]? = some x → vs[i]? = some v → kindOf x = some .local →
    bindL kindOf (P.zip vs) m x = some v
  | [], _, _, _, _, h, _, _ => by simp at h
  | _ :: _, [], _, _, _, _, h, _ => by simp at h
  | p :: P, w :: vs, 0, m, nd, h1, h2, hk => by
    simp at h1 h2; subst h1; subst h2
    show bindL kindOf ((p, w) :: P.zip vs) m p = _
    unfold bindL
    rw [bindL_out fun v hv => (List.nodup_cons.mp nd).1 (List.of_mem_zip hv).1, if_pos hk]
    simp
  | p :: P, w :: vs, i + 1, m, nd, h1, h2, hk => by
    show bindL kindOf ((p, w) :: P.zip vs) m x = _
    unfold bindL
    exact bindL_get (i := i) (List.nodup_cons.mp nd).2 (by simpa using h1) (by simpa using h2) hk
theorem bindC_get {kindOf : Str → Option NameKind} {x : Str} {v : Value} : ∀ {P : List Str} {vs : List Value} {i : Nat} {m : Str → Option Value}, P.Nodup → P[i]? = some x → vs[i]? = some v → kindOf x ≠ some .local →
    bindC kindOf (P.zip vs) m x = some v
  | [], _, _, _, _, h, _, _ => by simp at h
  | _ :: _, [], _, _, _, _, h, _ => by simp at h
  | p :: P, w :: vs, 0, m, nd, h1, h2, hk => by
    simp at h1 h2; subst h1; subst h2
    show bindC kindOf ((p, w) :: P.zip vs) m p = _
    unfold bindC
    rw [bindC_out fun v hv => (List.nodup_cons.mp nd).1 (List.of_mem_zip hv).1, if_neg hk]
    simp
  | p :: P, w :: vs, i + 1, m, nd, h1, h2, hk => by
    show bindC kindOf ((p, w) :: P.zip vs) m x = _
    unfold bindC
    exact bindC_get (i := i) (List.nodup_cons.mp nd).2 (by simpa using h1) (by simpa using h2) hk
def start (N : List Str) (vs : List V) : St := vs.map some ++ List.replicate (N.length - vs.length) none
def cxOf (CX : CXT) (P : Program) (w : World) (K : PySem.W.Frag) (mg : Str → Option Value) (base : Heap) (N : List Str) (qual : Str) (scope : Scope) (f : Addr) (cd : Value) (A : Around) (outer : List Env) (s : Shared) (H : Hp) (E : XK) : Cx where
  prog := P
  w := w
  K := K
  mg := mg
  base := base
  A := A.deeper (envOfC qual scope s.heap.objs.size f cd)
  N := N
  s_0 := s
  H_0 := H
  env := envOfC qual scope s.heap.objs.size f cd
  outer := outer
  stack := envOfC qual scope s.heap.objs.size f cd :: outer
  ex := []
  calm := true
  fn := fun _ => true
  pn := []
  xe := fun e s' => wpAny (model P w) (A.deeper (envOfC qual scope s.heap.objs.size f cd)) (leaving (envOfC qual scope s.heap.objs.size f cd) e) (fun _ s'' => CX outer H s E e s'') (fun e' s'' => CX outer H s E e' s'') s'
theorem cell_has {sc : Scope} {n : Nat} {x : Str} (h : sc.names.lookup x = some .cell) : ∃ c, (cellsFrom n sc.names []).lookup x = some c := by
  have q := PySem.W.cellsFrom_some sc.names n [] (.inl h)
  exact Option.isSome_iff_exists.mp q
theorem inv_start {CX : CXT} {P : Program} {w : World} {K : PySem.W.Frag} {mg : Str → Option Value} {base : Heap} {N ps : List Str} {qual : Str} {scope : Scope} {f : Addr} {cd : Value} {A : Around} {outer : List Env} {s s1 : Shared} {H : Hp} {E : XK} {us : List Value} {vs : List V}
    (S : FnScope N ps scope) (hd : A.handled = none) (e0 : Env0 P w K mg base A outer s H) (hl : vs.length = ps.length) (r : Vals vs us)
    (x : InCallC s s.heap.objs.size (bindL (envOfC qual scope s.heap.objs.size f cd).kindOf (ps.zip us) fun _ => none) (cellsFrom (s.heap.objs.size + 1) scope.names []) (bindC (envOfC qual scope s.heap.objs.size f cd).kindOf (ps.zip us) fun _ => none) s1) :
    Inv (cxOf CX P w K mg base N qual scope f cd A outer s H E) [] (start N vs) H s1 := by
  have hpl : ps.length ≤ N.length := by have := congrArg List.length S.pre; rw [List.length_take] at this; omega
  obtain ⟨h1, tk, rfl, hk⟩ := x.done
  have noA : ∀ b : Addr, b ∉ (cxOf CX P w K mg base N qual scope f cd A outer s H E).ex := fun b z => absurd (show b ∈ ([] : List Addr) from z) (by simp)
  refine ⟨⟨e0.mod, S.kind, rfl, rfl, Nat.le_refl _, fun y z c h1 h2 => ?_, fun y hy => ?_, fun y c _ h => ?_, fun _ => hd, Around.frames_deeper e0.frames, .inr ⟨rfl, rfl⟩, fun b z => absurd z (noA b), e0.bs, e0.bsz, fun b _ _ => noA b, fun b z => absurd z (noA b), e0.funs, e0.frf⟩,
    rfl, e0.bare, Un.kept hk, ⟨_, x.toInCall.ns, fun i y v h1 h2 h3 => ?_⟩, fun y c h => ⟨_, x.cell y c h⟩, e0.hok.fresh (Nat.le_refl _), fun y c h => ?_, fun p hp => absurd (show p ∈ ([] : List (Addr × Obj)) from hp) (by simp), e0.hok.kept hk, ?_⟩
  · exact name_of_addr x.apart (PySem.mem_of_lookup h1) (PySem.mem_of_lookup h2)
  · have hy : scope.names.lookup y = some .cell ∨ scope.names.lookup y = some .free := hy
    rcases hy with hy | hy
    · exact cell_has hy
    · exact absurd rfl (S.nofree _ (PySem.mem_of_lookup hy))
  · exact Nat.le_of_lt (x.above y c (PySem.mem_of_lookup h))
  · have hi : i < vs.length := by
      unfold start at h2
      by_cases hi : i < vs.length
      · exact hi
      · rw [List.getElem?_append_right (by simpa using hi)] at h2
        rw [List.getElem?_replicate] at h2
        split at h2 <;> cases h2
    have ha : vs[i]? = some v := by
      unfold start at h2
      rw [List.getElem?_append_left (by simpa using hi), List.getElem?_map] at h2
      cases e : vs[i]? with
      | none => rw [e] at h2; cases h2
      | some a => rw [e] at h2; cases h2; rfl
    obtain ⟨u, hu, rv⟩ := r.get ha
    have hp : ps[i]? = some y := by
      rw [← S.pre, List.getElem?_take_of_lt (by omega)]; exact h1
    have ndP : ps.Nodup := by rw [← S.pre]; exact S.nd.sublist (List.take_sublist _ _)
    refine ⟨u, rv, ?_⟩
    rcases S.par y (List.mem_of_getElem? hp) with k | k
    · exact .inl ⟨k, bindL_get ndP hp hu k⟩
    · obtain ⟨c, e⟩ := cell_has (n := s.heap.objs.size + 1) k
      refine .inr ⟨.inl k, c, e, ?_⟩
      have q := x.cell y c e
      rw [bindC_get ndP hp hu (by show scope.names.lookup y ≠ _; rw [k]; decide)] at q
      exact q
  · exact e0.hok.fresh (Nat.le_of_lt (x.above y c (PySem.mem_of_lookup h)))
  · unfold start
    show _ = N.length
    rw [List.length_append, List.length_map, List.length_replicate]
    omega
theorem fn_of {CX : CXT} {P : Program} {w : World} {K : PySem.W.Frag} {mg : Str → Option Value} {base : Heap} {k : Nat} {f : Addr} {name qual : Str} {params : Arguments} {body : List Stmt} {scope : Scope} {dV kV doc pm cdv ct oc : Value} {an od : Option Addr}
    {osl : Array (Option Value)} {N ps : List Str} {sp : Sp} (lk : K.lookup f = some ⟨oc, od, .func (PySem.W.fnOf name qual params body scope dV kV doc pm an cdv ct), osl⟩) (hcd : PySem.W.codeIn K cdv qual = true) (S : FnScope N ps scope)
    (len : ∀ vs H Q E, sp vs H Q E → vs.length = ps.length)
    (hbody : ∀ (A : Around) (outer : List Env) (s : Shared) (H : Hp) (vs : List V) (Q : VK) (E : XK), Room k (A.deeper (envOfC qual scope s.heap.objs.size f cdv)) → sp vs H Q E →
      ∃ t, PSs (cxOf CX P w K mg base N qual scope f cdv A outer s H E) body t ∧ t { nx := fun _ H' => Q .non H', rt := Q } (start N vs) H) :
    FnOk P w K mg base CX (k + 1) f (PySem.W.fnOf name qual params body scope dV kV doc pm an cdv ct) ps sp := by
  refine ⟨len, fun A outer s H args us vs Q E hr e0 hb r hsp => ?_⟩
  have hl := len _ _ _ _ hsp
  have KX : K.In s.heap := e0.mod.kin.keeps fun b o e => (e0.bs b o e).1
  have lim : s.heap.NoLimit := e0.mod.nolimit.keeps fun b o e => (e0.bs b o e).1
  have hkind : ∀ y ∈ ps.zip us, scope.names.lookup y.1 = some .local ∨ (scope.names.lookup y.1 = some .cell ∧ ((cellsFrom (s.heap.objs.size + 1) scope.names []).lookup y.1).isSome = true) := fun ⟨n, v⟩ hy => by
    rcases S.par n (List.of_mem_zip hy).1 with q | q
    · exact .inl q
    · exact .inr ⟨q, PySem.W.cellsFrom_some _ _ _ (.inl q)⟩
  refine codeAny_call_function hr.depth (KX _ _ lk) rfl S.co S.gen rfl (PySem.W.codeRec_of KX hcd) (hb _ _ _ _ ?_)
  refine wpAny_newFunctionEnv_cells S.kind hkind fun env he s1 x => ?_
  subst he
  refine ⟨lim.keeps x.toInCall.keep, codeAny_func ?_⟩
  obtain ⟨t, ht, hq⟩ := hbody A outer s H vs Q E (hr.deeper _) hsp
  have I : Inv (cxOf CX P w K mg base N qual scope f cdv A outer s H E) [] (start N vs) H s1 := inv_start S hr.hd e0 hl r x
  refine wpAny_mono (ht [] s1 (start N vs) H _ I hq) (fun fl s' hs => ?_) fun e s' hs => hs
  have fin : ∀ {σ' : St} {H' : Hp} {v : V} {u : Value}, Inv (cxOf CX P w K mg base N qual scope f cdv A outer s H E) [] σ' H' s' → RelV v u → Q v H' → CE outer P w H s Q u s' :=
    fun {σ' H' v u} J rv q => ⟨v, H', J.os, J.bare, J.base, J.hok, rv, q⟩
  cases fl with
  | ret u =>
    obtain ⟨v, σ', H', J, rv, q⟩ := hs
    exact fin J rv q
  | next =>
    obtain ⟨σ', H', J, q⟩ := hs
    exact fin (v := V.non) (u := Value.none) J rfl q
  | brk =>
    obtain ⟨_, _, _, q⟩ := hs
    exact False.elim q
  | cont =>
    obtain ⟨_, _, _, q⟩ := hs
    exact False.elim q
end L2
namespace L2
open PySem PySem.Spec PyProof.Rows
section
variable {X : Cx} {x : Str} {p pos : Pos} {e : Expr} {es : List Expr} {t : TA} {id T : String} {r : List V → Hp → VK → Prop}
def tCB (r : List V → Hp → VK → Prop) (t : TA) : TE := fun σ H Q => t σ H fun vs H1 => r vs H1 Q
theorem pe_callB (hc : CallR X (.builtin id) r) (hg : Gl X x) (hm : X.mg x = none) (hv : bootBuiltins x = some (.builtin id)) (ha : PA X (e :: es) t) (hn : x ≠ "__name__" := by decide) (hdb : (x == ("__debug__" : Str)) = false := by decide)
    (he : starEach (e :: es) X.env = (false, eval e X.env) :: starEach es X.env := by rfl) (hpl : (backTo pos (starEach es X.env)).any (·.1) = false := by rfl) : PE X (.Call (.Name x p) (e :: es) [] pos) (tCB r t) := by
  intro pins s σ H Q I h
  refine wpAny_Call_Name_kw (ld_blt I hg hm hv ?_ hn hdb)
  exact PyProof.Rows.callWith_builtin1 (thn (ha pos pins s σ H _ I h) fun us s1 ⟨vs, H1, I1, r1, q1⟩ => hc pins s1 σ H1 vs us Q I1 r1 q1) he hpl
theorem pe_callTy (hc : CallR X (.type T) r) (hg : Gl X x) (hm : X.mg x = none) (hv : bootBuiltins x = some (.type T)) (ha : PA X (e :: es) t) (hn : x ≠ "__name__" := by decide) (hdb : (x == ("__debug__" : Str)) = false := by decide)
    (he : starEach (e :: es) X.env = (false, eval e X.env) :: starEach es X.env := by rfl) (hpl : (backTo pos (starEach es X.env)).any (·.1) = false := by rfl) : PE X (.Call (.Name x p) (e :: es) [] pos) (tCB r t) := by
  intro pins s σ H Q I h
  refine wpAny_Call_Name_kw (ld_blt I hg hm hv ?_ hn hdb)
  exact PyProof.Rows.callWith_type1 (thn (ha pos pins s σ H _ I h) fun us s1 ⟨vs, H1, I1, r1, q1⟩ => hc pins s1 σ H1 vs us Q I1 r1 q1) he hpl
end
end L2
namespace HT
open PySem PyProof.Rows
def lexLt : List Int → List Int → Bool
  | [], [] => false
  | [], _ :: _ => true
  | _ :: _, [] => false
  | x :: xs, y :: ys => if x = y then lexLt xs ys else decide (x < y)
section
open PySem.SeqAt
open PySem.AutoSeq1 (wpAny_loadPart')
open PySem.MeetsSeq PySem.MeetsSeq2 PySem.MeetsSeq3
end
section
variable {prog : Program} {w : World} {A : Around} {E : Value → Shared → Prop} {s : Shared}
theorem cat_tup {t b : Addr} {vs ws : List Value} {Q : Value → Shared → Prop} (ht : IsTup s.heap t vs.toArray) (hb : IsTup s.heap b ws.toArray) (hv : vs ≠ [])
    (h1 : ws = [] → Q (.ref t) s) (h2 : ws ≠ [] → Q (.ref s.heap.objs.size) { s with heap := s.heap.push { cls := .type "tuple", data := .seq (vs ++ ws).toArray } })
    (hsz : vs.length + ws.length ≤ sizeLine) : wpAny (model prog w) A (binaryOp .Add (.ref t) (.ref b)) Q E s := by
  obtain ⟨⟨cls, dd, data, sl⟩, ho, hc, n, hd⟩ := id ht
  obtain ⟨⟨cls2, dd2, data2, sl2⟩, ho2, hc2, n2, hd2⟩ := id hb
  simp only at hc hd hc2 hd2
  subst hc hd hc2 hd2
  have e : vs.toArray ++ ws.toArray = (vs ++ ws).toArray := by simp
  by_cases hw : ws = []
  · exact concat_meets ⟨_, ho, rfl⟩ ⟨_, ho2, rfl⟩ noFill_tuple_add seq_tuple_add PySem.F.slot_tuple_add PySem.F.entry_tuple_add (PySem.F.args_tuple_add_2 _ _)
      (tuple_addW1 t b vs.toArray ws.toArray n n2 dd dd2 sl sl2 (by simpa using hv) (by simp [hw])) ⟨ho, ho2, h1 hw⟩
  · refine concat_meets ⟨_, ho, rfl⟩ ⟨_, ho2, rfl⟩ noFill_tuple_add seq_tuple_add PySem.F.slot_tuple_add PySem.F.entry_tuple_add (PySem.F.args_tuple_add_2 _ _)
      (tuple_addW2 t b vs.toArray ws.toArray n n2 dd dd2 sl sl2 (by simpa using hv) (by simpa using hw) (by rw [List.size_toArray, List.size_toArray]; exact hsz)) ⟨ho, ho2, ?_⟩
    rw [e]
    exact h2 hw
def sIx (n d : Nat) : Option Int → Nat
  | none => d
  | some v => if v < 0 then (v + (n : Int)).toNat else min v.toNat n
theorem sIx_none (n d : Nat) : sIx n d none = d := rfl
theorem sIx_nat (n d k : Nat) : sIx n d (some (k : Int)) = min k n := by
  show (if (k : Int) < 0 then ((k : Int) + (n : Int)).toNat else min (k : Int).toNat n) = min k n
  rw [if_neg (by omega), Int.toNat_natCast]
theorem sIx_le (n d : Nat) (hd : d ≤ n) (o : Option Int) : sIx n d o ≤ n := by
  cases o with
  | none => exact hd
  | some v =>
    show (if v < 0 then (v + (n : Int)).toNat else min v.toNat n) ≤ n
    by_cases hv : v < 0
    · rw [if_pos hv]; omega
    · rw [if_neg hv]; exact Nat.min_le_right _ _
theorem clip_eq (v : Int) (n d : Nat) : (if v < 0 then max (v + (n : Int)) 0 else min v (n : Int)) = ((sIx n d (some v) : Nat) : Int) := by
  show (if v < 0 then max (v + (n : Int)) 0 else min v (n : Int)) = (((if v < 0 then (v + (n : Int)).toNat else min v.toNat n) : Nat) : Int)
  by_cases hv : v < 0
  · simp only [if_pos hv]; omega
  · simp only [if_neg hv]; omega
theorem adjust_gen (lo hi : Option Int) (n : Nat) : Builtin.Slice.sliceAdjust lo hi 1 (n : Int) = (((sIx n 0 lo : Nat) : Int), ((sIx n n hi : Nat) : Int)) := by
  have h1 : ¬ ((1 : Int) < 0) := by omega
  unfold Builtin.Slice.sliceAdjust
  simp only [h1, if_false]
  refine Prod.ext ?_ ?_
  · cases lo with
    | none => rfl
    | some v => exact clip_eq v n 0
  · cases hi with
    | none => rfl
    | some v => exact clip_eq v n n
theorem places_gen (i j : Nat) : Builtin.Slice.slicePlaces (i : Int) (j : Int) 1 = j - i := by
  unfold Builtin.Slice.slicePlaces
  have h1 : (1 : Int) > 0 := by omega
  simp only [h1, if_true, Int.ediv_one]
  split <;> omega
theorem slicePart_ {v : Value} {o : Option Int} {Q : Option Int → Shared → Prop} (p : IsPart v o) (h : Q o s) : wpAny (model prog w) A (Builtin.Slice.slicePartIndex v) Q E s := by
  cases p with
  | none => exact slicePart_none h
  | int i t => exact slicePart_int h
theorem sliceApplied_gen {sl : Addr} {vl vu : Value} {lo hi : Option Int} {n : Nat} {Q : Int × Int × Nat → Shared → Prop} (hs : s.heap.IsSliceOf sl vl vu .none) (pl : IsPart vl lo) (pu : IsPart vu hi)
    (h : Q (((sIx n 0 lo : Nat) : Int), 1, sIx n n hi - sIx n 0 lo) s) : wpAny (model prog w) A (Builtin.Slice.sliceApplied (.ref sl) (pure (n : Int))) Q E s := by
  obtain ⟨os, hos, hcs, hds⟩ := id hs
  unfold Builtin.Slice.sliceApplied Builtin.Slice.sliceFields
  refine wpAny_bind (wpAny_bind (wpAny_field hos hds (x := vl) rfl (wpAny_bind (wpAny_field hos hds (x := vu) rfl (wpAny_bind (wpAny_field hos hds (x := .none) rfl (wpAny_pure ?_)))))))
  refine wpAny_bind (slicePart_none ?_)
  show wpAny _ _ (if ((1 : Int) == 0) = true then _ else _) _ _ s
  rw [if_neg (by decide)]
  refine wpAny_bind (slicePart_ pl (wpAny_bind (slicePart_ pu (wpAny_bind (wpAny_pure ?_)))))
  show wpAny _ _ (match Builtin.Slice.sliceAdjust lo hi 1 (n : Int) with | (lo, hi) => pure (lo, (1 : Int), Builtin.Slice.slicePlaces lo hi 1)) _ _ s
  rw [adjust_gen lo hi n]
  show wpAny _ _ (pure (((sIx n 0 lo : Nat) : Int), (1 : Int), Builtin.Slice.slicePlaces ((sIx n 0 lo : Nat) : Int) ((sIx n n hi : Nat) : Int) 1)) _ _ s
  rw [places_gen]
  exact wpAny_pure h
theorem pick_gen (xs : Array Value) (i k : Nat) : ((List.range k).filterMap fun (m : Nat) => xs[((i : Int) + (m : Int) * 1).toNat]?).toArray = ((xs.toList.drop i).take k).toArray := by
  have e : (fun (m : Nat) => xs[((i : Int) + (m : Int) * 1).toNat]?) = fun m => xs[i + m]? := by
    funext m
    have : ((i : Int) + (m : Int) * 1).toNat = i + m := by omega
    rw [this]
  rw [e]
  have := pick_run xs i k
  rw [List.filterMap_map] at this
  have e2 : ((fun x => xs[x]?) ∘ fun x => i + x) = fun m => xs[i + m]? := rfl
  rw [e2] at this
  rw [this]
theorem getItem_tuple_cut {t sl : Addr} {items : Array Value} {vl vu : Value} {lo hi : Option Int} {Q : Value → Shared → Prop} (ht : IsTup s.heap t items) (hs : s.heap.IsSliceOf sl vl vu .none) (pl : IsPart vl lo) (pu : IsPart vu hi)
    (hw : ¬ (sIx items.size 0 lo = 0 ∧ sIx items.size items.size hi = items.size))
    (h : Q (.ref s.heap.objs.size) { s with heap := s.heap.push { cls := .type "tuple", data := .seq ((items.toList.drop (sIx items.size 0 lo)).take (sIx items.size items.size hi - sIx items.size 0 lo)).toArray } })
    (hsz : items.size ≤ sizeLine) : wpAny (model prog w) A (getItem (.ref t) (.ref sl)) Q E s := by
  have htake : sizeOk (.seq ((items.toList.drop (sIx items.size 0 lo)).take (sIx items.size items.size hi - sIx items.size 0 lo)).toArray) := by
    show ((items.toList.drop (sIx items.size 0 lo)).take (sIx items.size items.size hi - sIx items.size 0 lo)).toArray.size ≤ sizeLine
    rw [List.size_toArray, List.length_take, List.length_drop, Array.length_toList]
    omega
  have hj : sIx items.size items.size hi ≤ items.size := sIx_le _ _ (Nat.le_refl _) hi
  obtain ⟨os, hos, hcs, hds⟩ := id hs
  have hTs : s.TypeIs (.ref sl) "slice" := ⟨os, hos, hcs⟩
  unfold getItem
  try with_reducible refine wpAny_holding ?_
  first | refine wpAny_bind (wpAny_pure ?_) | skip
  refine wpAny_bind (wpAny_sequenceKey ht.typeIs (by decide) ?_)
  refine wpAny_bind (wpAny_callSpecial?_slot (name := Str.ofString "__getitem__") ht.typeIs PyProof.Rows.slot_tuple_getitem
    (wpAny_call_entry PyProof.Rows.slot_tuple_getitem ht.typeIs entry_tuple_getitem ?_ (args_tuple_getitem _ _)))
  show wpAny _ _ (Builtin.Tuple.tupleItemsOf (.ref t) >>= _) _ _ s
  refine wpAny_bind (tupleItemsOf_ ht ?_)
  refine wpAny_bind (wpAny_typeOf hTs ?_)
  rw [if_pos (by decide)]
  refine wpAny_bind (sliceApplied_gen hs pl pu ?_)
  have hno : ¬ ((((sIx items.size 0 lo : Nat) : Int) == 0 && (1 : Int) == 1 && (sIx items.size items.size hi - sIx items.size 0 lo) == items.size) = true) := by
    intro q
    rw [Bool.and_eq_true, Bool.and_eq_true] at q
    have q1 : ((sIx items.size 0 lo : Nat) : Int) = 0 := eq_of_beq q.1.1
    have q2 : sIx items.size items.size hi - sIx items.size 0 lo = items.size := eq_of_beq q.2
    exact hw ⟨by omega, by omega⟩
  show wpAny _ _ (if (((sIx items.size 0 lo : Nat) : Int) == 0 && (1 : Int) == 1 && (sIx items.size items.size hi - sIx items.size 0 lo) == items.size) = true then _ else _) _ _ s
  rw [if_neg hno, pick_gen]
  first
    | exact wpAny_bind (m := Builtin.Tuple.tupleExact _) (wpAny_newObj_type (wpAny_pure ⟨_, rfl, wpAny_pure h⟩) htake)
    | exact wpAny_bind (m := Builtin.Tuple.tupleExact _) (wpAny_newObj_type (wpAny_bind (wpAny_pure (wpAny_pure ⟨_, rfl, wpAny_pure h⟩))) htake)
    | exact wpAny_bind (wpAny_bind (m := Builtin.Tuple.tupleExact _) (wpAny_newObj_type (wpAny_pure (wpAny_pure ⟨_, rfl, wpAny_pure h⟩)) htake))
    | exact wpAny_bind (wpAny_bind (m := Builtin.Tuple.tupleExact _) (wpAny_newObj_type (wpAny_pure ⟨_, rfl, wpAny_pure h⟩) htake))
end
end HT
namespace L2
open PySem PySem.Spec PyProof.Rows
abbrev TO := St → Hp → (Option Int → Hp → Prop) → Prop
def PO (X : Cx) (e : Option Expr) (t : TO) : Prop :=
  ∀ (pins : List (Addr × Obj)) (s : Shared) (σ : St) (H : Hp) (Q : Option Int → Hp → Prop), Inv X pins σ H s → t σ H Q →
    wpAny (model X.prog X.w) X.A (evalPart e X.env) (fun u s' => ∃ o H', Inv X pins σ H' s' ∧ IsPart u o ∧ Q o H') X.xe s
def tNoPart : TO := fun _ H Q => Q none H
def tPart (t : TE) : TO := fun σ H Q => t σ H fun x H1 => ∃ i, x = .int i ∧ Q (some i) H1
theorem intsAre_of {ns : List Int} : ∀ {us : List Value}, Vals (ns.map V.int) us → IntsAre us ns := by
  induction ns with
  | nil => intro us r; rw [List.map_nil] at r; cases r; exact .nil
  | cons n ns ih =>
    intro us r
    rw [List.map_cons] at r
    cases r with
    | cons r1 r2 =>
      obtain ⟨t, e⟩ := r1
      subst e
      exact .cons n t (ih r2)
section
variable {X : Cx} {e : Expr} {te : TE} {lo hi : Option Expr} {tl th : TO} {pos p2 : Pos}
theorem po_none : PO X none tNoPart := by
  intro pins s σ H Q I h
  rw [evalPart_none]
  exact wpAny_pure ⟨none, H, I, .none, h⟩
theorem po_some (h : PE X e te) : PO X (some e) (tPart te) := by
  intro pins s σ H Q I hw
  rw [evalPart_some]
  refine thn (h pins s σ H _ I hw) fun u s1 ⟨x, H1, I1, r1, q1⟩ => ?_
  obtain ⟨i, rfl, q⟩ := q1
  obtain ⟨t, rfl⟩ := r1
  exact ⟨some i, H1, I1, .int i t, q⟩
def SlR (X : Cx) (r : V → Option Int → Option Int → Hp → VK → Prop) : Prop :=
  ∀ (pins : List (Addr × Obj)) (s : Shared) (σ : St) (H : Hp) (x : V) (v vl vu : Value) (lo hi : Option Int) (sl : Addr) (Q : VK), Inv X pins σ H s → RelV x v → s.heap.IsSliceOf sl vl vu .none → IsPart vl lo → IsPart vu hi → r x lo hi H Q →
    ∃ T id, typeLookup (.type T) "__getitem__" = pure (some (.builtin id)) ∧ s.TypeIs v T ∧ wpAny (model X.prog X.w) X.A (getItem v (.ref sl)) (EP X pins σ Q) X.xe s
theorem SlR.or {r r' : V → Option Int → Option Int → Hp → VK → Prop} (h : SlR X r) (h' : SlR X r') : SlR X (fun x lo hi H Q => r x lo hi H Q ∨ r' x lo hi H Q) := by
  intro pins s σ H x v vl vu lo hi sl Q I rx hs pl pu q
  rcases q with q | q
  · exact h pins s σ H x v vl vu lo hi sl Q I rx hs pl pu q
  · exact h' pins s σ H x v vl vu lo hi sl Q I rx hs pl pu q
def tSl (r : V → Option Int → Option Int → Hp → VK → Prop) (te : TE) (tl th : TO) : TE := fun σ H Q => te σ H fun x H1 => tl σ H1 fun l H2 => th σ H2 fun u H3 => r x l u H3 Q
theorem pe_slice {r : V → Option Int → Option Int → Hp → VK → Prop} (hr : SlR X r) (he : PE X e te) (hl : PO X lo tl) (hu : PO X hi th) : PE X (.Subscript e (.Slice lo hi none p2) pos) (tSl r te tl th) := by
  intro pins s σ H Q I h
  refine Subscript_ (thn (he pins s σ H _ I h) fun v s1 ⟨x, H1, I1, r1, q1⟩ => ?_)
  refine wpAny_Slice (thn (hl pins s1 σ H1 _ I1 q1) fun vl s2 ⟨l, H2, I2, pl, q2⟩ => thn (hu pins s2 σ H2 _ I2 q2) fun vu s3 ⟨u, H3, I3, pu, q3⟩ => ?_)
  rw [evalPart_none]
  refine wpAny_pure ?_
  have I4 : Inv X pins σ H3 { s3 with heap := s3.heap.push { cls := .type "slice", data := .fields #[vl, vu, .none] } } := I3.kept (t' := s3.toks) fun b ob q => Heap.get?_push_of_some _ q
  obtain ⟨T, id, hT, ht, hg⟩ := hr pins { s3 with heap := s3.heap.push { cls := .type "slice", data := .fields #[vl, vu, .none] } } σ H3 x v vl vu l u s3.heap.objs.size Q I4 r1 (Heap.IsSliceOf.new ..) pl pu q3
  show wpAny (model X.prog X.w) X.A (subscriptTail e (.Slice lo hi none p2) v (.ref s3.heap.objs.size)) (EP X pins σ Q) X.xe { s3 with heap := s3.heap.push { cls := .type "slice", data := .fields #[vl, vu, .none] } }
  exact tail_any (ops := [.ref s3.heap.objs.size, v]) ht hT hg (by with_unfolding_all rfl)
def cutV (xs : List V) (lo hi : Option Int) : List V := (xs.drop (HT.sIx xs.length 0 lo)).take (HT.sIx xs.length xs.length hi - HT.sIx xs.length 0 lo)
theorem cutV_length (xs : List V) (lo hi : Option Int) : (cutV xs lo hi).length ≤ xs.length := by
  unfold cutV
  rw [List.length_take, List.length_drop]
  omega
def rSlT (K : PySem.W.Frag) : V → Option Int → Option Int → Hp → VK → Prop := fun x lo hi H Q => ∃ a xs, x = .ref a ∧ SqT K H a xs ∧
  ¬ (HT.sIx xs.length 0 lo = 0 ∧ HT.sIx xs.length xs.length hi = xs.length) ∧ ∀ p, H p = none → Q (.ref p) (upd H p (.tup (cutV xs lo hi)))
theorem sl_tup : SlR X (rSlT X.K) := by
  intro pins s σ H x v vl vu lo hi sl Q I rx hs pl pu h
  obtain ⟨a, xs, rfl, hx, hw, q⟩ := h
  cases rx
  obtain ⟨its, r, ht, hz⟩ := I.tuple hx
  have hlen : its.toArray.size = xs.length := by rw [List.size_toArray]; exact r.length.symm
  refine ⟨"tuple", _, PyProof.Rows.slot_tuple_getitem.lookup, ht.typeIs, ?_⟩
  refine HT.getItem_tuple_cut ht hs pl pu (by rw [hlen]; exact hw) ?_ (by rw [hlen]; exact hz)
  rw [hlen]
  refine ⟨.ref s.heap.objs.size, _, I.laid (t' := s.toks) (o := .tup (cutV xs lo hi)) (fun b ob q => Heap.get?_push_of_some _ q) (Nat.le_refl _) ?_, rfl, q _ (I.hok.fresh (Nat.le_refl _))⟩
  exact ⟨Nat.le_trans (cutV_length xs lo hi) hz, _, (r.drop (HT.sIx xs.length 0 lo)).take (HT.sIx xs.length xs.length hi - HT.sIx xs.length 0 lo), IsTup.new _ _⟩
def rLtT (K : PySem.W.Frag) : R2 := fun x y H Q => ∃ a b ns ms, x = .ref a ∧ y = .ref b ∧ SqT K H a (ns.map V.int) ∧ SqT K H b (ms.map V.int) ∧ Q (.bl (HT.lexLt ns ms)) H
def rCatT (K : PySem.W.Frag) : R2 := fun x y H Q => ∃ a b xs ys, x = .ref a ∧ y = .ref b ∧ SqT K H a xs ∧ SqT K H b ys ∧ xs ≠ [] ∧ xs.length + ys.length ≤ sizeLine ∧
  (ys = [] → Q (.ref a) H) ∧ (ys ≠ [] → ∀ p, H p = none → Q (.ref p) (upd H p (.tup (xs ++ ys))))
theorem Vals.nil_iff {xs : List V} {us : List Value} (r : Vals xs us) : us = [] ↔ xs = [] := by
  cases r with
  | nil => simp
  | cons _ _ => simp
theorem op_catT : OpR X (binaryOp .Add) (rCatT X.K) := by
  intro pins s σ H x y v u Q I rx ry h
  obtain ⟨a, b, xs, ys, rfl, rfl, ha, hb, hx, hz, q1, q2⟩ := h
  cases rx
  cases ry
  obtain ⟨its, r1, p1, _⟩ := I.tuple ha
  obtain ⟨its2, r2, p2, _⟩ := I.tuple hb
  refine HT.cat_tup p1 p2 (fun z => hx (r1.nil_iff.mp z)) (fun z => ⟨.ref a, H, I, rfl, q1 (r2.nil_iff.mp z)⟩) (fun z => ?_) (by rw [← r1.length, ← r2.length]; exact hz)
  refine ⟨.ref s.heap.objs.size, _, I.laid (t' := s.toks) (o := .tup (xs ++ ys)) (fun b ob q => Heap.get?_push_of_some _ q) (Nat.le_refl _) ?_, rfl, q2 (fun w => z (r2.nil_iff.mpr w)) _ (I.hok.fresh (Nat.le_refl _))⟩
  exact ⟨by rw [List.length_append]; exact hz, _, r1.append r2, IsTup.new _ _⟩
end
end L2
namespace L2
open PySem PySem.Spec PyProof.Rows
def ixN (n : Nat) (i : Int) : Option Nat := if 0 ≤ i then (if i < n then some i.toNat else none) else if -(n : Int) ≤ i then some (i + n).toNat else none
def atI {α : Type} (xs : List α) (i : Int) : Option α := (ixN xs.length i).bind fun j => xs[j]?
theorem ixN_seq {n : Nat} {i : Int} {j : Nat} (h : ixN n i = some j) : seqIndex? i n = some j ∧ j < n ∧ -(n : Int) ≤ i ∧ i < n := by
  unfold ixN at h
  by_cases h0 : 0 ≤ i
  · rw [if_pos h0] at h
    by_cases h1 : i < n
    · rw [if_pos h1] at h
      have e : i.toNat = j := Option.some.inj h
      exact ⟨by rw [seqIndex_of h0 h1, e], by omega, by omega, h1⟩
    · rw [if_neg h1] at h; cases h
  · rw [if_neg h0] at h
    by_cases h1 : -(n : Int) ≤ i
    · rw [if_pos h1] at h
      have e : (i + n).toNat = j := Option.some.inj h
      exact ⟨by rw [seqIndex_neg (by omega) h1, e], by omega, h1, by omega⟩
    · rw [if_neg h1] at h; cases h
theorem atI_get {α : Type} {xs : List α} {i : Int} {v : α} (h : atI xs i = some v) : ∃ j, seqIndex? i xs.length = some j ∧ xs[j]? = some v ∧ j < xs.length ∧ -(xs.length : Int) ≤ i ∧ i < xs.length := by
  unfold atI at h
  cases e : ixN xs.length i with
  | none => rw [e] at h; cases h
  | some j =>
    rw [e] at h
    obtain ⟨h1, h2, h3, h4⟩ := ixN_seq e
    exact ⟨j, h1, h, h2, h3, h4⟩
theorem atI_nat {α : Type} {xs : List α} {j : Nat} {v : α} (h : xs[j]? = some v) : atI xs (j : Int) = some v := by
  have hj : j < xs.length := (List.getElem?_eq_some_iff.mp h).1
  have e : ixN xs.length (j : Int) = some j := by
    unfold ixN
    rw [if_pos (by omega), if_pos (by omega)]; simp
  unfold atI; rw [e]; exact h
def PlainIx (b : Expr) : Prop := ∀ o i, subscripted b false o i = operate [o, i] (getItem o i)
def IxR (X : Cx) (r : R2) : Prop :=
  ∀ (value slice : Expr) (pins : List (Addr × Obj)) (s : Shared) (σ : St) (H : Hp) (x y : V) (v u : Value) (Q : VK), Inv X pins σ H s → RelV x v → RelV y u → r x y H Q →
    subscripted slice false v u = operate [v, u] (getItem v u) → wpAny (model X.prog X.w) X.A (subscriptTail value slice v u) (EP X pins σ Q) X.xe s
def MtR (X : Cx) (id : String) (r : V → List V → Hp → VK → Prop) : Prop :=
  ∀ (pins : List (Addr × Obj)) (s : Shared) (σ : St) (H : Hp) (x : V) (xs : List V) (v : Value) (us : List Value) (Q : VK), Inv X pins σ H s → RelV x v → Vals xs us → r x xs H Q →
    wpAny (model X.prog X.w) X.A (call (.builtin id) (v :: us)) (EP X pins σ Q) X.xe s
section
variable {X : Cx} {a b : Expr} {ta tb : TE} {pos : Pos}
theorem IxR.or {r r' : R2} (h : IxR X r) (h' : IxR X r') : IxR X (fun x y H Q => r x y H Q ∨ r' x y H Q) := by
  intro value slice pins s σ H x y v u Q I rx ry q hs
  rcases q with q | q
  · exact h value slice pins s σ H x y v u Q I rx ry q hs
  · exact h' value slice pins s σ H x y v u Q I rx ry q hs
theorem MtR.or {id : String} {r r' : V → List V → Hp → VK → Prop} (h : MtR X id r) (h' : MtR X id r') : MtR X id (fun x xs H Q => r x xs H Q ∨ r' x xs H Q) := by
  intro pins s σ H x xs v us Q I rx rs q
  rcases q with q | q
  · exact h pins s σ H x xs v us Q I rx rs q
  · exact h' pins s σ H x xs v us Q I rx rs q
theorem pe_ix {r : R2} (hr : IxR X r) (ha : PE X a ta) (hb : PE X b tb) (hs : PlainIx b) : PE X (.Subscript a b pos) (tOp r ta tb) := by
  intro pins s σ H Q I h
  exact Subscript_ (binT ha hb I h fun v u s2 x y H2 I2 rx ry q => hr a b pins s2 σ H2 x y v u Q I2 rx ry q (hs _ _))
def rIxL (K : PySem.W.Frag) : R2 := fun x y H Q => ∃ p xs i v, x = .ref p ∧ y = .int i ∧ SqL K H p xs ∧ atI xs i = some v ∧ Q v H
def rIxT (K : PySem.W.Frag) : R2 := fun x y H Q => ∃ p xs i v, x = .ref p ∧ y = .int i ∧ SqT K H p xs ∧ atI xs i = some v ∧ Q v H
def rIxS : R2 := fun x y H Q => ∃ z i c, x = .str z ∧ y = .int i ∧ z.length ≤ sizeLine ∧ atI z.cps.toList i = some c ∧ Q (.str ⟨#[c]⟩) H
theorem ix_list : IxR X (rIxL X.K) := by
  intro value slice pins s σ H x y v u Q I rx ry h hs
  obtain ⟨p, xs, i, z, rfl, rfl, hq, he, q⟩ := h
  cases rx
  obtain ⟨t, rfl⟩ := ry
  obtain ⟨its, r, pl, hz⟩ := I.list hq
  obtain ⟨j, h1, h2, h3, h4, h5⟩ := atI_get he
  obtain ⟨w, ew, rw'⟩ := r.get h2
  have hl := r.length
  have hn := line63
  have fin : EP X pins σ Q w s := ⟨z, H, I, rw', q⟩
  by_cases h0 : 0 ≤ i
  · have hj : i.toNat = j := by
      rw [seqIndex_of h0 h5] at h1
      exact Option.some.inj h1
    exact item_listR pl.isList h0 (by omega) (by rw [hj]; simpa using ew) fin hs
  · have hj : (i + (its.toArray.size : Int)).toNat = j := by
      rw [seqIndex_neg (by omega) h4] at h1
      rw [List.size_toArray, ← hl]
      exact Option.some.inj h1
    exact subscriptTail_builtinR (x := w) pl.isList.typeIs slot_list_getitem.lookup
      (wpAny_getItem_list_neg (Q := fun r s' => r = w ∧ EP X pins σ Q r s') pl.isList (by omega) (by rw [List.size_toArray] <;> omega) (by omega) (by rw [hj]; simpa using ew) ⟨rfl, fin⟩) hs
theorem ix_tup : IxR X (rIxT X.K) := by
  intro value slice pins s σ H x y v u Q I rx ry h hs
  obtain ⟨p, xs, i, z, rfl, rfl, hq, he, q⟩ := h
  cases rx
  obtain ⟨t, rfl⟩ := ry
  obtain ⟨its, r, pl, hz⟩ := I.tuple hq
  obtain ⟨j, h1, h2, h3, h4, h5⟩ := atI_get he
  obtain ⟨w, ew, rw'⟩ := r.get h2
  have hl := r.length
  have hn := line63
  have fin : EP X pins σ Q w s := ⟨z, H, I, rw', q⟩
  exact subscriptTail_builtinR (x := w) pl.typeIs slot_tuple_getitem.lookup
    (getItem_tuple (j := j) (Q := fun r s' => r = w ∧ EP X pins σ Q r s') pl (by omega) (by omega) (by rw [List.size_toArray, ← hl]; exact h1) (by simpa using ew) ⟨rfl, fin⟩) hs
theorem ix_str : IxR X rIxS := by
  intro value slice pins s σ H x y v u Q I rx ry h hs
  obtain ⟨z, i, c, rfl, rfl, hz, he, q⟩ := h
  obtain ⟨t, rfl⟩ := rx
  obtain ⟨t', rfl⟩ := ry
  obtain ⟨j, h1, h2, h3, h4, h5⟩ := atI_get he
  have hl : z.cps.toList.length = z.length := by simp [Str.length]
  rw [hl] at h1 h4 h5
  have hn := line63
  exact tail_any (typeIs_str s z t) slot_str_getitem.lookup (getItem_str (c := c) (by
    have e1 : decide (i < -(2 ^ 63 : Int)) = false := decide_eq_false (by omega)
    have e2 : decide (i ≥ 2 ^ 63) = false := decide_eq_false (by omega)
    rw [e1, e2, Bool.or_false]) (by rw [h1]; simpa using h2) ⟨.str ⟨#[c]⟩, H, I.tok _, ⟨_, rfl⟩, q⟩) hs
def rIx (K : PySem.W.Frag) : R2 := fun x y H Q => rIxL K x y H Q ∨ rIxT K x y H Q ∨ rIxS x y H Q
theorem ix_seq : IxR X (rIx X.K) := ix_list.or (ix_tup.or ix_str)
theorem mapSeq_set (its : List Value) (n j : Nat) (u : Value) : Obj.mapSeq (·.setIfInBounds j u) { cls := .type "list", data := .seq its.toArray n } = { cls := .type "list", data := .seq (its.set j u).toArray n } := by
  simp [Obj.mapSeq]
theorem Inv.lst {pins : List (Addr × Obj)} {σ : St} {H : Hp} {s : Shared} {p : Addr} {xs : List V} (I : Inv X pins σ H s) (h : H p = some (.lst xs)) :
    ∃ (its : List Value) (n : Nat), Vals xs its ∧ s.heap.get? p = some { cls := .type "list", data := .seq its.toArray n } ∧ xs.length ≤ sizeLine := by
  obtain ⟨z, its, n, r, e⟩ := I.hok p _ h
  exact ⟨its, n, r, e, z⟩
theorem Inv.lstUpd {pins : List (Addr × Obj)} {σ : St} {H : Hp} {s : Shared} {p : Addr} {xs ys : List V} {its its' : List Value} {n n' : Nat} {f : Obj → Obj} (I : Inv X pins σ H s) (h : H p = some (.lst xs))
    (ho : s.heap.get? p = some { cls := .type "list", data := .seq its.toArray n }) (hf : f { cls := .type "list", data := .seq its.toArray n } = { cls := .type "list", data := .seq its'.toArray n' }) (r : Vals ys its') (hz : ys.length ≤ sizeLine) (t : Nat) :
    Inv X pins σ (upd H p (.lst ys)) { s with heap := s.heap.update p f, toks := t } := by
  have e : (s.heap.update p f).get? p = some { cls := .type "list", data := .seq its'.toArray n' } := by
    rw [Heap.get?_update_self f ho (by rw [hf] <;> rfl), hf]
  refine I.write (x := p) (e := p) (by rw [h]; trivial) (.inl rfl) (fun b u hb q => (Heap.get?_update_other _ _ (Ne.symm hb)).trans q) ⟨_, e⟩ ?_
  exact ⟨hz, its', n', r, e⟩
def rSetL : V → V → V → Hp → (Hp → Prop) → Prop := fun o i v H Q => ∃ p xs k j, o = .ref p ∧ i = .int k ∧ H p = some (.lst xs) ∧ ixN xs.length k = some j ∧ Q (upd H p (.lst (xs.set j v)))
theorem set_list : PSet X rSetL := by
  intro pins s σ H o i v ov iv u Q I ro ri rv h
  obtain ⟨p, xs, k, j, rfl, rfl, hp, hj, q⟩ := h
  cases ro
  obtain ⟨t, rfl⟩ := ri
  obtain ⟨its, n, r, ho, hz⟩ := I.lst hp
  obtain ⟨h1, h2, h3, h4⟩ := ixN_seq hj
  have hl := r.length
  have hn := line63
  have I' : Inv X pins σ (upd H p (.lst (xs.set j v))) { s with heap := s.heap.update p (Obj.mapSeq (·.setIfInBounds j u)) } :=
    I.lstUpd hp ho (mapSeq_set its n j u) (r.set rv j) (by rw [List.length_set]; exact hz) s.toks
  by_cases h0 : 0 ≤ k
  · have hk : k.toNat = j := by
      rw [seqIndex_of h0 h4] at h1
      exact Option.some.inj h1
    exact PySem.W.ki_setAt ho h0 (by omega) (by rw [List.size_toArray, ← hl]; exact h4) (by rw [hk]; exact ⟨_, I', q⟩)
  · have hk : (k + (its.toArray.size : Int)).toNat = j := by
      rw [seqIndex_neg (by omega) h3] at h1
      rw [List.size_toArray, ← hl]
      exact Option.some.inj h1
    exact PySem.W.ki_setBack ho (by omega) (by rw [List.size_toArray, ← hl]; exact h3) (by omega) (by rw [hk]; exact ⟨_, I', q⟩)
theorem slice_bounds (lo hi : Option Int) (n : Nat) : (sliceBounds lo hi none n).1 = ((HT.sIx n 0 lo : Nat) : Int) ∧ (sliceBounds lo hi none n).2.1 = ((HT.sIx n n hi : Nat) : Int) ∧ (sliceBounds lo hi none n).2.2 = 1 := by
  refine ⟨?_, ?_, rfl⟩
  · cases lo with
    | none => simp [sliceBounds, HT.sIx]
    | some i =>
      simp only [sliceBounds, HT.sIx, Option.getD_none, show (1 : Int) > 0 by decide, if_true]
      by_cases h : i < 0
      · simp only [h, if_true] <;> omega
      · simp only [h, if_false] <;> omega
  · cases hi with
    | none => simp [sliceBounds, HT.sIx]
    | some i =>
      simp only [sliceBounds, HT.sIx, Option.getD_none, show (1 : Int) > 0 by decide, if_true]
      by_cases h : i < 0
      · simp only [h, if_true] <;> omega
      · simp only [h, if_false] <;> omega
theorem slicePick_cut (its : List Value) (lo hi : Option Int) : slicePick its.toArray lo hi none = ((its.drop (HT.sIx its.length 0 lo)).take (HT.sIx its.length its.length hi - HT.sIx its.length 0 lo)).toArray := by
  obtain ⟨h1, h2, h3⟩ := slice_bounds lo hi its.toArray.size
  unfold slicePick
  rw [h1, h2, h3]
  simp only [sliceRange_one, pick_run, List.size_toArray] <;> rfl
def rSlL (K : PySem.W.Frag) : V → Option Int → Option Int → Hp → VK → Prop := fun x lo hi H Q => ∃ a xs, x = .ref a ∧ SqL K H a xs ∧ ∀ p, H p = none → Q (.ref p) (upd H p (.lst (cutV xs lo hi)))
theorem sl_list : SlR X (rSlL X.K) := by
  intro pins s σ H x v vl vu lo hi sl Q I rx hs pl pu h
  obtain ⟨a, xs, rfl, hx, q⟩ := h
  cases rx
  obtain ⟨its, r, ht, hz⟩ := I.list hx
  have hlen := r.length
  refine ⟨"list", _, slot_list_getitem.lookup, ht.isList.typeIs, ?_⟩
  refine wpAny_getItem_list_slice ht.isList hs pl pu .none (by simp) ?_ (by rw [List.size_toArray] <;> omega)
  rw [slicePick_cut, ← hlen]
  refine ⟨.ref s.heap.objs.size, _, I.laid (t' := s.toks) (o := .lst (cutV xs lo hi)) (fun b ob q => Heap.get?_push_of_some _ q) (Nat.le_refl _) ?_, rfl, q _ (I.hok.fresh (Nat.le_refl _))⟩
  exact ⟨Nat.le_trans (cutV_length xs lo hi) hz, _, 0, (r.drop (HT.sIx xs.length 0 lo)).take (HT.sIx xs.length xs.length hi - HT.sIx xs.length 0 lo), Heap.get?_push_size _ rfl⟩
def flatV : V → Bool
  | .non => true
  | .bl _ => true
  | .int _ => true
  | .str _ => true
  | _ => false
def eqV : V → V → Bool
  | .non, .non => true
  | .bl a, .bl b => a == b
  | .bl a, .int b => (if a then 1 else 0) == b
  | .int a, .bl b => a == (if b then 1 else 0)
  | .int a, .int b => a == b
  | .str a, .str b => a == b
  | _, _ => false
theorem eqAt_V {A : Around} {s : Shared} {y x : V} {u v : Value} (ry : RelV y u) (rx : RelV x v) (fy : flatV y = true) (fx : flatV x = true) : SeqAt.EqAt A s u v (eqV y x) := by
  cases y with
  | non =>
    cases ry
    cases x with
    | non => cases rx; exact SeqAt.EqAt.same _
    | bl b => cases rx; exact SeqAt.EqAt.none_bool b
    | int b => obtain ⟨t, rfl⟩ := rx; exact SeqAt.EqAt.none_int b t
    | str b => obtain ⟨t, rfl⟩ := rx; exact SeqAt.EqAt.none_str b t
    | _ => exact absurd (show false = true from fx) Bool.false_ne_true
  | bl a =>
    cases ry
    cases x with
    | non => cases rx; exact SeqAt.EqAt.bool_none a
    | bl b => cases rx; exact SeqAt.EqAt.bool_bool a b
    | int b => obtain ⟨t, rfl⟩ := rx; exact SeqAt.EqAt.bool_int a b t
    | str b => obtain ⟨t, rfl⟩ := rx; exact SeqAt.EqAt.bool_str a b t
    | _ => exact absurd (show false = true from fx) Bool.false_ne_true
  | int a =>
    obtain ⟨t', rfl⟩ := ry
    cases x with
    | non => cases rx; exact SeqAt.EqAt.int_none a t'
    | bl b => cases rx; exact SeqAt.EqAt.int_bool a t' b
    | int b => obtain ⟨t, rfl⟩ := rx; exact SeqAt.EqAt.int_int a t' b t
    | str b => obtain ⟨t, rfl⟩ := rx; exact SeqAt.EqAt.int_str a t' b t
    | _ => exact absurd (show false = true from fx) Bool.false_ne_true
  | str a =>
    obtain ⟨t', rfl⟩ := ry
    cases x with
    | non => cases rx; exact SeqAt.EqAt.str_none a t'
    | bl b => cases rx; exact SeqAt.EqAt.str_bool a t' b
    | int b => obtain ⟨t, rfl⟩ := rx; exact SeqAt.EqAt.str_int a t' b t
    | str b => obtain ⟨t, rfl⟩ := rx; exact SeqAt.EqAt.str_str a t' b t
    | _ => exact absurd (show false = true from fx) Bool.false_ne_true
  | _ => exact absurd (show false = true from fy) Bool.false_ne_true
def eqU (x : V) (u : Value) : Bool := match u with
  | .none => eqV .non x
  | .bool b => eqV (.bl b) x
  | .int i _ => eqV (.int i) x
  | .str z _ => eqV (.str z) x
  | _ => false
theorem eqU_of {x y : V} {u : Value} (r : RelV y u) (f : flatV y = true) : eqU x u = eqV y x := by
  cases y with
  | non => cases r; rfl
  | bl b => cases r; rfl
  | int i => obtain ⟨t, rfl⟩ := r; rfl
  | str z => obtain ⟨t, rfl⟩ := r; rfl
  | _ => exact absurd (show false = true from f) Bool.false_ne_true
theorem any_eqU {x : V} : ∀ {xs : List V} {us : List Value}, Vals xs us → xs.all flatV = true → us.any (eqU x) = xs.any fun y => eqV y x
  | _, _, .nil, _ => rfl
  | y :: xs, u :: us, .cons r t, f => by
    rw [List.all_cons, Bool.and_eq_true] at f
    rw [List.any_cons, List.any_cons, eqU_of r f.1, any_eqU t f.2]
theorem mem_eqAt {A : Around} {s : Shared} {x : V} {v : Value} (rx : RelV x v) (fx : flatV x = true) : ∀ {xs : List V} {us : List Value}, Vals xs us → xs.all flatV = true → ∀ u ∈ us, SeqAt.EqAt A s u v (eqU x u)
  | _, _, .nil, _ => fun u hu => by cases hu
  | y :: xs, u :: us, .cons r t, f => fun u' hu => by
    rw [List.all_cons, Bool.and_eq_true] at f
    rcases List.mem_cons.mp hu with rfl | hu
    · rw [eqU_of r f.1]; exact eqAt_V r rx f.1 fx
    · exact mem_eqAt rx fx t f.2 u' hu
def inV (x : V) (xs : List V) : Bool := xs.any fun y => eqV y x
def rIn (K : PySem.W.Frag) (neg : Bool) : R2 := fun x y H Q => ∃ p xs, y = .ref p ∧ (SqL K H p xs ∨ SqT K H p xs) ∧ flatV x = true ∧ xs.all flatV = true ∧ Q (.bl (if neg then !inV x xs else inV x xs)) H
theorem op_in_seq : OpR X (compareOp .In) (rIn X.K false) := by
  intro pins s σ H x y v u Q I rx ry h
  obtain ⟨p, xs, rfl, hq, fx, fs, q⟩ := h
  cases ry
  rcases hq with hq | hq
  · obtain ⟨its, r, pl, hz⟩ := I.list hq
    refine SeqAt.in_listAt (eqU x) pl.isList (fun w hw => mem_eqAt rx fx r fs w (by simpa using hw)) ⟨.bl _, H, I, rfl, ?_⟩
    rw [show its.toArray.any (eqU x) = its.any (eqU x) by simp, any_eqU r fs]
    exact q
  · obtain ⟨its, r, pl, hz⟩ := I.tuple hq
    refine SeqAt.in_tupleAt (eqU x) pl (fun w hw => mem_eqAt rx fx r fs w (by simpa using hw)) ⟨.bl _, H, I, rfl, ?_⟩
    rw [show its.toArray.any (eqU x) = its.any (eqU x) by simp, any_eqU r fs]
    exact q
theorem op_notIn_seq : OpR X (compareOp .NotIn) (rIn X.K true) := by
  intro pins s σ H x y v u Q I rx ry h
  obtain ⟨p, xs, rfl, hq, fx, fs, q⟩ := h
  cases ry
  rcases hq with hq | hq
  · obtain ⟨its, r, pl, hz⟩ := I.list hq
    refine SeqAt.notIn_listAt (eqU x) pl.isList (fun w hw => mem_eqAt rx fx r fs w (by simpa using hw)) ⟨.bl _, H, I, rfl, ?_⟩
    rw [show its.toArray.any (eqU x) = its.any (eqU x) by simp, any_eqU r fs]
    exact q
  · obtain ⟨its, r, pl, hz⟩ := I.tuple hq
    refine SeqAt.notIn_tupleAt (eqU x) pl (fun w hw => mem_eqAt rx fx r fs w (by simpa using hw)) ⟨.bl _, H, I, rfl, ?_⟩
    rw [show its.toArray.any (eqU x) = its.any (eqU x) by simp, any_eqU r fs]
    exact q
theorem call_len_seq : CallR X (.builtin "len") (fun xs H Q => ∃ p ys, xs = [.ref p] ∧ (SqL X.K H p ys ∨ SqT X.K H p ys) ∧ Q (.int ys.length) H) := by
  intro pins s σ H xs us Q I r h
  obtain ⟨p, ys, rfl, hq, q⟩ := h
  obtain ⟨u, rfl, rx⟩ := vals1 r
  cases rx
  have hn := line63
  rcases hq with hq | hq
  · obtain ⟨its, r', pl, hz⟩ := I.list hq
    have hlen := r'.length
    exact Calls.call_len_list pl.isList (by simp only [List.size_toArray] <;> omega) ⟨.int ys.length, H, I.tok _, ⟨s.toks + 1, by rw [List.size_toArray, hlen]⟩, q⟩
  · obtain ⟨its, r', pl, hz⟩ := I.tuple hq
    have hlen := r'.length
    exact len_tuple pl (by simp only [List.size_toArray] <;> omega) ⟨.int ys.length, H, I.tok _, ⟨s.toks + 1, by rw [List.size_toArray, hlen]⟩, q⟩
theorem CallR.or {f : Value} {r r' : List V → Hp → VK → Prop} (h : CallR X f r) (h' : CallR X f r') : CallR X f (fun xs H Q => r xs H Q ∨ r' xs H Q) := by
  intro pins s σ H xs us Q I rs q
  rcases q with q | q
  · exact h pins s σ H xs us Q I rs q
  · exact h' pins s σ H xs us Q I rs q
theorem call_list_of : CallR X (.type "list") (fun xs H Q => ∃ p ys, xs = [.ref p] ∧ (SqL X.K H p ys ∨ SqT X.K H p ys) ∧ ∀ l, H l = none → Q (.ref l) (upd H l (.lst ys))) := by
  intro pins s σ H xs us Q I r h
  obtain ⟨p, ys, rfl, hq, q⟩ := h
  obtain ⟨u, rfl, rx⟩ := vals1 r
  cases rx
  have fin : ∀ (its : List Value), Vals ys its → ys.length ≤ sizeLine → ∀ (h' : Heap) (c' : Nat), (∀ b o', s.heap.get? b = some o' → h'.get? b = some o') →
      h'.get? s.heap.objs.size = some { cls := .type "list", dict := none, data := .seq its.toArray c', slots := #[] } → EP X pins σ Q (.ref s.heap.objs.size) { s with heap := h' } := fun its r' hz h' c' kp e =>
    ⟨.ref s.heap.objs.size, _, I.laid (t' := s.toks) kp (Nat.le_refl _) (show ObjOk X.prog X.w _ h' _ (.lst ys) from ⟨hz, its, c', r', e⟩), rfl, q _ (I.hok.fresh (Nat.le_refl _))⟩
  rcases hq with hq | hq
  · obtain ⟨its, r', pl, hz⟩ := I.list hq
    have hlen := r'.length
    obtain ⟨o, ho, hc, n, hd⟩ := pl.isList
    exact call_list_seq p (.inl rfl) ho hc hd (fun h' c' kp e => fin its r' hz h' c' kp e) (by simp only [List.size_toArray] <;> omega)
  · obtain ⟨its, r', pl, hz⟩ := I.tuple hq
    have hlen := r'.length
    obtain ⟨o, ho, hc, n, hd⟩ := pl
    exact call_list_seq p (.inr rfl) ho hc hd (fun h' c' kp e => fin its r' hz h' c' kp e) (by simp only [List.size_toArray] <;> omega)
theorem call_tuple_of : CallR X (.type "tuple") (fun xs H Q => ∃ p ys, xs = [.ref p] ∧ ((SqL X.K H p ys ∧ ∀ l, H l = none → Q (.ref l) (upd H l (.tup ys))) ∨ (SqT X.K H p ys ∧ Q (.ref p) H))) := by
  intro pins s σ H xs us Q I r h
  obtain ⟨p, ys, rfl, h⟩ := h
  obtain ⟨u, rfl, rx⟩ := vals1 r
  cases rx
  rcases h with ⟨hq, q⟩ | ⟨hq, q⟩
  · obtain ⟨its, r', pl, hz⟩ := I.list hq
    have hlen := r'.length
    refine call_tuple_list pl.isList (fun h' kp => ?_) (by simp only [List.size_toArray] <;> omega)
    have I1 : Inv X pins σ H { s with heap := h' } := I.kept (t' := s.toks) kp
    have I2 : Inv X pins σ (upd H h'.objs.size (.tup ys)) { s with heap := h'.push { cls := .type "tuple", data := .seq its.toArray } } :=
      I1.laid (t' := s.toks) (fun b o e => Heap.get?_push_of_some _ e) (Nat.le_refl _) (show ObjOk X.prog X.w _ _ _ (.tup ys) from ⟨hz, its, r', IsTup.new _ _⟩)
    exact ⟨.ref h'.objs.size, _, I2, rfl, q _ (I1.hok.fresh (Nat.le_refl _))⟩
  · obtain ⟨its, r', pl, hz⟩ := I.tuple hq
    exact call_tuple_same pl ⟨.ref p, H, I, rfl, q⟩
def tyV (K : PySem.W.Frag) (T : String) (x : V) (H : Hp) : Prop := match x with
  | .str _ => T = "str"
  | .int _ => T = "int"
  | .ref p => (T = "list" ∧ ∃ xs, SqL K H p xs) ∨ (T = "tuple" ∧ ∃ o, K.lookup p = some o ∧ o.cls = .type "tuple" ∧ o.dict = none) ∨
      (T = "dict" ∧ ((∃ kvs, H p = some (.dK kvs)) ∨ ∃ kvs, H p = some (.dT kvs))) ∨ (T = "set" ∧ ∃ S n, H p = some (.set S n))
  | _ => False
theorem tyV_is {pins : List (Addr × Obj)} {σ : St} {H : Hp} {s : Shared} {T : String} {x : V} {v : Value} (I : Inv X pins σ H s) (r : RelV x v) (ty : tyV X.K T x H) :
    s.TypeIs v T ∧ ∀ a, v = .ref a → ∃ ob, s.heap.get? a = some ob ∧ ob.dict = none := by
  cases x with
  | str z =>
    obtain ⟨t, rfl⟩ := r
    cases (show T = "str" from ty)
    exact ⟨typeIs_str s z t, fun _ e => nomatch e⟩
  | int i =>
    obtain ⟨t, rfl⟩ := r
    cases (show T = "int" from ty)
    exact ⟨typeIs_int s i t, fun _ e => nomatch e⟩
  | ref p =>
    cases r
    rcases ty with ⟨rfl, xs, hq⟩ | ⟨rfl, o, hk, hc, hd⟩ | ⟨rfl, hk⟩ | ⟨rfl, S, n, hk⟩
    · obtain ⟨its, _, pl, _⟩ := I.list hq
      refine ⟨pl.isList.typeIs, fun a e => ?_⟩
      cases e
      obtain ⟨o, n, e, c, hd, _⟩ := pl
      exact ⟨o, e, hd⟩
    · refine ⟨⟨o, I.kIn p o hk, hc⟩, fun a e => ?_⟩
      cases e
      exact ⟨o, I.kIn _ o hk, hd⟩
    · have z : ∃ o, s.heap.get? p = some o ∧ o.ExactDict := by
        rcases hk with ⟨kvs, hk⟩ | ⟨kvs, hk⟩
        · obtain ⟨_, _, _, _, o, _, _, e, ex, _⟩ := I.hok p _ hk
          exact ⟨o, e, ex⟩
        · obtain ⟨_, _, _, _, o, _, _, e, ex, _⟩ := I.hok p _ hk
          exact ⟨o, e, ex⟩
      obtain ⟨o, e, ex⟩ := z
      refine ⟨⟨o, e, ex.1⟩, fun a e2 => ?_⟩
      cases e2
      exact ⟨o, e, ex.2.1⟩
    · obtain ⟨o, _, _, _, e, ex, _⟩ := I.hok p _ hk
      refine ⟨⟨o, e, ex.1⟩, fun a e2 => ?_⟩
      cases e2
      exact ⟨o, e, ex.2.1⟩
  | _ => exact False.elim ty
def tBM0 (K : PySem.W.Frag) (T : String) (r : V → List V → Hp → VK → Prop) (to : TE) : TE := fun σ H Q => to σ H fun x H1 => tyV K T x H1 ∧ r x [] H1 Q
def tBM (K : PySem.W.Frag) (T : String) (r : V → List V → Hp → VK → Prop) (to : TE) (t : TA) : TE := fun σ H Q => to σ H fun x H1 => tyV K T x H1 ∧ t σ H1 fun xs H2 => r x xs H2 Q
variable {o e : Expr} {es : List Expr} {to : TE} {t : TA} {name : Str} {apos cpos : Pos} {T id : String} {r : V → List V → Hp → VK → Prop}
theorem pe_bm (pa : PlainAttrs T) (slot : Slot T name id) (hty : typeOf (.builtin id) = pure (.type "method_descriptor")) (hm : MtR X id r) (ho : PE X o to) (ha : PA X (e :: es) t)
    (hbase : attributeBase o name X.env (eval o X.env) = eval o X.env := by rfl)
    (hfew : ((backTo cpos (starEach (e :: es) X.env)).all (fun x => !x.1) && (backToKw cpos (keywordEach [] X.env)).all (fun x => x.1.isSome)
      && decide ((e :: es).length + ([] : List Keyword).length + (if ([] : List Keyword).isEmpty then 0 else 1) < 30)) = true := by rfl)
    (hline : (apos.endLine == cpos.line) = true := by rfl) (hs : starEach (e :: es) X.env = (false, eval e X.env) :: starEach es X.env := by rfl) (hplain : (backTo cpos (starEach es X.env)).any (·.1) = false := by rfl) :
    PE X (.Call (.Attribute o name apos) (e :: es) [] cpos) (tBM X.K T r to t) := by
  intro pins s σ H Q I h
  refine wpAny_Call_method_late hbase hfew hline rfl (thn (ho pins s σ H _ I h) fun v s1 ⟨x, H1, I1, r1, ty, q1⟩ => ?_)
  obtain ⟨h1, h2⟩ := tyV_is I1 r1 ty
  refine ⟨T, id, pa, slot, hty, h1, h2, ?_⟩
  have hA := ha cpos pins s1 σ H1 _ I1 q1
  rw [hs] at hA ⊢
  refine Calls.callWith_builtin (by show (false || (backTo cpos (starEach es X.env)).any (·.1)) = false; rw [hplain] <;> rfl) (Calls.evalArgs_plain ?_)
  exact thn hA fun us s2 ⟨vs, H2, I2, r2, q2⟩ => hm pins s2 σ H2 x vs v us Q I2 r1 r2 q2
end
end L2
namespace L2
open PySem PySem.Spec PyProof.Rows
def MtM (X : Cx) (id : String) (r : V → List V → Hp → VK → Prop) : Prop :=
  ∀ (pins : List (Addr × Obj)) (s : Shared) (σ : St) (H : Hp) (x : V) (xs : List V) (v : Value) (us : List Value) (Q : VK), Inv X pins σ H s → RelV x v → Vals xs us → r x xs H Q →
    wpAny (model X.prog X.w) X.A (call (.builtin id) (v :: us)) (EP X pins σ Q) X.xe s
theorem Vals.one : ∀ {x : V} {us : List Value}, Vals [x] us → ∃ u, us = [u] ∧ RelV x u
  | _, _, .cons r .nil => ⟨_, rfl, r⟩
theorem Vals.two : ∀ {x y : V} {us : List Value}, Vals [x, y] us → ∃ u v, us = [u, v] ∧ RelV x u ∧ RelV y v
  | _, _, _, .cons r (.cons q .nil) => ⟨_, _, rfl, r, q⟩
theorem Vals.zero : ∀ {us : List Value}, Vals [] us → us = []
  | _, .nil => rfl
theorem Vals.dropLast {xs : List V} {us : List Value} (h : Vals xs us) : Vals xs.dropLast us.dropLast := by
  induction h with
  | nil => exact .nil
  | cons r t ih =>
    cases t with
    | nil => exact .nil
    | cons q t' => exact .cons r ih
theorem Vals.eraseIdx : ∀ {xs : List V} {us : List Value} (i : Nat), Vals xs us → Vals (xs.eraseIdx i) (us.eraseIdx i)
  | _, _, _, .nil => .nil
  | _, _, 0, .cons _ t => t
  | _, _, i + 1, .cons r t => .cons r (Vals.eraseIdx i t)
theorem Vals.reverse {xs : List V} {us : List Value} (h : Vals xs us) : Vals xs.reverse us.reverse := by
  induction h with
  | nil => exact .nil
  | cons r t ih => rw [List.reverse_cons, List.reverse_cons]; exact Vals.append ih (.cons r .nil)
theorem Vals.rep {xs : List V} {us : List Value} (h : Vals xs us) : ∀ k : Nat, Vals (List.replicate k xs).flatten (List.replicate k us).flatten
  | 0 => .nil
  | k + 1 => by
    rw [List.replicate_succ, List.replicate_succ, List.flatten_cons, List.flatten_cons]
    exact Vals.append h (Vals.rep h k)
theorem foldl_rep (its : List Value) : ∀ (k : Nat) (acc : List Value),
    List.foldl (fun x1 x2 => x1 ++ x2) acc.toArray (List.replicate k its.toArray) = (acc ++ (List.replicate k its).flatten).toArray
  | 0, acc => by simp
  | k + 1, acc => by
    have e : acc.toArray ++ its.toArray = (acc ++ its).toArray := by simp
    have e2 : (acc ++ its) ++ (List.replicate k its).flatten = acc ++ (List.replicate (k + 1) its).flatten := by
      rw [List.replicate_succ, List.flatten_cons, List.append_assoc]
    rw [← e2, ← foldl_rep its k (acc ++ its), ← e, List.replicate_succ, List.foldl_cons]
section
variable {X : Cx} {pins : List (Addr × Obj)} {σ : St} {H : Hp} {s : Shared} {l b : Addr} {xs ys zs : List V}
theorem Inv.lset {its its' : List Value} {n : Nat} {f : Array Value → Array Value} {t' : Nat} (I : Inv X pins σ H s) (hH : H l = some (.lst xs))
    (e : s.heap.get? l = some { cls := .type "list", data := .seq its.toArray n }) (hf : f its.toArray = its'.toArray) (hv : Vals ys its') (hz : ys.length ≤ sizeLine) :
    Inv X pins σ (upd H l (.lst ys)) { s with heap := s.heap.update l (Obj.mapSeq f), toks := t' } := by
  have q := PySem.IsL.update e f
  rw [hf] at q
  refine I.write (x := l) (e := l) (by rw [hH]; exact trivial) (.inl rfl) (fun b' u hb hu => (Heap.get?_update_other s.heap (Obj.mapSeq f) (Ne.symm hb)).trans hu) ⟨_, q⟩ ?_
  exact ⟨hz, its', _, hv, q⟩
theorem Inv.lnew {its : List Value} {t' : Nat} (I : Inv X pins σ H s) (hv : Vals ys its) (hz : ys.length ≤ sizeLine) :
    Inv X pins σ (upd H s.heap.objs.size (.lst ys)) { s with heap := s.heap.push { cls := .type "list", data := .seq its.toArray }, toks := t' } :=
  I.laid (fun _ _ q => Heap.get?_push_of_some _ q) (Nat.le_refl _) ⟨hz, its, 0, hv, Heap.get?_push_size _ rfl⟩
theorem Inv.fresh (I : Inv X pins σ H s) : H s.heap.objs.size = none := I.hok.fresh (Nat.le_refl _)
theorem Inv.lstM (I : Inv X pins σ H s) (hH : H l = some (.lst xs)) : xs.length ≤ sizeLine ∧ ∃ (its : List Value) (n : Nat), Vals xs its ∧ xs.length = its.length ∧ s.heap.get? l = some { cls := .type "list", data := .seq its.toArray n } := by
  obtain ⟨z, its, n, r, e⟩ := I.hok l _ hH
  exact ⟨z, its, n, r, r.length, e⟩
theorem notLongL {n : Nat} (h : n ≤ sizeLine) : Builtin.List.listTooLong n = false := by
  unfold Builtin.List.listTooLong
  exact decide_eq_false (by omega)
end
section
variable {X : Cx}
def rAppend : V → List V → Hp → VK → Prop := fun x vs H Q => ∃ l xs y, x = .ref l ∧ vs = [y] ∧ H l = some (.lst xs) ∧ xs.length < sizeLine ∧ Q .non (upd H l (.lst (xs ++ [y])))
theorem mt_append : MtM X "list.append" rAppend := by
  intro pins s σ H x vs v us Q I rx rv h
  obtain ⟨l, xs, y, rfl, rfl, hH, hz, q⟩ := h
  cases rx
  obtain ⟨u, rfl, ru⟩ := rv.one
  obtain ⟨z, its, n, r, hl, e⟩ := I.lstM hH
  refine call_meets F.slot_list_append ⟨_, e, rfl⟩ F.entry_list_append (F.args_list_append_2 _ _) (PySem.list_append l its.toArray n u (by rw [List.size_toArray]; omega)) ⟨e, ?_⟩
  refine ⟨.non, _, I.lset (its' := its ++ [u]) hH e (by simp) (r.append (.cons ru .nil)) ?_, rfl, q⟩
  rw [List.length_append, List.length_singleton]
  omega
def rExtend : V → List V → Hp → VK → Prop := fun x vs H Q => ∃ l b xs zs, x = .ref l ∧ vs = [.ref b] ∧ H l = some (.lst xs) ∧ H b = some (.lst zs) ∧ xs.length + zs.length ≤ sizeLine ∧ Q .non (upd H l (.lst (xs ++ zs)))
def rPop : V → List V → Hp → VK → Prop := fun x vs H Q => ∃ l xs y, x = .ref l ∧ vs = [] ∧ H l = some (.lst xs) ∧ xs[xs.length - 1]? = some y ∧ Q y (upd H l (.lst xs.dropLast))
def rPopAt : V → List V → Hp → VK → Prop := fun x vs H Q => ∃ l xs i k y, x = .ref l ∧ vs = [.int i] ∧ H l = some (.lst xs) ∧ -(2 ^ 63) ≤ i ∧ i < 2 ^ 63 ∧ seqIndex? i xs.length = some k ∧ xs[k]? = some y ∧ Q y (upd H l (.lst (xs.eraseIdx k)))
def rReverse : V → List V → Hp → VK → Prop := fun x vs H Q => ∃ l xs, x = .ref l ∧ vs = [] ∧ H l = some (.lst xs) ∧ Q .non (upd H l (.lst xs.reverse))
def rClear : V → List V → Hp → VK → Prop := fun x vs H Q => ∃ l xs, x = .ref l ∧ vs = [] ∧ H l = some (.lst xs) ∧ Q .non (upd H l (.lst []))
def rCat : R2 := fun x y H Q => ∃ l b xs zs, x = .ref l ∧ y = .ref b ∧ H l = some (.lst xs) ∧ H b = some (.lst zs) ∧ xs.length + zs.length ≤ sizeLine ∧ ∀ p, H p = none → Q (.ref p) (upd H p (.lst (xs ++ zs)))
theorem op_cat : OpR X (binaryOp .Add) rCat := by
  intro pins s σ H x y v u Q I rx ry h
  obtain ⟨l, b, xs, zs, rfl, rfl, hH, hB, hz, q⟩ := h
  cases rx
  cases ry
  obtain ⟨z, its, n, r, hl, e⟩ := I.lstM hH
  obtain ⟨z2, its2, n2, r2, hl2, e2⟩ := I.lstM hB
  refine PySem.P.add_list e e2 ?_ (by rw [List.size_toArray, List.size_toArray]; omega)
  have ea : its.toArray ++ its2.toArray = (its ++ its2).toArray := by simp
  rw [ea]
  exact ⟨.ref _, _, I.lnew (t' := s.toks) (r.append r2) (by rw [List.length_append]; omega), rfl, q _ I.fresh⟩
def rRep : R2 := fun x y H Q => ∃ l k xs, x = .ref l ∧ y = .int k ∧ H l = some (.lst xs) ∧ -(2 ^ 63) ≤ k ∧ k < 2 ^ 63 ∧ xs.length * k.toNat ≤ sizeLine ∧
  ∀ p, H p = none → Q (.ref p) (upd H p (.lst (List.replicate k.toNat xs).flatten))
theorem len_rep {α : Type} (xs : List α) (k : Nat) : (List.replicate k xs).flatten.length = k * xs.length := by
  induction k with
  | zero => simp
  | succ k ih => rw [List.replicate_succ, List.flatten_cons, List.length_append, ih, Nat.succ_mul, Nat.add_comm]
theorem op_rep : OpR X (binaryOp .Mult) rRep := by
  intro pins s σ H x y v u Q I rx ry h
  obtain ⟨l, k, xs, rfl, rfl, hH, h1, h2, hz, q⟩ := h
  cases rx
  obtain ⟨t, rfl⟩ := ry
  obtain ⟨z, its, n, r, hl, e⟩ := I.lstM hH
  have hlen : its.toArray.size * k.toNat ≤ sizeLine := by rw [List.size_toArray, ← hl]; exact hz
  have hcap : ¬ its.toArray.size * k.toNat > (2 ^ 63 - 1) / 8 := by
    have : (sizeLine : Nat) ≤ (2 ^ 63 - 1) / 8 := by decide
    omega
  have hfit : ¬ (!Builtin.List.listFitsIndex k) = true := by
    rw [fitsIndex_both h1 h2]
    exact Bool.false_ne_true
  have hlong : ¬ Builtin.List.listTooLong (its.toArray.size * k.toNat) = true := by
    rw [notLongL hlen]
    exact Bool.false_ne_true
  have hnew : List.foldl (fun x1 x2 => x1 ++ x2) #[] (List.replicate (if its.toArray.isEmpty = true then 0 else k.toNat) its.toArray) = (List.replicate k.toNat its).flatten.toArray := by
    have f0 : ∀ m : Nat, List.foldl (fun x1 x2 => x1 ++ x2) #[] (List.replicate m its.toArray) = (List.replicate m its).flatten.toArray := fun m => by
      have := foldl_rep its m []
      rw [List.nil_append] at this
      exact this
    rw [f0]
    cases its with
    | nil => simp
    | cons a r' => rw [if_neg (by simp)]
  refine wpAny_binaryOp_repeat_ref (T := "list") (U := "int") (by decide) ⟨_, e, rfl⟩ (fun s' => typeIs_int s' k t) noFill_list_mul F.fills_int_mul F.slot_int_rmul repeat_list F.slot_int_index.lookup
    (call_meets F.slot_int_rmul (typeIs_int s k t) F.entry_int_rmul (F.args_int_rmul_2 _ _) (int___rmul___int_list k t l its.toArray n)
      ⟨e, rfl, ⟨_, e, rfl⟩, call_meets F.slot_list_mul ⟨_, e, rfl⟩ F.entry_list_mul (F.args_list_mul_2 _ _) (AutoListH.list___mul___list_int_3 l its.toArray n k t hfit hcap hlong) ⟨e, ?_⟩⟩)
  rw [hnew]
  exact ⟨.ref _, _, I.lnew (t' := s.toks) (r.rep k.toNat) (by rw [len_rep, Nat.mul_comm]; exact hz), rfl, q _ I.fresh⟩
end
section
variable {prog : Program} {w : World} {A : Around} {E : Value → Shared → Prop} {s : Shared}
end
section
variable {X : Cx}
end
end L2
namespace L2
open PySem PySem.Spec PyProof.Rows
theorem Vals.ints : ∀ {ns : List Int} {us : List Value}, Vals (ns.map V.int) us → IntsAre us ns
  | [], us, h => by
    rw [List.map_nil] at h
    cases h
    exact IntsAre.nil
  | n :: ns, us, h => by
    rw [List.map_cons] at h
    cases h with
    | cons r t =>
      obtain ⟨k, rfl⟩ := r
      exact IntsAre.cons n k (Vals.ints t)
theorem vals_of_ints : ∀ {us : List Value} {ns : List Int}, IntsAre us ns → Vals (ns.map V.int) us
  | _, _, .nil => by rw [List.map_nil]; exact Paired.nil
  | _, _, .cons n t h => by rw [List.map_cons]; exact Paired.cons (show RelV (V.int n) (Value.int n t) from ⟨t, rfl⟩) (vals_of_ints h)
theorem Vals.strs : ∀ {xs : List Str} {us : List Value}, Vals (xs.map V.str) us → StrsAre us xs
  | [], us, h => by
    rw [List.map_nil] at h
    cases h
    exact StrsAre.nil
  | x :: xs, us, h => by
    rw [List.map_cons] at h
    cases h with
    | cons r t =>
      obtain ⟨k, rfl⟩ := r
      exact StrsAre.cons x k (Vals.strs t)
theorem Vals.bls : ∀ {bs : List Bool} {us : List Value}, Vals (bs.map V.bl) us → us = bs.map Value.bool
  | [], us, h => by
    rw [List.map_nil] at h
    cases h
    rfl
  | b :: bs, us, h => by
    rw [List.map_cons] at h
    cases h with
    | cons r t =>
      cases r
      rw [Vals.bls t, List.map_cons]
theorem Vals.ref1 {a : Addr} {us : List Value} (r : Vals [V.ref a] us) : us = [Value.ref a] := by
  cases r with
  | cons r t =>
    cases t
    cases r
    rfl
section
variable {prog : Program} {w : World} {A : Around} {E : Value → Shared → Prop} {s : Shared} {l : Addr} {its : List Value} {ns : List Int} {Q : Value → Shared → Prop}
theorem sum_raw (hh : A.handled = none) (hl : s.heap.IsList l its.toArray) (hi : IntsAre its ns)
    (h : ∀ h' tk t', (∀ b o, s.heap.get? b = some o → h'.get? b = some o) → Q (.int ns.sum t') { s with heap := h', toks := tk }) : wpAny (model prog w) A (call (.builtin "sum") [.ref l]) Q E s := by
  obtain ⟨xs, e⟩ := hi.allInts.items
  have hn : numsOf (intItems xs).toList = ns := by rw [← e]; exact hi.numsOf
  rw [nums_intItems] at hn
  rw [e] at hl
  refine PySem.sum_intListG hh hl fun h' tk t' hk => ?_
  have := h h' tk t' hk
  rw [preSum_eq, List.take_of_length_le (by simp), hn]; exact this
end
section
variable {X : Cx}
def rSum (K : PySem.W.Frag) : List V → Hp → VK → Prop := fun vs H Q => ∃ (a : Addr) (ns : List Int), vs = [V.ref a] ∧ SqL K H a (ns.map V.int) ∧ Q (.int ns.sum) H
def rMax (K : PySem.W.Frag) : List V → Hp → VK → Prop := fun vs H Q => ∃ (a : Addr) (ns : List Int), vs = [V.ref a] ∧ SqL K H a (ns.map V.int) ∧ 0 < ns.length ∧ ∀ m, m ∈ ns → (∀ y, y ∈ ns → y ≤ m) → Q (.int m) H
def rMin (K : PySem.W.Frag) : List V → Hp → VK → Prop := fun vs H Q => ∃ (a : Addr) (ns : List Int), vs = [V.ref a] ∧ SqL K H a (ns.map V.int) ∧ 0 < ns.length ∧ ∀ m, m ∈ ns → (∀ y, y ∈ ns → m ≤ y) → Q (.int m) H
theorem cr_sum (hc : X.calm = true) : CallR X (.builtin "sum") (rSum X.K) := by
  intro pins s σ H vs us Q I r h
  obtain ⟨a, ns, rfl, hs, q⟩ := h
  obtain ⟨its, rv, hl, _⟩ := I.list hs
  rw [Vals.ref1 r]
  exact sum_raw (I.ok.hd hc) hl.isList rv.ints fun h' tk t' hk => ⟨.int _, H, I.kept hk, ⟨_, rfl⟩, q⟩
def rSorted (K : PySem.W.Frag) : List V → Hp → VK → Prop := fun vs H Q => ∃ (a : Addr) (ns : List Int), vs = [V.ref a] ∧ SqL K H a (ns.map V.int) ∧ ns.length < 64 ∧
  ∀ (ns' : List Int) (p : Addr), ns'.Perm ns → ns'.Pairwise (· ≤ ·) → H p = none → Q (.ref p) (upd H p (.lst (ns'.map V.int)))
def rSortedS (K : PySem.W.Frag) : List V → Hp → VK → Prop := fun vs H Q => ∃ (a : Addr) (xs : List Str), vs = [V.ref a] ∧ SqL K H a (xs.map V.str) ∧ xs.length < 64 ∧
  ∀ (ys : List Str) (p : Addr), ys.Perm xs → sortedS ys = true → H p = none → Q (.ref p) (upd H p (.lst (ys.map V.str)))
theorem small64 {n : Nat} (h : n < 64) : n ≤ sizeLine := by rw [sizeLine_eq]; omega
theorem cr_sorted : CallR X (.builtin "sorted") (rSorted X.K) := by
  intro pins s σ H vs us Q I r h
  obtain ⟨a, ns, rfl, hs, h64, q⟩ := h
  obtain ⟨its, rv, hl, _⟩ := I.list hs
  rw [Vals.ref1 r]
  have hi := rv.ints
  refine PyProof.Rows.sorted_ints hl.isList hi (by rw [hi.length]; exact h64) fun out ns' h1 h2 h3 => ?_
  obtain ⟨ep, he'⟩ := PyProof.Rows.sortedAll_at s.heap its out
  have hlen : (ns'.map V.int).length ≤ sizeLine := by rw [List.length_map, h2.length_eq]; exact small64 h64
  exact ⟨.ref _, upd H (s.heap.objs.size + 1) (.lst (ns'.map V.int)), I.laid (t' := s.toks) (fun _ _ => PyProof.Rows.sortedAll_old) (Nat.le_succ _) ⟨hlen, out.toList, ep, vals_of_ints h1, he'⟩, rfl, q ns' _ h2 h3 (I.hok.fresh (Nat.le_succ _))⟩
def rSort : V → List V → Hp → VK → Prop := fun x xs H Q => ∃ (a : Addr) (ns : List Int), x = V.ref a ∧ xs = [] ∧ H a = some (.lst (ns.map V.int)) ∧ ns.length < 64 ∧
  ∀ ns' : List Int, ns'.Perm ns → ns'.Pairwise (· ≤ ·) → Q .non (upd H a (.lst (ns'.map V.int)))
end
section
variable {X : Cx}
def rIndex (K : PySem.W.Frag) : V → List V → Hp → VK → Prop := fun x xs H Q => ∃ (a : Addr) (ys : List V) (y : V) (j : Nat) (z : V), x = V.ref a ∧ xs = [y] ∧ SqL K H a ys ∧ flatV y = true ∧ ys.all flatV = true ∧ ys[j]? = some z ∧ eqV z y = true ∧
  (∀ (m : Nat) (z' : V), m < j → ys[m]? = some z' → eqV z' y = false) ∧ Q (.int (j : Nat)) H
end
section
variable {X : Cx}
end
theorem iter_any {prog : Program} {w : World} {A : Around} {E : Value → Shared → Prop} {s : Shared} {l : Addr} {items : Array Value} {Q : Value → Shared → Prop} (hl : s.heap.IsList l items)
    (h : ∀ s₂ : Shared, s₂ = { s with heap := s.heap.push { cls := .type "list_iterator", data := .fields #[.ref l, .int 0 0] } } →
      (s₂.heap.IsListIter s.heap.objs.size l 0 ∧ s₂.heap.IsList l items) → l ≠ s.heap.objs.size → Q (.ref s.heap.objs.size) s₂) : wpAny (model prog w) A (pyIter (.ref l)) Q E s := by
  have hlt : l < s.heap.objs.size := by obtain ⟨_, e, _⟩ := hl; exact Heap.lt_size e
  exact wpAny_pyIter_list hl (h _ rfl ⟨⟨_, Heap.get?_push_size _ rfl, rfl, rfl⟩, hl.push _⟩ (Nat.ne_of_lt hlt))
theorem truth_bools {prog : Program} {w : World} {A : Around} {bs : List Bool} {its : List Value} (e : its = bs.map Value.bool) :
    TruthOf prog w A (fun i v => its.toArray[i]? = some v) (fun i => bs.getD i false) := fun i v s Q E hv hq => by
  have hv' : its[i]? = some v := by simpa using hv
  rw [e, List.getElem?_map] at hv'
  obtain ⟨b, hb, rfl⟩ := Option.map_eq_some_iff.mp hv'
  have hg : bs.getD i false = b := by rw [List.getD_eq_getElem?_getD, hb] <;> rfl
  have hq' : Q (bs.getD i false) s := hq
  rw [hg] at hq'
  exact wpAny_truthy_bool hq'
theorem all_range : ∀ bs : List Bool, (List.range bs.length).all (fun i => bs.getD i false) = bs.all id
  | [] => rfl
  | b :: bs => by
    rw [List.length_cons, List.range_succ_eq_map, List.all_cons, List.all_map, List.all_cons, ← all_range bs]
    all_goals rfl
section
variable {X : Cx}
def rAny (K : PySem.W.Frag) : List V → Hp → VK → Prop := fun vs H Q => ∃ (a : Addr) (bs : List Bool), vs = [V.ref a] ∧ SqL K H a (bs.map V.bl) ∧ Q (.bl (bs.any id)) H
def rAll (K : PySem.W.Frag) : List V → Hp → VK → Prop := fun vs H Q => ∃ (a : Addr) (bs : List Bool), vs = [V.ref a] ∧ SqL K H a (bs.map V.bl) ∧ Q (.bl (bs.all id)) H
theorem cr_all (hc : X.calm = true) : CallR X (.builtin "all") (rAll X.K) := by
  intro pins s σ H vs us Q I r h
  obtain ⟨a, bs, rfl, hs, q⟩ := h
  obtain ⟨its, rv, hl, _⟩ := I.list hs
  rw [Vals.ref1 r]
  have hb := rv.bls
  refine call_all_walk (iter_any hl.isList fun s₂ e2 st hne => ?_)
  subst e2
  refine ⟨_, _, _, _, _, _, _, rfl, Walks.list (A := X.A.in1) (I.ok.hd hc) _ a hne its.toArray, st, truth_bools hb, fun h' tk hk => ?_⟩
  refine ⟨.bl _, H, I.kept fun b o eo => hk b o (fun hmem => ?_) (Heap.get?_push_of_some _ eo), ?_, q⟩
  · rcases List.mem_cons.mp hmem with e1 | hmem
    · exact absurd (e1 ▸ Heap.lt_size eo) (Nat.lt_irrefl _)
    · cases hmem
  · show Value.bool _ = Value.bool _
    rw [← all_range, hb, List.size_toArray, List.length_map]
end
mutual
inductive Dp (K : PySem.W.Frag) (H : Hp) : V → PyData → Prop
  | non : Dp K H .non .none
  | bl (b : Bool) : Dp K H (.bl b) (.bool b)
  | int (i : Int) : Dp K H (.int i) (.int i)
  | str (x : Str) : Dp K H (.str x) (.str x)
  | lst {a : Addr} {xs : List V} {ds : List PyData} : SqL K H a xs → DpAll K H xs ds → Dp K H (.ref a) (.list ds)
  | tup {a : Addr} {xs : List V} {ds : List PyData} : SqT K H a xs → DpAll K H xs ds → Dp K H (.ref a) (.tuple ds)
inductive DpAll (K : PySem.W.Frag) (H : Hp) : List V → List PyData → Prop
  | nil : DpAll K H [] []
  | cons {v : V} {vs : List V} {d : PyData} {ds : List PyData} : Dp K H v d → DpAll K H vs ds → DpAll K H (v :: vs) (d :: ds)
end
section
variable {X : Cx} {pins : List (Addr × Obj)} {σ : St} {H : Hp} {s : Shared}
mutual
theorem Dp.reads (I : Inv X pins σ H s) : ∀ (d : PyData) (v : V) (u : Value), Dp X.K H v d → RelV v u → ∃ as, Reads s.heap u d as
  | .none, _, _, h, r => by
    cases h
    cases r
    exact ⟨_, Reads.none⟩
  | .bool b, _, _, h, r => by
    cases h
    cases r
    exact ⟨_, Reads.bool b⟩
  | .int i, _, _, h, r => by
    cases h
    obtain ⟨t, rfl⟩ := r
    exact ⟨_, Reads.int i t⟩
  | .str x, _, _, h, r => by
    cases h
    obtain ⟨t, rfl⟩ := r
    exact ⟨_, Reads.str x t⟩
  | .list ds, _, _, h, r => by
    cases h with
    | lst hs ha =>
      cases r
      obtain ⟨its, rv, ⟨o, n, ho, hc, _, hd⟩, _⟩ := I.list hs
      obtain ⟨as, hr⟩ := Dp.readsAll I ds _ its ha rv
      exact ⟨_, Reads.list ho hc hd hr⟩
  | .tuple ds, _, _, h, r => by
    cases h with
    | tup hs ha =>
      cases r
      obtain ⟨its, rv, ⟨o, ho, hc, n, hd⟩, _⟩ := I.tuple hs
      obtain ⟨as, hr⟩ := Dp.readsAll I ds _ its ha rv
      exact ⟨_, Reads.tuple ho hc hd hr⟩
  | .dict _, _, _, h, _ => by cases h
theorem Dp.readsAll (I : Inv X pins σ H s) : ∀ (ds : List PyData) (vs : List V) (us : List Value), DpAll X.K H vs ds → Vals vs us → ∃ as, ReadsAll s.heap us ds as
  | [], _, _, h, r => by
    cases h
    cases r
    exact ⟨_, ReadsAll.nil⟩
  | d :: ds, _, _, h, r => by
    cases h with
    | cons h1 h2 =>
      cases r with
      | cons r1 r2 =>
        obtain ⟨as, q1⟩ := Dp.reads I d _ _ h1 r1
        obtain ⟨bs, q2⟩ := Dp.readsAll I ds _ _ h2 r2
        exact ⟨_, ReadsAll.cons q1 q2⟩
end
end
section
variable {X : Cx}
def rEqD (K : PySem.W.Frag) : R2 := fun x y H Q => ∃ d e, Dp K H x d ∧ Dp K H y e ∧ SeqAt.shaped d = true ∧ SeqAt.shaped e = true ∧ Q (.bl (PyData.eqv d e)) H
def rNeD (K : PySem.W.Frag) : R2 := fun x y H Q => ∃ d e, Dp K H x d ∧ Dp K H y e ∧ SeqAt.shaped d = true ∧ SeqAt.shaped e = true ∧ Q (.bl (!PyData.eqv d e)) H
theorem op_eqD (hu : X.A.units + 64 < cLine) : OpR X (compareOp .Eq) (rEqD X.K) := by
  intro pins s σ H x y v u Q I rx ry h
  obtain ⟨d, e, hd, he, sd, se, q⟩ := h
  obtain ⟨as, r1⟩ := Dp.reads I d x v hd rx
  obtain ⟨bs, r2⟩ := Dp.reads I e y u he ry
  exact SeqAt.compareEq_shaped r1 r2 sd se hu ⟨.bl _, H, I, rfl, q⟩
theorem op_neD (hu : X.A.units + 64 < cLine) : OpR X (compareOp .NotEq) (rNeD X.K) := by
  intro pins s σ H x y v u Q I rx ry h
  obtain ⟨d, e, hd, he, sd, se, q⟩ := h
  obtain ⟨as, r1⟩ := Dp.reads I d x v hd rx
  obtain ⟨bs, r2⟩ := Dp.reads I e y u he ry
  exact SeqAt.compareNe_shaped r1 r2 sd se hu ⟨.bl _, H, I, rfl, q⟩
end
end L2
namespace L2
open PySem PySem.Spec PyProof.Rows
abbrev CellAt (h : Heap) (c : Addr) (v : Option Value) : Prop := h.IsCell c v
def relS (scope sc : Scope) : Scope :=
  { scope with names := scope.names.map fun (n, k) => if (k == .free && sc.kind == .function && sc.names.lookup n == some .cell) then (n, .cell) else (n, k) }
def cloFrom (cells : List (Str × Addr)) : List (Str × NameKind) → List (Str × Addr) → List (Str × Addr)
  | [], acc => acc
  | (n, k) :: r, acc => if k == .free then cloFrom cells r ((n, (cells.lookup n).getD 0) :: acc) else cloFrom cells r acc
theorem closure_loop (env : Env) (f : Str × NameKind → List (Str × Addr) → Sem (ForInStep (List (Str × Addr))))
    (hf : ∀ n k c, f (n, k) c = if k == .free then (do let a ← cellOf env n; pure (.yield ((n, a) :: c))) else pure (.yield c)) :
    ∀ (names : List (Str × NameKind)) (acc : List (Str × Addr)), (∀ y ∈ names, y.2 = .free → ∃ c, env.cells.lookup y.1 = some c) → forIn names acc f = pure (cloFrom env.cells names acc)
  | [], acc, _ => by rw [List.forIn_nil]; rfl
  | (n, k) :: r, acc, h => by
    rw [List.forIn_cons, hf]
    have ih := fun acc => closure_loop env f hf r acc fun y hy => h y (List.mem_cons_of_mem _ hy)
    unfold cloFrom
    by_cases hk : (k == NameKind.free) = true
    · rw [if_pos hk, if_pos hk]
      obtain ⟨c, hc⟩ := h (n, k) List.mem_cons_self (by simpa using hk)
      have e : cellOf env n = pure c := by unfold cellOf; rw [hc]
      rw [e]
      have e2 : (env.cells.lookup n).getD 0 = c := by rw [hc]; rfl
      rw [e2]
      exact ih _
    · rw [if_neg hk, if_neg hk]
      exact ih _
theorem closure_ok {scope : Scope} {env : Env} (h : ∀ y ∈ scope.names, y.2 = .free → ∃ c, env.cells.lookup y.1 = some c) : closureFor scope env = pure (cloFrom env.cells scope.names []) := by
  simp only [closureFor]
  rw [closure_loop env _ (fun n k c => rfl) scope.names [] h]
  rfl
theorem mem_lookup {α : Type} : ∀ {l : List (Str × α)} {n : Str} {c : α}, (n, c) ∈ l → ∃ c', l.lookup n = some c'
  | (k, v) :: r, n, c, h => by
    rw [List.lookup_cons]
    cases hb : n == k with
    | true => exact ⟨_, rfl⟩
    | false =>
      rcases List.mem_cons.mp h with e | h
      · cases e; simp at hb
      · exact mem_lookup h
theorem cloFrom_mem {cells : List (Str × Addr)} : ∀ {names : List (Str × NameKind)} {acc : List (Str × Addr)} {n : Str} {c : Addr}, (n, c) ∈ cloFrom cells names acc → (n, c) ∈ acc ∨ ((n, .free) ∈ names ∧ c = (cells.lookup n).getD 0)
  | [], _, _, _, h => .inl h
  | (m, k) :: r, acc, n, c, h => by
    unfold cloFrom at h
    split at h
    · rename_i hk
      have hk : k = .free := by simpa using hk
      rcases cloFrom_mem h with h | ⟨h1, h2⟩
      · rcases List.mem_cons.mp h with e | h
        · cases e; exact .inr ⟨hk ▸ List.mem_cons_self, rfl⟩
        · exact .inl h
      · exact .inr ⟨List.mem_cons_of_mem _ h1, h2⟩
    · rcases cloFrom_mem h with h | ⟨h1, h2⟩
      · exact .inl h
      · exact .inr ⟨List.mem_cons_of_mem _ h1, h2⟩
theorem cloFrom_acc {cells : List (Str × Addr)} : ∀ {names : List (Str × NameKind)} {acc : List (Str × Addr)} {p : Str × Addr}, p ∈ acc → p ∈ cloFrom cells names acc
  | [], _, _, h => h
  | (m, k) :: r, acc, p, h => by
    unfold cloFrom
    split
    · exact cloFrom_acc (List.mem_cons_of_mem _ h)
    · exact cloFrom_acc h
theorem cloFrom_has {cells : List (Str × Addr)} : ∀ {names : List (Str × NameKind)} {acc : List (Str × Addr)} {n : Str}, (n, .free) ∈ names → (n, (cells.lookup n).getD 0) ∈ cloFrom cells names acc
  | (m, k) :: r, acc, n, h => by
    unfold cloFrom
    rcases List.mem_cons.mp h with e | h
    · cases e
      exact cloFrom_acc List.mem_cons_self
    · split
      · exact cloFrom_has h
      · exact cloFrom_has h
theorem cells_mem : ∀ {names : List (Str × NameKind)} {h : Heap} {acc : List (Str × Addr)} {x : Str} {c : Addr}, (x, c) ∈ cellsFrom h.objs.size names acc →
    (x, c) ∈ acc ∨ ((x, .cell) ∈ names ∧ h.objs.size ≤ c ∧ CellAt (pushCells h names) c none)
  | [], _, _, _, _, h => .inl h
  | (n, k) :: r, h, acc, x, c, hm => by
    unfold cellsFrom at hm
    unfold pushCells
    split at hm
    · rename_i hk
      rw [if_pos hk]
      have hk : k = .cell := by simpa using hk
      rw [← Heap.size_push h { cls := .type "cell", data := .cell none }] at hm
      rcases cells_mem hm with hm | ⟨h1, h2, h3⟩
      · rcases List.mem_cons.mp hm with e | hm
        · cases e
          exact .inr ⟨hk ▸ List.mem_cons_self, Nat.le_refl _, _, pushCells_keeps r _ _ _ (Heap.get?_push_size _ rfl), rfl⟩
        · exact .inl hm
      · rw [Heap.size_push] at h2
        exact .inr ⟨List.mem_cons_of_mem _ h1, Nat.le_of_succ_le h2, h3⟩
    · rename_i hk
      rw [if_neg hk]
      rcases cells_mem hm with hm | ⟨h1, h2, h3⟩
      · exact .inl hm
      · exact .inr ⟨List.mem_cons_of_mem _ h1, h2, h3⟩
theorem cells_acc : ∀ {names : List (Str × NameKind)} {n : Nat} {acc : List (Str × Addr)} {p : Str × Addr}, p ∈ acc → p ∈ cellsFrom n names acc
  | [], _, _, _, h => h
  | (m, k) :: r, n, acc, p, h => by
    unfold cellsFrom
    split
    · exact cells_acc (List.mem_cons_of_mem _ h)
    · exact cells_acc h
theorem cells_has : ∀ {names : List (Str × NameKind)} {n : Nat} {acc : List (Str × Addr)} {x : Str}, (x, .cell) ∈ names → ∃ c, (x, c) ∈ cellsFrom n names acc
  | (m, k) :: r, n, acc, x, h => by
    unfold cellsFrom
    rcases List.mem_cons.mp h with e | h
    · cases e
      exact ⟨n, cells_acc List.mem_cons_self⟩
    · split
      · exact cells_has h
      · exact cells_has h
theorem cells_inj : ∀ {names : List (Str × NameKind)} {h : Heap} {acc : List (Str × Addr)} {x y : Str} {c : Addr}, (∀ p ∈ acc, p.2 < h.objs.size) → (∀ x y c, (x, c) ∈ acc → (y, c) ∈ acc → x = y) →
    (x, c) ∈ cellsFrom h.objs.size names acc → (y, c) ∈ cellsFrom h.objs.size names acc → x = y
  | [], _, _, _, _, _, _, hi, h1, h2 => hi _ _ _ h1 h2
  | (n, k) :: r, h, acc, x, y, c, hl, hi, h1, h2 => by
    unfold cellsFrom at h1 h2
    split at h1
    · rename_i hk
      rw [if_pos hk] at h2
      rw [← Heap.size_push h { cls := .type "cell", data := .cell none }] at h1 h2
      refine cells_inj (h := h.push _) (fun p hp => ?_) (fun x y c a b => ?_) h1 h2
      · rw [Heap.size_push]
        rcases List.mem_cons.mp hp with rfl | hp
        · exact Nat.lt_succ_self _
        · exact Nat.lt_succ_of_lt (hl p hp)
      · rcases List.mem_cons.mp a with e | a <;> rcases List.mem_cons.mp b with e' | b
        · cases e; cases e'; rfl
        · cases e; exact absurd (hl _ b) (Nat.lt_irrefl _)
        · cases e'; exact absurd (hl _ a) (Nat.lt_irrefl _)
        · exact hi _ _ _ a b
    · rename_i hk
      rw [if_neg hk] at h2
      exact cells_inj hl hi h1 h2
theorem newEnv_comp {M : Model} {A : Around} {E : Value → Shared → Prop} {s : Shared} {scope : Scope} {globals : Addr} {closure : List (Str × Addr)} {qual : Str} {func : Option Addr} {code : Value} {around : Env} {builtins : Addr} {Q : Env → Shared → Prop}
    (h : Q (newEnv scope s.heap.objs.size globals (cellsFrom (s.heap.objs.size + 1) scope.names closure) qual func code (some around) builtins)
      { s with heap := pushCells (s.heap.push { cls := .type "dict", data := .dict #[] }) scope.names }) :
    wpAny M A (newFunctionEnv scope globals closure [] qual func code (some around) builtins) Q E s := by
  simp only [newFunctionEnv, Option.isSome_some, if_true]
  refine wpAny_bind (wpAny_alloc ?_)
  refine wpAny_bind (wpAny_layCells _ (fun n k c => rfl) scope.names closure _ _ ?_)
  rw [show ({ s with heap := s.heap.push { cls := .type "dict", data := .dict #[] } } : Shared).heap.objs.size = s.heap.objs.size + 1 from Heap.size_push ..]
  rw [List.forIn_nil]
  exact wpAny_bind (wpAny_pure (wpAny_pure h))
theorem lookup_relS {sc : Scope} : ∀ {names : List (Str × NameKind)} {x : Str} {k : NameKind},
    (names.map fun (n, k) => if (k == NameKind.free && sc.kind == .function && sc.names.lookup n == some .cell) then (n, NameKind.cell) else (n, k)).lookup x = some k →
    ∃ k', names.lookup x = some k' ∧ (k = k' ∨ (k' = .free ∧ k = .cell))
  | [], _, _, h => by simp at h
  | (n, k₀) :: r, x, k, h => by
    have ih := @lookup_relS sc r x k
    have h' : List.lookup x ((if (k₀ == NameKind.free && sc.kind == .function && sc.names.lookup n == some .cell) = true then (n, NameKind.cell) else (n, k₀)) :: (r.map _)) = some k := h
    cases hx : x == n with
    | true =>
      simp only [List.lookup_cons, hx]
      by_cases hc : (k₀ == NameKind.free && sc.kind == .function && sc.names.lookup n == some .cell) = true
      · rw [if_pos hc] at h'
        simp only [List.lookup_cons, hx] at h'
        cases h'
        simp only [Bool.and_eq_true, beq_iff_eq] at hc
        exact ⟨k₀, rfl, .inr ⟨hc.1.1, rfl⟩⟩
      · rw [if_neg hc] at h'
        simp only [List.lookup_cons, hx] at h'
        cases h'
        exact ⟨_, rfl, .inl rfl⟩
    | false =>
      simp only [List.lookup_cons, hx]
      by_cases hc : (k₀ == NameKind.free && sc.kind == .function && sc.names.lookup n == some .cell) = true
      · rw [if_pos hc] at h'
        simp only [List.lookup_cons, hx] at h'
        exact ih h'
      · rw [if_neg hc] at h'
        simp only [List.lookup_cons, hx] at h'
        exact ih h'
structure BlkOk (N : List Str) (sc scope : Scope) (own : List (Str × Nat)) : Prop where
  kind : scope.kind = .function
  uniq : ∀ y ∈ scope.names, scope.names.lookup y.1 = some y.2
  ix : ∀ p ∈ own, N[p.2]? = some p.1
  free : ∀ y ∈ scope.names, y.2 = .free → sc.names.lookup y.1 = some .cell ∨ sc.names.lookup y.1 = some .free
  own : ∀ y ∈ scope.names, y.2 = .local ∨ y.2 = .cell → y.1 ∈ own.map (·.1) ∨ y.1 ∉ N
def wipe (σ : St) : List Nat → St
  | [] => σ
  | v :: vs => (wipe σ vs).set v none
theorem wipe_length (σ : St) : ∀ vs : List Nat, (wipe σ vs).length = σ.length
  | [] => rfl
  | v :: vs => by unfold wipe; rw [List.length_set, wipe_length σ vs]
theorem wipe_some {σ : St} {i : Nat} {x : V} : ∀ {vs : List Nat}, (wipe σ vs)[i]? = some (some x) → σ[i]? = some (some x) ∧ i ∉ vs
  | [], h => ⟨h, by simp⟩
  | v :: vs, h => by
    unfold wipe at h
    by_cases hi : v = i
    · subst hi
      by_cases hv : v < (wipe σ vs).length
      · rw [List.getElem?_set_self hv] at h; cases h
      · rw [List.getElem?_eq_none (by simpa using hv)] at h; cases h
    · rw [List.getElem?_set_ne hi] at h
      obtain ⟨h1, h2⟩ := wipe_some h
      exact ⟨h1, by simp only [List.mem_cons, not_or]; exact ⟨fun e => hi e.symm, h2⟩⟩
abbrev Cx.blk (X : Cx) (s : Shared) (H : Hp) (scope : Scope) (cenv : Env) (fp : List Addr) : Cx := { X with s_0 := s, H_0 := H, env := cenv, outer := X.stack, ex := fp, fn := fun x => scope.names.lookup x == some .cell, pn := [], xe := fun _ _ => False }
section
variable {X : Cx} {pins : List (Addr × Obj)} {σ : St} {H : Hp} {s : Shared}
theorem block_start {scope : Scope} {own : List (Str × Nat)} {fp : List Addr} (I : Inv X pins σ H s) (ok : BlkOk X.N X.env.scope scope own) (hN : X.N.Nodup) (hfp : ∀ b ∈ fp, FpOk X pins H b ∧ b < s.heap.objs.size) :
    Inv (X.blk s H scope (compEnvC scope (cellsFrom (s.heap.objs.size + 1) scope.names (cloFrom X.env.cells scope.names [])) s.heap.objs.size X.env) fp) [] (wipe σ (own.map (·.2))) H { s with heap := pushCells (s.heap.push { cls := .type "dict", data := .dict #[] }) scope.names } := by
  have hfree : ∀ y ∈ scope.names, y.2 = .free → ∃ c, X.env.cells.lookup y.1 = some c := fun y hy e => by
    rcases ok.free y hy e with k | k
    · exact I.ok.has _ (.inl k)
    · exact I.ok.has _ (.inr k)
  generalize hcenv : compEnvC scope (cellsFrom (s.heap.objs.size + 1) scope.names (cloFrom X.env.cells scope.names [])) s.heap.objs.size X.env = cenv
  have kp : ∀ b o, s.heap.get? b = some o → (pushCells (s.heap.push { cls := .type "dict", data := .dict #[] }) scope.names).get? b = some o := fun b o e => pushCells_keeps _ _ _ _ (Heap.get?_push_of_some _ e)
  have hL : cenv.locals = s.heap.objs.size := by rw [← hcenv]; rfl
  have hcl : cenv.cells = cellsFrom (s.heap.objs.size + 1) scope.names (cloFrom X.env.cells scope.names []) := by rw [← hcenv]; rfl
  have hsc : cenv.scope = relS scope X.env.scope := by rw [← hcenv]; rfl
  rw [← Heap.size_push s.heap { cls := .type "dict", data := .dict #[] }] at hcl
  have cm : ∀ {y c}, (y, c) ∈ cloFrom X.env.cells scope.names [] → X.env.cells.lookup y = some c ∧ c < s.heap.objs.size := fun {y c} hm => by
    rcases cloFrom_mem hm with hm | ⟨h1, rfl⟩
    · cases hm
    · obtain ⟨c, hc⟩ := hfree _ h1 rfl
      rw [hc]
      obtain ⟨w, z⟩ := I.cell _ _ hc
      exact ⟨rfl, z.lt⟩
  have mem : ∀ {y c}, cenv.cells.lookup y = some c → (X.env.cells.lookup y = some c ∧ c < s.heap.objs.size) ∨ (s.heap.objs.size + 1 ≤ c ∧ CellAt (pushCells (s.heap.push { cls := .type "dict", data := .dict #[] }) scope.names) c none) := fun {y c} e => by
    rw [hcl] at e
    rcases cells_mem (PySem.mem_of_lookup e) with hm | ⟨_, h2, h3⟩
    · exact .inl (cm hm)
    · rw [Heap.size_push] at h2; exact .inr ⟨h2, h3⟩
  have look : ∀ {y}, scope.names.lookup y = some .free → ∃ c, cenv.cells.lookup y = some c ∧ X.env.cells.lookup y = some c := fun {y} hl => by
    have hy : (y, NameKind.free) ∈ scope.names := PySem.mem_of_lookup hl
    obtain ⟨c', e'⟩ := mem_lookup (cells_acc (names := scope.names) (n := (s.heap.push { cls := .type "dict", data := .dict #[] }).objs.size) (cloFrom_has (cells := X.env.cells) (acc := []) hy))
    rw [← hcl] at e'
    refine ⟨c', e', ?_⟩
    rw [hcl] at e'
    rcases cells_mem (PySem.mem_of_lookup e') with hm | ⟨h1, _, _⟩
    · exact (cm hm).1
    · have := ok.uniq _ h1
      rw [hl] at this; cases this
  have okB : (X.blk s H scope cenv fp).Ok := by
    refine ⟨I.ok.mod, by show cenv.scope.kind = _; rw [hsc]; exact ok.kind, by show cenv.globals = _; rw [← hcenv]; exact I.ok.glob, by show cenv.builtins = _; rw [← hcenv]; exact I.ok.blt, by show s.heap.objs.size ≤ cenv.locals; rw [hL]; exact Nat.le_refl _,
      fun y z c e1 e2 => ?_, fun y hy => ?_, fun y c z e => ?_, I.ok.hd, I.ok.frames, .inl rfl, fun b hb => ⟨?_, fun y c e z => ?_⟩, I.bs, Nat.le_trans I.ok.bsz I.sz, fun b o e hb => ?_, fun b hb z => ?_, I.stack, I.stkFree⟩
    · have e1 : cenv.cells.lookup y = some c := e1
      have e2 : cenv.cells.lookup z = some c := e2
      rw [hcl] at e1 e2
      refine cells_inj (fun p hp => ?_) (fun y z c a b => I.ok.inj y z c (cm a).1 (cm b).1) (PySem.mem_of_lookup e1) (PySem.mem_of_lookup e2)
      rw [Heap.size_push]
      exact Nat.lt_succ_of_lt (cm (y := p.1) (c := p.2) hp).2
    · show ∃ c, cenv.cells.lookup y = some c
      have key : ∀ k, cenv.kindOf y = some k → (k = .cell ∨ k = .free) → ∃ c, cenv.cells.lookup y = some c := fun k hk hk' => by
        unfold Env.kindOf at hk
        rw [hsc] at hk
        obtain ⟨k', e, r⟩ := lookup_relS hk
        have : k' = .cell ∨ k' = .free := by
          rcases r with rfl | ⟨rfl, _⟩
          · exact hk'
          · exact .inr rfl
        rcases this with rfl | rfl
        · obtain ⟨c, hm⟩ := cells_has (n := (s.heap.push { cls := .type "dict", data := .dict #[] }).objs.size) (acc := cloFrom X.env.cells scope.names []) (PySem.mem_of_lookup e)
          obtain ⟨c', e'⟩ := mem_lookup hm
          exact ⟨c', by rw [hcl]; exact e'⟩
        · obtain ⟨c, h1, _⟩ := look e
          exact ⟨c, h1⟩
      rcases hy with hy | hy
      · exact key _ hy (.inl rfl)
      · exact key _ hy (.inr rfl)
    · have z : (scope.names.lookup y == some NameKind.cell) = true := z
      have z : scope.names.lookup y = some .cell := by simpa using z
      have e : cenv.cells.lookup y = some c := e
      rw [hcl] at e
      rcases cells_mem (PySem.mem_of_lookup e) with hm | ⟨_, h2, _⟩
      · rcases cloFrom_mem hm with hm | ⟨h1, _⟩
        · cases hm
        · have q := ok.uniq _ h1
          rw [z] at q; cases q
      · rw [Heap.size_push] at h2
        exact Nat.le_of_succ_le h2
    · show b ≠ cenv.locals
      rw [hL]; exact Nat.ne_of_lt (hfp b hb).2
    · have e : cenv.cells.lookup y = some c := e
      rcases mem e with ⟨h1, _⟩ | ⟨h1, _⟩
      · exact (hfp b hb).1.2.2.2.2.1 y c h1 z
      · have h2 : s.heap.objs.size + 1 ≤ b := by rw [← z]; exact h1
        exact absurd (Nat.lt_of_lt_of_le (hfp b hb).2 (Nat.le_of_succ_le h2)) (Nat.lt_irrefl _)
    · rcases (hfp b hb).1.2.2.2.1 with z | z
      · exact I.ok.noex b o e z
      · exact absurd (Nat.lt_of_lt_of_le (Heap.lt_size e) (Nat.le_trans I.ok.bsz z)) (Nat.lt_irrefl _)
    · rcases List.mem_cons.mp (I.stkSub b z) with z | z
      · exact (hfp b hb).1.2.1 z
      · exact (hfp b hb).1.2.2.1 z
  refine ⟨okB, rfl, I.bare, Un.kept kp, ⟨fun _ => none, ?_, fun i y av e1 e2 e3 => ?_⟩, fun y c e => ?_, ?_, fun y c e => ?_, fun p hp => ?_, I.hok.kept kp, by rw [wipe_length]; exact I.len⟩
  · show Heap.Ns _ cenv.locals _
    rw [hL]
    exact Heap.Ns.keeps (Heap.Ns.new ..) fun b o e => pushCells_keeps _ _ _ _ e
  · obtain ⟨e2, hne⟩ := wipe_some e2
    have hfr : scope.names.lookup y = some .free ∧ (cenv.kindOf y = some .cell ∨ cenv.kindOf y = some .free) := by
      have key : ∀ k, cenv.scope.names.lookup y = some k → k = .local ∨ k = .cell ∨ k = .free → scope.names.lookup y = some .free ∧ (cenv.kindOf y = some .cell ∨ cenv.kindOf y = some .free) := fun k hk hk' => by
        have hk0 := hk
        rw [hsc] at hk
        obtain ⟨k', e, r⟩ := lookup_relS hk
        have no : ¬ (k' = .local ∨ k' = .cell) := fun hh => by
          rcases ok.own _ (PySem.mem_of_lookup e) hh with e' | e'
          · obtain ⟨p, hp, hpy⟩ := List.mem_map.mp e'
            have e3 := ok.ix p hp
            have : p.1 = y := hpy
            rw [this] at e3
            exact hne (List.mem_map.mpr ⟨p, hp, nodup_ix hN e3 e1⟩)
          · exact e' (List.mem_of_getElem? e1)
        rcases r with rfl | ⟨rfl, rfl⟩
        · rcases hk' with rfl | rfl | rfl
          · exact absurd (.inl rfl) no
          · exact absurd (.inr rfl) no
          · exact ⟨e, .inr hk0⟩
        · exact ⟨e, .inl hk0⟩
      have e3 : Vis cenv.scope y := e3
      rcases e3 with e3 | e3 | e3
      · exact key _ e3 (.inl rfl)
      · exact key _ e3 (.inr (.inl rfl))
      · exact key _ e3 (.inr (.inr rfl))
    obtain ⟨m, hn, hl⟩ := I.loc
    have hvis : Vis X.env.scope y := (ok.free _ (PySem.mem_of_lookup hfr.1) rfl).elim (fun k => .inr (.inl k)) (fun k => .inr (.inr k))
    obtain ⟨w, r, q⟩ := hl i y av e1 e2 hvis
    refine ⟨w, r, .inr ⟨hfr.2, ?_⟩⟩
    obtain ⟨c, h1, h2⟩ := look hfr.1
    rcases q with ⟨k, _⟩ | ⟨_, c', e', z⟩
    · have k : X.env.scope.names.lookup y = some .local := k
      rcases ok.free _ (PySem.mem_of_lookup hfr.1) rfl with k' | k' <;> rw [show X.env.scope.names.lookup y = _ from k'] at k <;> cases k
    · rw [h2] at e'; cases e'
      exact ⟨c, h1, z.keeps kp⟩
  · have e : cenv.cells.lookup y = some c := e
    rcases mem e with ⟨h1, _⟩ | ⟨_, z⟩
    · obtain ⟨w, z⟩ := I.cell y c h1
      exact ⟨w, z.keeps kp⟩
    · exact ⟨_, z⟩
  · show H cenv.locals = none
    rw [hL]; exact I.hok.fresh (Nat.le_refl _)
  · have e : cenv.cells.lookup y = some c := e
    rcases mem e with ⟨h1, _⟩ | ⟨h1, _⟩
    · exact I.freeC y c h1
    · exact I.hok.fresh (Nat.le_of_succ_le h1)
  · exact absurd (show p ∈ ([] : List (Addr × Obj)) ++ [] from hp) (by simp)
theorem app_ok {E : Value → Shared → Prop} {D : Addr} {xs : List V} {y : V} {v : Value} {Q : Value → Shared → Prop} (I : Inv X pins σ H s) (hD : H D = some (.lst xs)) (hz : xs.length < sizeLine) (r : RelV y v)
    (h : ∀ s', Inv X pins σ (upd H D (.lst (xs ++ [y]))) s' → Q .none s') : wpAny (model X.prog X.w) X.A (call (.builtin "list.append") [.ref D, v]) Q E s := by
  obtain ⟨hz', its, n, ri, e⟩ := I.hok D _ hD
  have hl := ri.length
  refine append_at (hsz := by rw [List.size_toArray]; omega) e fun h' sb ho' => ?_
  refine h { s with heap := h' } (I.write (t' := s.toks) (by rw [hD]; trivial) (.inl rfl) (fun b u hb q => (sb.2 b hb).trans q) ⟨_, ho'⟩ ⟨by rw [List.length_append]; exact hz, its ++ [v], n + 1, ri.append (.cons r .nil), ?_⟩)
  rw [ho']
  simp
def PTs (X : Cx) (ifs : List Expr) (t : TT) : Prop :=
  ∀ (pins : List (Addr × Obj)) (s : Shared) (σ : St) (H : Hp) (Q : Bool → Hp → Prop), Inv X pins σ H s → t σ H Q →
    wpAny (model X.prog X.w) X.A (forIn ifs true fun c r => if r = true then do let ok ← isTrue c X.env (eval c X.env); pure (ForInStep.yield ok) else pure (ForInStep.yield r)) (TP X pins σ Q) X.xe s
def tYes : TT := fun _ H Q => Q true H
theorem pts_nil : PTs X [] tYes := fun _ _ _ H _ I h => wpAny_tests_nil ⟨H, I, h⟩
theorem pts_one {c : Expr} {t : TT} (h : PT X c t) : PTs X [c] t := fun pins s σ H Q I hw => wpAny_tests_one (h pins s σ H Q I hw)
end
theorem thnF {α : Type} {t : Sem α} {Q Q' : α → Shared → Prop} {M : Model} {A : Around} {E : Value → Shared → Prop} {s : Shared} (h : wpAny M A t Q (fun _ _ => False) s) (hQ : ∀ a s, Q a s → Q' a s) : wpAny M A t Q' E s := wpAny_mono h hQ fun _ _ z => False.elim z
theorem compLoop_any {prog : Program} {w : World} {A : Around} {R : Result → Shared → Prop} {s : Shared} {elt target iter : Expr} {ifs : List Expr} {scope : Scope} {pos : Pos} {it acc : Value} {env : Env} (I : Nat → Shared → Prop)
    (turn : ∀ n s, I n s → wpAny (model prog w) A (pyNext it) (fun r s₁ => match r with
      | none => R (.ok .next) s₁
      | some v => wpAny (model prog w) A (letOwnedTupleGo target it v) (fun _ s₁' => wpAny (model prog w) A (assign target env v) (fun _ s₂ =>
          wpAny (model prog w) A (forIn ifs true fun c r => if r = true then do let ok ← isTrue c env (eval c env); pure (ForInStep.yield ok) else pure (ForInStep.yield r)) (fun ok s₃ =>
            if ok = true then wpAny (model prog w) A (eval elt env) (fun x s₄ =>
              wpAny (model prog w) A (call (.builtin "list.append") [acc, x]) (fun _ s₅ => ∃ m, m < n ∧ I m s₅) (notedBy (model prog w) A env fun e s' => R (.error e) s') s₄) (notedBy (model prog w) A env fun e s' => R (.error e) s') s₃
            else ∃ m, m < n ∧ I m s₃) (notedBy (model prog w) A env fun e s' => R (.error e) s') s₂) (notedBy (model prog w) A env fun e s' => R (.error e) s') s₁') (notedBy (model prog w) A env fun e s' => R (.error e) s') s₁) (notedBy (model prog w) A env fun e s' => R (.error e) s') s)
    (n : Nat) (h : I n s) :
    codeAny (model prog w) A (.compLoop (.ListComp elt [⟨target, iter, ifs, 0⟩] scope pos) 0 it acc env) R s := by
  refine codeAny_loop rfl I (fun n s hI => ?_) n h
  show wpAny _ A ((compTurn (.ListComp elt [⟨target, iter, ifs, 0⟩] scope pos) 0 it acc env).onRaise (fun x => do noteFrame x env; theTreesLotGoes x)) _ _ s
  refine wpAny_noted ?_
  rw [compTurn_list]
  refine wpAny_bind (wpAny_standAt (wpAny_bind (wpAny_mono (turn n s hI) (fun r s₁ h₁ => ?_) fun _ _ h' => h')))
  cases r with
  | none => exact wpAny_pure h₁
  | some v =>
    refine wpAny_bind (wpAny_mono h₁ (fun _ s₁' h₁' => ?_) fun _ _ h' => h')
    refine wpAny_bind (wpAny_mono h₁' (fun _ s₂ h₂ => wpAny_bind (wpAny_mono h₂ (fun ok s₃ h₃ => ?_) fun _ _ h' => h')) fun _ _ h' => h')
    cases ok with
    | false => exact wpAny_pure ⟨rfl, h₃⟩
    | true =>
      exact wpAny_bind (wpAny_bind (wpAny_mono h₃ (fun x s₄ h₄ => wpAny_bind (wpAny_mono h₄ (fun _ s₅ h₅ => wpAny_pure (wpAny_pure ⟨rfl, h₅⟩)) fun _ _ h' => h')) fun _ _ h' => h'))
section
variable {X : Cx}
def tLc (wi : TI) (g : TG) (tt : TT) (te : TE) (vs : List Nat) : TE := fun σ H Q => wi σ H fun J H1 => ∀ D, H1 D = none → ∃ W : Nat → Nat → Hp → Prop, (∃ m, W 0 m (upd H1 D (.lst []))) ∧ ∀ i m H, W i m H →
  (J.stop i H ∧ Q (.ref D) H) ∨ (J.go i H ∧ ∃ Nx : Hp → Prop, (∀ H', Nx H' → ∃ m', m' < m ∧ W (i + 1) m' H') ∧ ∀ x H', J.yld i H x H' → g x (wipe σ vs) H' fun σ2 H2 => wipe σ2 vs = wipe σ vs ∧ tt σ2 H2 fun b H3 =>
    if b = true then te σ2 H3 fun y H4 => ∃ acc, H4 D = some (.lst acc) ∧ acc.length < sizeLine ∧ Nx (upd H4 D (.lst (acc ++ [y]))) else Nx H3)
theorem lc_core {pins : List (Addr × Obj)} {s : Shared} {σ : St} {H : Hp} {Q : VK} {elt tg iter : Expr} {ifs : List Expr} {scope : Scope} {own : List (Str × Nat)} {pos pos' : Pos} {wi : TI} {g : TG} {tt : TT} {te : TE} {use : Option (Value → Sem Unit)} {Qf : Value → Shared → Prop}
    (hc : X.calm = true) (hN : X.N.Nodup) (I : Inv X pins σ H s) (hi : PI X tg iter wi) (ok : BlkOk X.N X.env.scope scope own)
    (hg : ∀ (s : Shared) (H : Hp) (C : Addr) (cl : List (Str × Addr)) (fp : List Addr), PG (X.blk s H scope (compEnvC scope cl C X.env) fp) tg g) (ht : ∀ (s : Shared) (H : Hp) (C : Addr) (cl : List (Str × Addr)) (fp : List Addr), PTs (X.blk s H scope (compEnvC scope cl C X.env) fp) ifs tt)
    (he : ∀ (s : Shared) (H : Hp) (C : Addr) (cl : List (Str × Addr)) (fp : List Addr), PE (X.blk s H scope (compEnvC scope cl C X.env) fp) elt te) (hs : ∀ x, foldedSetIterable iter X.env x = pure x)
    (h : tLc wi g tt te (own.map (·.2)) σ H Q)
    (hRR : ∀ D C s' m H', Inv X pins σ H' s' → Q (.ref D) H' → s'.heap.Ns C m → FpOk X pins H' C → compPost (model X.prog X.w) X.A X.xe use Qf (.ref D) C (.ok .next) s') :
    wpAny (model X.prog X.w) X.A (comprehension (.ListComp elt [⟨tg, iter, ifs, 0⟩] scope pos) scope X.env pos' (newList []) false (eval iter X.env) use) Qf X.xe s := by
  have hfree : ∀ y ∈ scope.names, y.2 = .free → ∃ c, X.env.cells.lookup y.1 = some c := fun y hy e => by
    rcases ok.free y hy e with k | k
    · exact I.ok.has _ (.inl k)
    · exact I.ok.has _ (.inr k)
  refine wpAny_comprehension_free (use := use) rfl hs (closure_ok hfree) ok.kind (fun y hy e => by rw [ok.uniq y hy, e])
    (thn (hi pins s σ H _ I h) fun xv s1 hx => thn hx fun itv s2 h2 => ?_)
  obtain ⟨it, fp, tn, J, H2, e, I2, T, st2, f2, q⟩ := h2
  subst e
  refine wpAny_newObj_type (newEnv_comp ?_) (by show 0 ≤ sizeLine; decide)
  generalize hD : s2.heap.objs.size = D
  have hDn : H2 D = none := I2.hok.fresh (Nat.le_of_eq hD)
  obtain ⟨W, ⟨m0, w0⟩, turn⟩ := q D hDn
  generalize hs3 : ({ s2 with heap := s2.heap.push { cls := .type "list", data := .seq ([] : List Value).toArray } } : Shared) = s3
  have I3 : Inv X pins σ (upd H2 D (.lst [])) s3 := by
    rw [← hs3]
    refine I2.laid (t' := s2.toks) (fun b o e => Heap.get?_push_of_some _ e) (Nat.le_of_eq hD) ⟨Nat.zero_le _, [], 0, .nil, ?_⟩
    rw [← hD]
    exact Heap.get?_push_size _ rfl
  have h3 : s3.heap = s2.heap.push { cls := .type "list", data := .seq ([] : List Value).toArray } := by rw [← hs3]
  have sz : ∀ b ∈ fp, b < s2.heap.objs.size := fun b hb => by
    obtain ⟨o, e, _⟩ := T.obj _ _ st2 b hb
    exact Heap.lt_size e
  have f3 : ∀ b ∈ fp, FpOk X pins (upd H2 D (.lst [])) b ∧ b < s3.heap.objs.size := fun b hb => by
    have hlt := sz b hb
    refine ⟨⟨?_, (f2 b hb).2⟩, by rw [h3, Heap.size_push]; exact Nat.lt_succ_of_lt hlt⟩
    rw [upd_ne (by rw [← hD]; exact Nat.ne_of_lt hlt)]
    exact (f2 b hb).1
  have st3 : tn 0 s3.heap := T.keep _ _ _ st2 fun b _ o e => by rw [h3]; exact Heap.get?_push_of_some _ e
  have I4 := block_start I3 ok hN f3
  have pg := hg s3 (upd H2 D (.lst [])) s3.heap.objs.size (cellsFrom (s3.heap.objs.size + 1) scope.names (cloFrom X.env.cells scope.names [])) fp
  have pt := ht s3 (upd H2 D (.lst [])) s3.heap.objs.size (cellsFrom (s3.heap.objs.size + 1) scope.names (cloFrom X.env.cells scope.names [])) fp
  have pe := he s3 (upd H2 D (.lst [])) s3.heap.objs.size (cellsFrom (s3.heap.objs.size + 1) scope.names (cloFrom X.env.cells scope.names [])) fp
  show codeAny _ _ (.compStart (.ListComp elt [⟨tg, iter, ifs, 0⟩] scope pos) 0 (.ref it) (.ref D) (compEnvC scope (cellsFrom (s3.heap.objs.size + 1) scope.names (cloFrom X.env.cells scope.names [])) s3.heap.objs.size X.env)) (compPost (model X.prog X.w) X.A X.xe use Qf (.ref D) s3.heap.objs.size) { s3 with heap := pushCells (s3.heap.push { cls := .type "dict", data := .dict #[] }) scope.names }
  have nfp : ∀ b ∈ fp, (upd H2 D (.lst [])) b = none := fun b hb => (f3 b hb).1.1
  generalize hce : compEnvC scope (cellsFrom (s3.heap.objs.size + 1) scope.names (cloFrom X.env.cells scope.names [])) s3.heap.objs.size X.env = ce at I4 pg pt pe ⊢
  have cL : ce.locals = s3.heap.objs.size := by subst hce; rfl
  generalize hH3 : upd H2 D (.lst []) = H3 at I3 I4 pg pt pe w0 nfp f3
  generalize hs4 : ({ s3 with heap := pushCells (s3.heap.push { cls := .type "dict", data := .dict #[] }) scope.names } : Shared) = s4 at I4 ⊢
  have st4 : tn 0 s4.heap := T.keep _ _ _ st3 fun b _ o e => by rw [← hs4]; exact pushCells_keeps _ _ _ _ (Heap.get?_push_of_some _ e)
  have stat : ∀ {σ' : St} {H' : Hp} {s' : Shared}, Inv (X.blk s3 H3 scope ce fp) [] σ' H' s' → (∀ b ∈ fp, H' b = none) → ∀ b ∈ fp, FpOk (X.blk s3 H3 scope ce fp) [] H' b := fun {σ' H' s'} I' hn b hb =>
    ⟨hn b hb, (I'.ok.exf b hb).1, I'.ok.exfs b hb, .inl hb, fun x c e => (I'.ok.exf b hb).2 x c e, fun p hp => absurd (show p ∈ ([] : List (Addr × Obj)) ++ [] from hp) (by simp)⟩
  have loop : codeAny (model X.prog X.w) X.A (.compLoop (.ListComp elt [⟨tg, iter, ifs, 0⟩] scope pos) 0 (.ref it) (.ref D) ce) (compPost (model X.prog X.w) X.A X.xe use Qf (.ref D) s3.heap.objs.size) s4 := by
    refine compLoop_any (fun n s' => ∃ i H', Inv (X.blk s3 H3 scope ce fp) [] (wipe σ (own.map (·.2))) H' s' ∧ tn i s'.heap ∧ (∀ b ∈ fp, H' b = none) ∧ W i n H') ?_ m0 ⟨0, H3, I4, st4, nfp, w0⟩
    rintro n s5 ⟨i, H5, I5, st5, n5, w5⟩
    rcases turn i n H5 w5 with ⟨stop, qq⟩ | ⟨go, Nx, hNx, step⟩
    · have td := T.done (X.blk s3 H3 scope ce fp) rfl rfl rfl hc i [] s5 _ H5 (fun _ _ => False) I5 (stat I5 n5) st5 stop
      refine thnF td fun r s6 ⟨hr, I6⟩ => ?_
      subst hr
      have I7 : Inv X pins σ H5 s6 := I3.call' (ch := fp) I6.os I6.base I6.hok I6.bare fun b hb => ⟨(f3 b hb).1.2.2.2.1, (f3 b hb).1.2.1, (f3 b hb).1.2.2.2.2.1, (f3 b hb).1.2.2.2.2.2⟩
      have nC : H5 s3.heap.objs.size = none := by
        have z : H5 ce.locals = none := I6.free
        rw [cL] at z
        exact z
      obtain ⟨m, hn, _⟩ := I6.loc
      have hn : s6.heap.Ns ce.locals m := hn
      rw [cL] at hn
      exact hRR D s3.heap.objs.size s6 m H5 I7 qq hn (I3.fpOk (Nat.le_refl _) nC)
    · have ti := T.item (X.blk s3 H3 scope ce fp) rfl rfl rfl hc i [] s5 _ H5 (fun _ _ => False) I5 (stat I5 n5) st5 go
      refine thnF ti fun r s6 ⟨u, hr, h6⟩ => ?_
      subst hr
      refine thnF h6 fun _ s7 ⟨x, H7, I7, r7, y7, st7, n7⟩ => ?_
      have I7' := I7.pinned (stat I7 n7) (T.obj _ _ st7)
      refine thnF (pg _ s7 _ H7 x u _ I7' r7 (step x H7 y7)) fun _ s8 ⟨σ8, H8, I8, hw8, q8⟩ => ?_
      refine thnF (pt _ s8 σ8 H8 _ I8 q8) fun b s9 ⟨H9, I9, q9⟩ => ?_
      have fin : ∀ {s' : Shared} {H' : Hp}, Inv (X.blk s3 H3 scope ce fp) ([] ++ pinsAt fp s7.heap) σ8 H' s' → Nx H' → ∃ m, m < n ∧ ∃ i H', Inv (X.blk s3 H3 scope ce fp) [] (wipe σ (own.map (·.2))) H' s' ∧ tn i s'.heap ∧ (∀ b ∈ fp, H' b = none) ∧ W i m H' := fun {s' H'} I' nx => by
        obtain ⟨m', hm, w'⟩ := hNx H' nx
        have pin' : ∀ b ∈ fp, ∀ o, s7.heap.get? b = some o → s'.heap.get? b = some o ∧ H' b = none := fun b hb o e =>
          let z := I'.pin (b, o) (List.mem_append_right _ (List.mem_append_right _ (mem_pinsAt hb e)))
          ⟨z.1, z.2.1⟩
        have hl : (wipe σ (own.map (·.2))).length = σ8.length := by rw [← hw8, wipe_length]
        refine ⟨m', hm, i + 1, H', (I'.unpinned (pins := [])).weak hl (fun j v e => ?_), T.keep _ _ _ st7 fun b hb o e => (pin' b hb o e).1, fun b hb => ?_, w'⟩
        · rw [← hw8] at e
          exact (wipe_some e).1
        · obtain ⟨o, e, _⟩ := T.obj _ _ st7 b hb
          exact (pin' b hb o e).2
      cases b with
      | false =>
        simp only [Bool.false_eq_true, if_false] at q9 ⊢
        exact fin I9 q9
      | true =>
        simp only [if_true] at q9 ⊢
        refine thnF (pe _ s9 σ8 H9 _ I9 q9) fun z s10 ⟨yv, H10, I10, r10, acc, hD10, hz10, nx⟩ => ?_
        exact app_ok (X := X.blk s3 H3 scope ce fp) I10 hD10 hz10 r10 fun s11 I11 => fin I11 nx
  exact codeAny_compStart_list loop (T.self X.A 0 _ _ _ st4 loop)
theorem pe_lc {elt tg iter : Expr} {ifs : List Expr} {scope : Scope} {own : List (Str × Nat)} {pos : Pos} {wi : TI} {g : TG} {tt : TT} {te : TE} (hc : X.calm = true) (hN : X.N.Nodup) (hi : PI X tg iter wi) (ok : BlkOk X.N X.env.scope scope own)
    (hg : ∀ (s : Shared) (H : Hp) (C : Addr) (cl : List (Str × Addr)) (fp : List Addr), PG (X.blk s H scope (compEnvC scope cl C X.env) fp) tg g) (ht : ∀ (s : Shared) (H : Hp) (C : Addr) (cl : List (Str × Addr)) (fp : List Addr), PTs (X.blk s H scope (compEnvC scope cl C X.env) fp) ifs tt)
    (he : ∀ (s : Shared) (H : Hp) (C : Addr) (cl : List (Str × Addr)) (fp : List Addr), PE (X.blk s H scope (compEnvC scope cl C X.env) fp) elt te) (hs : ∀ x, foldedSetIterable iter X.env x = pure x := by intro _; rfl) :
    PE X (.ListComp elt [⟨tg, iter, ifs, 0⟩] scope pos) (tLc wi g tt te (own.map (·.2))) := by
  intro pins s σ H Q I h
  rw [eval_ListComp]
  refine lc_core hc hN I hi ok hg ht he hs h fun D C s' m H' I' q hn f => ⟨m, hn, fun h'' sb => ?_⟩
  obtain ⟨f0, f1, f2, f3, f4, f5⟩ := f
  exact ⟨.ref D, H', I'.turned (t' := s'.toks) (fun b o hb e => (sb.2 b hb).trans e) f0 f1 f3 f4 f5, rfl, q⟩
theorem ps_setLc {i : Nat} {y : Str} {py : Pos} {elt tg iter : Expr} {ifs : List Expr} {scope : Scope} {own : List (Str × Nat)} {pos spos : Pos} {wi : TI} {g : TG} {tt : TT} {te : TE} (hc : X.calm = true) (hN : X.N.Nodup) (hy : X.N[i]? = some y) (hyl : X.env.scope.names.lookup y = some .local)
    (hsw : swapsWith (.ListComp elt [⟨tg, iter, ifs, 0⟩] scope pos) (some (.Name y py)) spos.line X.env = pure true) (hi : PI X tg iter wi) (ok : BlkOk X.N X.env.scope scope own)
    (hg : ∀ (s : Shared) (H : Hp) (C : Addr) (cl : List (Str × Addr)) (fp : List Addr), PG (X.blk s H scope (compEnvC scope cl C X.env) fp) tg g) (ht : ∀ (s : Shared) (H : Hp) (C : Addr) (cl : List (Str × Addr)) (fp : List Addr), PTs (X.blk s H scope (compEnvC scope cl C X.env) fp) ifs tt)
    (he : ∀ (s : Shared) (H : Hp) (C : Addr) (cl : List (Str × Addr)) (fp : List Addr), PE (X.blk s H scope (compEnvC scope cl C X.env) fp) elt te) (hs : ∀ x, foldedSetIterable iter X.env x = pure x := by intro _; rfl) :
    PS X (.Assign [.Name y py] (.ListComp elt [⟨tg, iter, ifs, 0⟩] scope pos) spos) (tAsg (tLc wi g tt te (own.map (·.2))) (gName i)) := by
  intro pins s σ H D I h
  rw [exec_Assign_Name_used _ _ _ _ hsw]
  refine wpAny_bind (wpAny_standAt (wpAny_bind ?_))
  show wpAny _ X.A (do let _ ← comprehension (.ListComp elt [⟨tg, iter, ifs, 0⟩] scope pos) scope X.env (firstIterPos [⟨tg, iter, ifs, 0⟩] pos) (newList []) false (eval iter X.env) (some (assign (.Name y py) X.env))) _ _ s
  have h : tLc wi g tt te (own.map (·.2)) σ H (fun x H1 => gName i x σ H1 D.nx) := h
  refine wpAny_bind (thn (lc_core (Qf := fun _ s' => SP X pins D .next s') hc hN I hi ok hg ht he hs h fun L C s' m H' I' q hn f => ?_) fun _ s' hq => wpAny_pure (wpAny_pure hq))
  show wpAny _ _ (assign (.Name y py) X.env (.ref L)) _ _ _
  refine wpAny_assign_Name (store_ok2 (v := V.ref L) I' hN hy (.inl hyl) rfl (fun s2 I2 ⟨a, sb, ha⟩ => ?_) (.inr hyl))
  obtain ⟨f0, f1, f2, f3, f4, f5⟩ := f
  have haC : C ≠ a := by
    rcases ha with z | z
    · rw [z]; exact f1
    · exact fun e => f4 y a z e.symm
  refine ⟨m, hn.sameBut sb haC, fun h3 sb3 => ?_⟩
  exact ⟨_, H', I2.turned (t' := s2.toks) (fun b o hb e => (sb3.2 b hb).trans e) f0 f1 f3 f4 f5, q⟩
theorem sw_true {elt : Expr} {gs : List Comprehension} {scope : Scope} {pos py : Pos} {y : Str} {l : Nat} {env : Env} (hk : env.scope.kind = .function) (hy : env.scope.names.lookup y = some .local) (hl : (py.line == pos.line) = true)
    (ha : (scope.names.any fun (n, k) => n == y && (k == .local || k == .cell)) = false) : swapsWith (.ListComp elt gs scope pos) (some (.Name y py)) l env = pure true := by
  have ky : env.kindOf y = some .local := hy
  have hb : env.blockKind = .function := by unfold Env.blockKind; rw [hk]; rfl
  unfold swapsWith
  simp only [hb, ky, ha, Expr.pos, hl]
  rfl
end
def blkC (N : List Str) (sc scope : Scope) (own : List (Str × Nat)) : Bool :=
  (match scope.kind with | .function => true | _ => false) && (scope.names.all fun y => decide (scope.names.lookup y.1 = some y.2)) && (own.all fun p => decide (N[p.2]? = some p.1)) &&
    (scope.names.all fun y => match y.2 with
      | .free => (match sc.names.lookup y.1 with | some .cell => true | some .free => true | _ => false)
      | .local => decide (y.1 ∈ own.map (·.1)) || decide (y.1 ∉ N)
      | .cell => decide (y.1 ∈ own.map (·.1)) || decide (y.1 ∉ N)
      | _ => true)
theorem blkOk_by {N : List Str} {sc scope : Scope} {own : List (Str × Nat)} (h : blkC N sc scope own = true) : BlkOk N sc scope own := by
  unfold blkC at h
  simp only [Bool.and_eq_true, List.all_eq_true, decide_eq_true_eq] at h
  obtain ⟨⟨⟨h1, h2⟩, h3⟩, h4⟩ := h
  refine ⟨?_, h2, h3, fun y hy e => ?_, fun y hy e => ?_⟩
  · split at h1
    · assumption
    · cases h1
  · have q := h4 y hy
    simp only [e] at q
    split at q <;> first | exact .inl (by assumption) | exact .inr (by assumption) | cases q
  · have q := h4 y hy
    rcases e with e | e <;> (simp only [e, Bool.or_eq_true, decide_eq_true_eq] at q; exact q)
end L2
namespace L2
open PySem PySem.Spec PyProof.Rows
theorem compTurn2_out (elt t0 i0 t1 i1 : Expr) (ifs0 ifs1 : List Expr) (scope : Scope) (pos : Pos) (it acc : Value) (env : Env) :
    compTurn (.ListComp elt [⟨t0, i0, ifs0, 0⟩, ⟨t1, i1, ifs1, 0⟩] scope pos) 0 it acc env = (do
      standAt i0.pos
      match ← pyNext it with
      | none => pure (.done .next)
      | some v =>
        letOwnedTupleGo t0 it v
        assign t0 env v
        let mut ok := true
        for c in ifs0 do
          if ok then ok ← isTrue c env (eval c env)
        if ok then
          let x ← eval i1 env
          standAt i1.pos
          let x ← foldedSetIterable i1 env x
          let _ ← runOwn (.compStart (.ListComp elt [⟨t0, i0, ifs0, 0⟩, ⟨t1, i1, ifs1, 0⟩] scope pos) 1 (← holding [x] (pyIter x)) acc env) env
        again (.compLoop (.ListComp elt [⟨t0, i0, ifs0, 0⟩, ⟨t1, i1, ifs1, 0⟩] scope pos) 0 it acc env)) := by rfl
theorem compTurn2_in (elt t0 i0 t1 i1 : Expr) (ifs0 ifs1 : List Expr) (scope : Scope) (pos : Pos) (it acc : Value) (env : Env) :
    compTurn (.ListComp elt [⟨t0, i0, ifs0, 0⟩, ⟨t1, i1, ifs1, 0⟩] scope pos) 1 it acc env = (do
      standAt i1.pos
      match ← pyNext it with
      | none => pure (.done .next)
      | some v =>
        letOwnedTupleGo t1 it v
        assign t1 env v
        let mut ok := true
        for c in ifs1 do
          if ok then ok ← isTrue c env (eval c env)
        if ok then
          (do let _ ← call (.builtin "list.append") [acc, ← eval elt env])
        again (.compLoop (.ListComp elt [⟨t0, i0, ifs0, 0⟩, ⟨t1, i1, ifs1, 0⟩] scope pos) 1 it acc env)) := by rfl
section
variable {prog : Program} {w : World} {A : Around} {R : Result → Shared → Prop} {s : Shared} {elt t0 i0 t1 i1 : Expr} {ifs0 ifs1 : List Expr} {scope : Scope} {pos : Pos} {it acc : Value} {env : Env}
theorem compLoop2_out (hs : ∀ x, foldedSetIterable i1 env x = pure x) (I : Nat → Shared → Prop)
    (turn : ∀ n s, I n s → wpAny (model prog w) A (pyNext it) (fun r s₁ => match r with
      | none => R (.ok .next) s₁
      | some v => wpAny (model prog w) A (letOwnedTupleGo t0 it v) (fun _ s₁' => wpAny (model prog w) A (assign t0 env v) (fun _ s₂ =>
          wpAny (model prog w) A (forIn ifs0 true fun c r => if r = true then do let ok ← isTrue c env (eval c env); pure (ForInStep.yield ok) else pure (ForInStep.yield r)) (fun ok s₃ =>
            if ok = true then wpAny (model prog w) A (eval i1 env) (fun x s₄ => wpAny (model prog w) A (pyIter x) (fun it1 s₅ =>
              codeAny (model prog w) A (.compStart (.ListComp elt [⟨t0, i0, ifs0, 0⟩, ⟨t1, i1, ifs1, 0⟩] scope pos) 1 it1 acc env) (fun r s' => match r with
                | .ok _ => ∃ m, m < n ∧ I m s'
                | .error _ => False) s₅) (notedBy (model prog w) A env fun e s' => R (.error e) s') s₄) (notedBy (model prog w) A env fun e s' => R (.error e) s') s₃
            else ∃ m, m < n ∧ I m s₃) (notedBy (model prog w) A env fun e s' => R (.error e) s') s₂) (notedBy (model prog w) A env fun e s' => R (.error e) s') s₁') (notedBy (model prog w) A env fun e s' => R (.error e) s') s₁) (notedBy (model prog w) A env fun e s' => R (.error e) s') s)
    (n : Nat) (h : I n s) :
    codeAny (model prog w) A (.compLoop (.ListComp elt [⟨t0, i0, ifs0, 0⟩, ⟨t1, i1, ifs1, 0⟩] scope pos) 0 it acc env) R s := by
  refine codeAny_loop rfl I (fun n s hI => ?_) n h
  show wpAny _ A ((compTurn (.ListComp elt [⟨t0, i0, ifs0, 0⟩, ⟨t1, i1, ifs1, 0⟩] scope pos) 0 it acc env).onRaise (fun x => do noteFrame x env; theTreesLotGoes x)) _ _ s
  refine wpAny_noted ?_
  rw [compTurn2_out]
  refine wpAny_bind (wpAny_standAt (wpAny_bind (wpAny_mono (turn n s hI) (fun r s₁ h₁ => ?_) fun _ _ h' => h')))
  cases r with
  | none => exact wpAny_pure h₁
  | some v =>
    refine wpAny_bind (wpAny_mono h₁ (fun _ s₁' h₁' => ?_) fun _ _ h' => h')
    refine wpAny_bind (wpAny_mono h₁' (fun _ s₂ h₂ => wpAny_bind (wpAny_mono h₂ (fun ok s₃ h₃ => ?_) fun _ _ h' => h')) fun _ _ h' => h')
    cases ok with
    | false => exact wpAny_pure ⟨rfl, h₃⟩
    | true =>
      refine wpAny_bind (wpAny_mono h₃ (fun x s₄ h₄ => ?_) fun _ _ h' => h')
      refine wpAny_bind (wpAny_standAt (wpAny_bind (wpAny_of_eq (hs x) (wpAny_bind (wpAny_holding (wpAny_mono h₄ (fun it1 s₅ h₅ => ?_) fun _ _ h' => h'))))))
      refine wpAny_bind (wpAny_runOwn ?_)
      rw [Around.mark_none]
      refine codeAny_mono h₅ fun r s' hr => ?_
      cases r with
      | ok f =>
        first
          | exact wpAny_pure ⟨rfl, hr⟩
          | exact wpAny_bind (wpAny_pure (wpAny_pure ⟨rfl, hr⟩))
      | error e => exact hr.elim
theorem compLoop2_in (I : Nat → Shared → Prop)
    (turn : ∀ n s, I n s → wpAny (model prog w) A (pyNext it) (fun r s₁ => match r with
      | none => R (.ok .next) s₁
      | some v => wpAny (model prog w) A (letOwnedTupleGo t1 it v) (fun _ s₁' => wpAny (model prog w) A (assign t1 env v) (fun _ s₂ =>
          wpAny (model prog w) A (forIn ifs1 true fun c r => if r = true then do let ok ← isTrue c env (eval c env); pure (ForInStep.yield ok) else pure (ForInStep.yield r)) (fun ok s₃ =>
            if ok = true then wpAny (model prog w) A (eval elt env) (fun x s₄ =>
              wpAny (model prog w) A (call (.builtin "list.append") [acc, x]) (fun _ s₅ => ∃ m, m < n ∧ I m s₅) (notedBy (model prog w) A env fun e s' => R (.error e) s') s₄) (notedBy (model prog w) A env fun e s' => R (.error e) s') s₃
            else ∃ m, m < n ∧ I m s₃) (notedBy (model prog w) A env fun e s' => R (.error e) s') s₂) (notedBy (model prog w) A env fun e s' => R (.error e) s') s₁') (notedBy (model prog w) A env fun e s' => R (.error e) s') s₁) (notedBy (model prog w) A env fun e s' => R (.error e) s') s)
    (n : Nat) (h : I n s) :
    codeAny (model prog w) A (.compLoop (.ListComp elt [⟨t0, i0, ifs0, 0⟩, ⟨t1, i1, ifs1, 0⟩] scope pos) 1 it acc env) R s := by
  refine codeAny_loop rfl I (fun n s hI => ?_) n h
  show wpAny _ A ((compTurn (.ListComp elt [⟨t0, i0, ifs0, 0⟩, ⟨t1, i1, ifs1, 0⟩] scope pos) 1 it acc env).onRaise (fun x => do noteFrame x env; theTreesLotGoes x)) _ _ s
  refine wpAny_noted ?_
  rw [compTurn2_in]
  refine wpAny_bind (wpAny_standAt (wpAny_bind (wpAny_mono (turn n s hI) (fun r s₁ h₁ => ?_) fun _ _ h' => h')))
  cases r with
  | none => exact wpAny_pure h₁
  | some v =>
    refine wpAny_bind (wpAny_mono h₁ (fun _ s₁' h₁' => ?_) fun _ _ h' => h')
    refine wpAny_bind (wpAny_mono h₁' (fun _ s₂ h₂ => wpAny_bind (wpAny_mono h₂ (fun ok s₃ h₃ => ?_) fun _ _ h' => h')) fun _ _ h' => h')
    cases ok with
    | false => exact wpAny_pure ⟨rfl, h₃⟩
    | true =>
      exact wpAny_bind (wpAny_bind (wpAny_mono h₃ (fun x s₄ h₄ => wpAny_bind (wpAny_mono h₄ (fun _ s₅ h₅ => wpAny_pure (wpAny_pure ⟨rfl, h₅⟩)) fun _ _ h' => h')) fun _ _ h' => h'))
theorem compStart1_ok (h0 : codeAny (model prog w) A (.compLoop (.ListComp elt [⟨t0, i0, ifs0, 0⟩, ⟨t1, i1, ifs1, 0⟩] scope pos) 1 it acc env) R s)
    (h : wpAny (model prog w) A (pyIter it) (fun it' s' => codeAny (model prog w) A (.compLoop (.ListComp elt [⟨t0, i0, ifs0, 0⟩, ⟨t1, i1, ifs1, 0⟩] scope pos) 1 it' acc env) R s')
      (notedBy (model prog w) A env fun x s' => R (.error x) s') s) :
    codeAny (model prog w) A (.compStart (.ListComp elt [⟨t0, i0, ifs0, 0⟩, ⟨t1, i1, ifs1, 0⟩] scope pos) 1 it acc env) R s := by
  refine codeAny_of_tree ?_
  show wpAny _ _ ((compStart (.ListComp elt [⟨t0, i0, ifs0, 0⟩, ⟨t1, i1, ifs1, 0⟩] scope pos) 1 it acc env).onRaise (fun x => do noteFrame x env; standAt theWindowsPlace)) _ _ s
  refine wpAny_notedAt ?_
  unfold compStart
  show wpAny _ _ (ask >>= _) _ _ s
  refine wpAny_bind (wpAny_askSetting (wpAny_ite ?_))
  split
  · first
      | exact wpAny_bind (wpAny_pure (wpAny_pure (And.intro rfl h0)))
      | exact wpAny_pure (And.intro rfl h0)
  · first
      | exact wpAny_bind (wpAny_rule (wpAny_bind (wpAny_standAt (wpAny_bind (wpAny_mono h (fun it' s' h' => wpAny_pure (And.intro rfl h')) fun _ _ x => x)))))
      | (refine wpAny_bind (wpAny_rule ?_); show wpAny _ _ (standAt i1.pos >>= _) _ _ s; exact wpAny_bind (wpAny_standAt (wpAny_bind (wpAny_mono h (fun it' s' h' => wpAny_pure (And.intro rfl h')) fun _ _ x => x))))
end
theorem wipe_out {σ : St} {i : Nat} : ∀ {vs : List Nat}, i ∉ vs → (wipe σ vs)[i]? = σ[i]?
  | [], _ => rfl
  | v :: vs, h => by
    have h1 : v ≠ i := fun e => h (by rw [e]; exact List.mem_cons_self)
    have h2 : i ∉ vs := fun m => h (List.mem_cons_of_mem _ m)
    unfold wipe
    rw [List.getElem?_set_ne h1]
    exact wipe_out h2
section
variable {X : Cx}
def tLc2 (wi : TI) (g : TG) (tt : TT) (wi1 : TI) (g1 : TG) (tt1 : TT) (te : TE) (vs vs1 : List Nat) : TE := fun σ H Q => wi σ H fun J H1 => ∀ D, H1 D = none → ∃ W : Nat → Nat → Hp → Prop, (∃ m, W 0 m (upd H1 D (.lst []))) ∧ ∀ i m H, W i m H →
  (J.stop i H ∧ Q (.ref D) H) ∨ (J.go i H ∧ ∃ Nx : Hp → Prop, (∀ H', Nx H' → ∃ m', m' < m ∧ W (i + 1) m' H') ∧ ∀ x H', J.yld i H x H' → g x (wipe σ vs) H' fun σ2 H2 => wipe σ2 vs = wipe σ vs ∧ tt σ2 H2 fun b H3 =>
    if b = true then wi1 σ2 H3 fun J1 H4 => ∃ W1 : Nat → Nat → Hp → Prop, (∃ m, W1 0 m H4) ∧ ∀ j k H, W1 j k H →
      (J1.stop j H ∧ Nx H) ∨ (J1.go j H ∧ ∃ Nx1 : Hp → Prop, (∀ H', Nx1 H' → ∃ k', k' < k ∧ W1 (j + 1) k' H') ∧ ∀ x H', J1.yld j H x H' → g1 x (wipe σ2 vs1) H' fun σ3 H5 => wipe σ3 vs1 = wipe σ2 vs1 ∧ tt1 σ3 H5 fun b H6 =>
        if b = true then te σ3 H6 fun y H7 => ∃ acc, H7 D = some (.lst acc) ∧ acc.length < sizeLine ∧ Nx1 (upd H7 D (.lst (acc ++ [y]))) else Nx1 H6)
    else Nx H3)
theorem lc2_core {pins : List (Addr × Obj)} {s : Shared} {σ : St} {H : Hp} {Q : VK} {elt tg iter tg1 iter1 : Expr} {ifs ifs1 : List Expr} {scope : Scope} {own : List (Str × Nat)} {vs1 : List Nat} {pos pos' : Pos} {wi wi1 : TI} {g g1 : TG} {tt tt1 : TT} {te : TE} {use : Option (Value → Sem Unit)} {Qf : Value → Shared → Prop}
    (hc : X.calm = true) (hN : X.N.Nodup) (I : Inv X pins σ H s) (hi : PI X tg iter wi) (ok : BlkOk X.N X.env.scope scope own) (hv : ∀ i ∈ vs1, i ∈ own.map (·.2))
    (hg : ∀ (s : Shared) (H : Hp) (C : Addr) (cl : List (Str × Addr)) (fp : List Addr), PG (X.blk s H scope (compEnvC scope cl C X.env) fp) tg g) (ht : ∀ (s : Shared) (H : Hp) (C : Addr) (cl : List (Str × Addr)) (fp : List Addr), PTs (X.blk s H scope (compEnvC scope cl C X.env) fp) ifs tt)
    (he : ∀ (s : Shared) (H : Hp) (C : Addr) (cl : List (Str × Addr)) (fp : List Addr), PE (X.blk s H scope (compEnvC scope cl C X.env) fp) elt te) (hs : ∀ x, foldedSetIterable iter X.env x = pure x)
    (hi1 : ∀ (s : Shared) (H : Hp) (C : Addr) (cl : List (Str × Addr)) (fp : List Addr), PI (X.blk s H scope (compEnvC scope cl C X.env) fp) tg1 iter1 wi1)
    (hg1 : ∀ (s : Shared) (H : Hp) (C : Addr) (cl : List (Str × Addr)) (fp : List Addr), PG (X.blk s H scope (compEnvC scope cl C X.env) fp) tg1 g1)
    (ht1 : ∀ (s : Shared) (H : Hp) (C : Addr) (cl : List (Str × Addr)) (fp : List Addr), PTs (X.blk s H scope (compEnvC scope cl C X.env) fp) ifs1 tt1)
    (hs1 : ∀ env x, foldedSetIterable iter1 env x = pure x)
    (h : tLc2 wi g tt wi1 g1 tt1 te (own.map (·.2)) vs1 σ H Q)
    (hRR : ∀ D C s' m H', Inv X pins σ H' s' → Q (.ref D) H' → s'.heap.Ns C m → FpOk X pins H' C → compPost (model X.prog X.w) X.A X.xe use Qf (.ref D) C (.ok .next) s') :
    wpAny (model X.prog X.w) X.A (comprehension (.ListComp elt [⟨tg, iter, ifs, 0⟩, ⟨tg1, iter1, ifs1, 0⟩] scope pos) scope X.env pos' (newList []) false (eval iter X.env) use) Qf X.xe s := by
  have hfree : ∀ y ∈ scope.names, y.2 = .free → ∃ c, X.env.cells.lookup y.1 = some c := fun y hy e => by
    rcases ok.free y hy e with k | k
    · exact I.ok.has _ (.inl k)
    · exact I.ok.has _ (.inr k)
  refine wpAny_comprehension_free (use := use) rfl hs (closure_ok hfree) ok.kind (fun y hy e => by rw [ok.uniq y hy, e])
    (thn (hi pins s σ H _ I h) fun xv s1 hx => thn hx fun itv s2 h2 => ?_)
  obtain ⟨it, fp, tn, J, H2, e, I2, T, st2, f2, q⟩ := h2
  subst e
  refine wpAny_newObj_type (newEnv_comp ?_) (by show 0 ≤ sizeLine; decide)
  generalize hD : s2.heap.objs.size = D
  have hDn : H2 D = none := I2.hok.fresh (Nat.le_of_eq hD)
  obtain ⟨W, ⟨m0, w0⟩, turn⟩ := q D hDn
  generalize hs3 : ({ s2 with heap := s2.heap.push { cls := .type "list", data := .seq ([] : List Value).toArray } } : Shared) = s3
  have I3 : Inv X pins σ (upd H2 D (.lst [])) s3 := by
    rw [← hs3]
    refine I2.laid (t' := s2.toks) (fun b o e => Heap.get?_push_of_some _ e) (Nat.le_of_eq hD) ⟨Nat.zero_le _, [], 0, .nil, ?_⟩
    rw [← hD]
    exact Heap.get?_push_size _ rfl
  have h3 : s3.heap = s2.heap.push { cls := .type "list", data := .seq ([] : List Value).toArray } := by rw [← hs3]
  have sz : ∀ b ∈ fp, b < s2.heap.objs.size := fun b hb => by
    obtain ⟨o, e, _⟩ := T.obj _ _ st2 b hb
    exact Heap.lt_size e
  have f3 : ∀ b ∈ fp, FpOk X pins (upd H2 D (.lst [])) b ∧ b < s3.heap.objs.size := fun b hb => by
    have hlt := sz b hb
    refine ⟨⟨?_, (f2 b hb).2⟩, by rw [h3, Heap.size_push]; exact Nat.lt_succ_of_lt hlt⟩
    rw [upd_ne (by rw [← hD]; exact Nat.ne_of_lt hlt)]
    exact (f2 b hb).1
  have st3 : tn 0 s3.heap := T.keep _ _ _ st2 fun b _ o e => by rw [h3]; exact Heap.get?_push_of_some _ e
  have I4 := block_start I3 ok hN f3
  have pg := hg s3 (upd H2 D (.lst [])) s3.heap.objs.size (cellsFrom (s3.heap.objs.size + 1) scope.names (cloFrom X.env.cells scope.names [])) fp
  have pt := ht s3 (upd H2 D (.lst [])) s3.heap.objs.size (cellsFrom (s3.heap.objs.size + 1) scope.names (cloFrom X.env.cells scope.names [])) fp
  have pe := he s3 (upd H2 D (.lst [])) s3.heap.objs.size (cellsFrom (s3.heap.objs.size + 1) scope.names (cloFrom X.env.cells scope.names [])) fp
  have pi1 := hi1 s3 (upd H2 D (.lst [])) s3.heap.objs.size (cellsFrom (s3.heap.objs.size + 1) scope.names (cloFrom X.env.cells scope.names [])) fp
  have pg1 := hg1 s3 (upd H2 D (.lst [])) s3.heap.objs.size (cellsFrom (s3.heap.objs.size + 1) scope.names (cloFrom X.env.cells scope.names [])) fp
  have pt1 := ht1 s3 (upd H2 D (.lst [])) s3.heap.objs.size (cellsFrom (s3.heap.objs.size + 1) scope.names (cloFrom X.env.cells scope.names [])) fp
  show codeAny _ _ (.compStart (.ListComp elt [⟨tg, iter, ifs, 0⟩, ⟨tg1, iter1, ifs1, 0⟩] scope pos) 0 (.ref it) (.ref D) (compEnvC scope (cellsFrom (s3.heap.objs.size + 1) scope.names (cloFrom X.env.cells scope.names [])) s3.heap.objs.size X.env)) (compPost (model X.prog X.w) X.A X.xe use Qf (.ref D) s3.heap.objs.size) { s3 with heap := pushCells (s3.heap.push { cls := .type "dict", data := .dict #[] }) scope.names }
  have nfp : ∀ b ∈ fp, (upd H2 D (.lst [])) b = none := fun b hb => (f3 b hb).1.1
  generalize hce : compEnvC scope (cellsFrom (s3.heap.objs.size + 1) scope.names (cloFrom X.env.cells scope.names [])) s3.heap.objs.size X.env = ce at I4 pg pt pe pi1 pg1 pt1 ⊢
  have cL : ce.locals = s3.heap.objs.size := by subst hce; rfl
  generalize hH3 : upd H2 D (.lst []) = H3 at I3 I4 pg pt pe pi1 pg1 pt1 w0 nfp f3
  generalize hs4 : ({ s3 with heap := pushCells (s3.heap.push { cls := .type "dict", data := .dict #[] }) scope.names } : Shared) = s4 at I4 ⊢
  have st4 : tn 0 s4.heap := T.keep _ _ _ st3 fun b _ o e => by rw [← hs4]; exact pushCells_keeps _ _ _ _ (Heap.get?_push_of_some _ e)
  have stat : ∀ {σ' : St} {H' : Hp} {s' : Shared}, Inv (X.blk s3 H3 scope ce fp) [] σ' H' s' → (∀ b ∈ fp, H' b = none) → ∀ b ∈ fp, FpOk (X.blk s3 H3 scope ce fp) [] H' b := fun {σ' H' s'} I' hn b hb =>
    ⟨hn b hb, (I'.ok.exf b hb).1, I'.ok.exfs b hb, .inl hb, fun x c e => (I'.ok.exf b hb).2 x c e, fun p hp => absurd (show p ∈ ([] : List (Addr × Obj)) ++ [] from hp) (by simp)⟩
  have loop : codeAny (model X.prog X.w) X.A (.compLoop (.ListComp elt [⟨tg, iter, ifs, 0⟩, ⟨tg1, iter1, ifs1, 0⟩] scope pos) 0 (.ref it) (.ref D) ce) (compPost (model X.prog X.w) X.A X.xe use Qf (.ref D) s3.heap.objs.size) s4 := by
    refine compLoop2_out (hs1 ce) (fun n s' => ∃ i H', Inv (X.blk s3 H3 scope ce fp) [] (wipe σ (own.map (·.2))) H' s' ∧ tn i s'.heap ∧ (∀ b ∈ fp, H' b = none) ∧ W i n H') ?_ m0 ⟨0, H3, I4, st4, nfp, w0⟩
    rintro n s5 ⟨i, H5, I5, st5, n5, w5⟩
    rcases turn i n H5 w5 with ⟨stop, qq⟩ | ⟨go, Nx, hNx, step⟩
    · have td := T.done (X.blk s3 H3 scope ce fp) rfl rfl rfl hc i [] s5 _ H5 (fun _ _ => False) I5 (stat I5 n5) st5 stop
      refine thnF td fun r s6 ⟨hr, I6⟩ => ?_
      subst hr
      have I7 : Inv X pins σ H5 s6 := I3.call' (ch := fp) I6.os I6.base I6.hok I6.bare fun b hb => ⟨(f3 b hb).1.2.2.2.1, (f3 b hb).1.2.1, (f3 b hb).1.2.2.2.2.1, (f3 b hb).1.2.2.2.2.2⟩
      have nC : H5 s3.heap.objs.size = none := by
        have z : H5 ce.locals = none := I6.free
        rw [cL] at z
        exact z
      obtain ⟨m, hn, _⟩ := I6.loc
      have hn : s6.heap.Ns ce.locals m := hn
      rw [cL] at hn
      exact hRR D s3.heap.objs.size s6 m H5 I7 qq hn (I3.fpOk (Nat.le_refl _) nC)
    · have ti := T.item (X.blk s3 H3 scope ce fp) rfl rfl rfl hc i [] s5 _ H5 (fun _ _ => False) I5 (stat I5 n5) st5 go
      refine thnF ti fun r s6 ⟨u, hr, h6⟩ => ?_
      subst hr
      refine thnF h6 fun _ s7 ⟨x, H7, I7, r7, y7, st7, n7⟩ => ?_
      have I7' := I7.pinned (stat I7 n7) (T.obj _ _ st7)
      refine thnF (pg _ s7 _ H7 x u _ I7' r7 (step x H7 y7)) fun _ s8 ⟨σ8, H8, I8, hw8, q8⟩ => ?_
      refine thnF (pt _ s8 σ8 H8 _ I8 q8) fun b s9 ⟨H9, I9, q9⟩ => ?_
      have fin : ∀ {σ9 : St} {s' : Shared} {H' : Hp}, Inv (X.blk s3 H3 scope ce fp) ([] ++ pinsAt fp s7.heap) σ9 H' s' → (wipe σ (own.map (·.2))).length = σ9.length → (∀ (j : Nat) v, (wipe σ (own.map (·.2)))[j]? = some (some v) → σ9[j]? = some (some v)) → Nx H' →
          ∃ m, m < n ∧ ∃ i H', Inv (X.blk s3 H3 scope ce fp) [] (wipe σ (own.map (·.2))) H' s' ∧ tn i s'.heap ∧ (∀ b ∈ fp, H' b = none) ∧ W i m H' := fun {σ9 s' H'} I' hl hk nx => by
        obtain ⟨m', hm, w'⟩ := hNx H' nx
        have pin' : ∀ b ∈ fp, ∀ o, s7.heap.get? b = some o → s'.heap.get? b = some o ∧ H' b = none := fun b hb o e =>
          let z := I'.pin (b, o) (List.mem_append_right _ (List.mem_append_right _ (mem_pinsAt hb e)))
          ⟨z.1, z.2.1⟩
        refine ⟨m', hm, i + 1, H', (I'.unpinned (pins := [])).weak hl hk, T.keep _ _ _ st7 fun b hb o e => (pin' b hb o e).1, fun b hb => ?_, w'⟩
        obtain ⟨o, e, _⟩ := T.obj _ _ st7 b hb
        exact (pin' b hb o e).2
      have hl8 : (wipe σ (own.map (·.2))).length = σ8.length := by rw [← hw8, wipe_length]
      have hk8 : ∀ (j : Nat) v, (wipe σ (own.map (·.2)))[j]? = some (some v) → σ8[j]? = some (some v) := fun j v e => by
        rw [← hw8] at e
        exact (wipe_some e).1
      have hk9 : ∀ (j : Nat) v, (wipe σ (own.map (·.2)))[j]? = some (some v) → (wipe σ8 vs1)[j]? = some (some v) := fun j v e => by
        rw [← hw8] at e
        obtain ⟨e1, e2⟩ := wipe_some e
        rw [wipe_out fun z => e2 (hv j z)]
        exact e1
      cases b with
      | false =>
        simp only [Bool.false_eq_true, if_false] at q9 ⊢
        exact fin I9 hl8 hk8 q9
      | true =>
        simp only [if_true] at q9 ⊢
        refine thnF (pi1 _ s9 σ8 H9 _ I9 q9) fun xv s10 hx => thnF hx fun itv s11 h11 => ?_
        obtain ⟨it1, fp1, tn1, J1, H11, e1, I11, T1, st11, f11, W1, ⟨m1, w1⟩, turn1⟩ := h11
        subst e1
        have stat1 : ∀ {H' : Hp}, (∀ b ∈ fp1, H' b = none) → ∀ b ∈ fp1, FpOk (X.blk s3 H3 scope ce fp) ([] ++ pinsAt fp s7.heap) H' b := fun hn b hb => ⟨hn b hb, (f11 b hb).2⟩
        have loop1 : codeAny (model X.prog X.w) X.A (.compLoop (.ListComp elt [⟨tg, iter, ifs, 0⟩, ⟨tg1, iter1, ifs1, 0⟩] scope pos) 1 (.ref it1) (.ref D) ce)
            (fun r s' => match r with
              | .ok _ => ∃ m, m < n ∧ ∃ i H', Inv (X.blk s3 H3 scope ce fp) [] (wipe σ (own.map (·.2))) H' s' ∧ tn i s'.heap ∧ (∀ b ∈ fp, H' b = none) ∧ W i m H'
              | .error _ => False) s11 := by
          refine compLoop2_in (fun k s' => ∃ j H', Inv (X.blk s3 H3 scope ce fp) ([] ++ pinsAt fp s7.heap) (wipe σ8 vs1) H' s' ∧ tn1 j s'.heap ∧ (∀ b ∈ fp1, H' b = none) ∧ W1 j k H') ?_ m1 ⟨0, H11, I11.weak (wipe_length _ _) (fun j v e => (wipe_some e).1), st11, fun b hb => (f11 b hb).1, w1⟩
          rintro k s12 ⟨j, H12, I12, st12, n12, w12⟩
          rcases turn1 j k H12 w12 with ⟨stop1, nx1⟩ | ⟨go1, Nx1, hNx1, step1⟩
          · refine thnF (T1.done (X.blk s3 H3 scope ce fp) rfl rfl rfl hc j _ s12 (wipe σ8 vs1) H12 (fun _ _ => False) I12 (stat1 n12) st12 stop1) fun r s13 ⟨hr, I13⟩ => ?_
            subst hr
            exact fin I13 (hl8.trans (wipe_length σ8 vs1).symm) hk9 nx1
          · refine thnF (T1.item (X.blk s3 H3 scope ce fp) rfl rfl rfl hc j _ s12 (wipe σ8 vs1) H12 (fun _ _ => False) I12 (stat1 n12) st12 go1) fun r s13 ⟨u1, hr, h13⟩ => ?_
            subst hr
            refine thnF h13 fun _ s14 ⟨x1, H14, I14, r14, y14, st14, n14⟩ => ?_
            have I14' := I14.pinned (stat1 n14) (T1.obj _ _ st14)
            refine thnF (pg1 _ s14 (wipe σ8 vs1) H14 x1 u1 _ I14' r14 (step1 x1 H14 y14)) fun _ s15 ⟨σ15, H15, I15, hw15, q15⟩ => ?_
            refine thnF (pt1 _ s15 σ15 H15 _ I15 q15) fun b1 s16 ⟨H16, I16, q16⟩ => ?_
            have fin1 : ∀ {s' : Shared} {H' : Hp}, Inv (X.blk s3 H3 scope ce fp) (([] ++ pinsAt fp s7.heap) ++ pinsAt fp1 s14.heap) σ15 H' s' → Nx1 H' → ∃ m, m < k ∧ ∃ j H', Inv (X.blk s3 H3 scope ce fp) ([] ++ pinsAt fp s7.heap) (wipe σ8 vs1) H' s' ∧ tn1 j s'.heap ∧ (∀ b ∈ fp1, H' b = none) ∧ W1 j m H' := fun {s' H'} I' nx => by
              obtain ⟨m', hm, w'⟩ := hNx1 H' nx
              have pin' : ∀ b ∈ fp1, ∀ o, s14.heap.get? b = some o → s'.heap.get? b = some o ∧ H' b = none := fun b hb o e =>
                let z := I'.pin (b, o) (List.mem_append_right _ (List.mem_append_right _ (mem_pinsAt hb e)))
                ⟨z.1, z.2.1⟩
              refine ⟨m', hm, j + 1, H', I'.unpinned.weak (by rw [← hw15, wipe_length]) (fun j v e => by rw [← hw15] at e; exact (wipe_some e).1), T1.keep _ _ _ st14 fun b hb o e => (pin' b hb o e).1, fun b hb => ?_, w'⟩
              obtain ⟨o, e, _⟩ := T1.obj _ _ st14 b hb
              exact (pin' b hb o e).2
            cases b1 with
            | false =>
              simp only [Bool.false_eq_true, if_false] at q16 ⊢
              exact fin1 I16 q16
            | true =>
              simp only [if_true] at q16 ⊢
              refine thnF (pe _ s16 σ15 H16 _ I16 q16) fun z s17 ⟨yv, H17, I17, r17, acc, hD17, hz17, nx⟩ => ?_
              exact app_ok (X := X.blk s3 H3 scope ce fp) I17 hD17 hz17 r17 fun s18 I18 => fin1 I18 nx
        exact compStart1_ok loop1 (T1.self X.A 0 _ _ _ st11 loop1)
  exact codeAny_compStart_list loop (T.self X.A 0 _ _ _ st4 loop)
theorem pe_lc2 {elt tg iter tg1 iter1 : Expr} {ifs ifs1 : List Expr} {scope : Scope} {own : List (Str × Nat)} {vs1 : List Nat} {pos : Pos} {wi wi1 : TI} {g g1 : TG} {tt tt1 : TT} {te : TE} (hc : X.calm = true) (hN : X.N.Nodup) (hi : PI X tg iter wi) (ok : BlkOk X.N X.env.scope scope own) (hv : ∀ i ∈ vs1, i ∈ own.map (·.2))
    (hg : ∀ (s : Shared) (H : Hp) (C : Addr) (cl : List (Str × Addr)) (fp : List Addr), PG (X.blk s H scope (compEnvC scope cl C X.env) fp) tg g) (ht : ∀ (s : Shared) (H : Hp) (C : Addr) (cl : List (Str × Addr)) (fp : List Addr), PTs (X.blk s H scope (compEnvC scope cl C X.env) fp) ifs tt)
    (hi1 : ∀ (s : Shared) (H : Hp) (C : Addr) (cl : List (Str × Addr)) (fp : List Addr), PI (X.blk s H scope (compEnvC scope cl C X.env) fp) tg1 iter1 wi1)
    (hg1 : ∀ (s : Shared) (H : Hp) (C : Addr) (cl : List (Str × Addr)) (fp : List Addr), PG (X.blk s H scope (compEnvC scope cl C X.env) fp) tg1 g1) (ht1 : ∀ (s : Shared) (H : Hp) (C : Addr) (cl : List (Str × Addr)) (fp : List Addr), PTs (X.blk s H scope (compEnvC scope cl C X.env) fp) ifs1 tt1)
    (he : ∀ (s : Shared) (H : Hp) (C : Addr) (cl : List (Str × Addr)) (fp : List Addr), PE (X.blk s H scope (compEnvC scope cl C X.env) fp) elt te) (hs : ∀ x, foldedSetIterable iter X.env x = pure x := by intro _; rfl) (hs1 : ∀ env x, foldedSetIterable iter1 env x = pure x := by intro _ _; rfl) :
    PE X (.ListComp elt [⟨tg, iter, ifs, 0⟩, ⟨tg1, iter1, ifs1, 0⟩] scope pos) (tLc2 wi g tt wi1 g1 tt1 te (own.map (·.2)) vs1) := by
  intro pins s σ H Q I h
  rw [eval_ListComp]
  refine lc2_core hc hN I hi ok hv hg ht he hs hi1 hg1 ht1 hs1 h fun D C s' m H' I' q hn f => ⟨m, hn, fun h'' sb => ?_⟩
  obtain ⟨f0, f1, f2, f3, f4, f5⟩ := f
  exact ⟨.ref D, H', I'.turned (t' := s'.toks) (fun b o hb e => (sb.2 b hb).trans e) f0 f1 f3 f4 f5, rfl, q⟩
theorem ps_setLc2 {i : Nat} {y : Str} {py : Pos} {elt tg iter tg1 iter1 : Expr} {ifs ifs1 : List Expr} {scope : Scope} {own : List (Str × Nat)} {vs1 : List Nat} {pos spos : Pos} {wi wi1 : TI} {g g1 : TG} {tt tt1 : TT} {te : TE} (hc : X.calm = true) (hN : X.N.Nodup) (hy : X.N[i]? = some y) (hyl : X.env.scope.names.lookup y = some .local)
    (hsw : swapsWith (.ListComp elt [⟨tg, iter, ifs, 0⟩, ⟨tg1, iter1, ifs1, 0⟩] scope pos) (some (.Name y py)) spos.line X.env = pure true) (hi : PI X tg iter wi) (ok : BlkOk X.N X.env.scope scope own) (hv : ∀ i ∈ vs1, i ∈ own.map (·.2))
    (hg : ∀ (s : Shared) (H : Hp) (C : Addr) (cl : List (Str × Addr)) (fp : List Addr), PG (X.blk s H scope (compEnvC scope cl C X.env) fp) tg g) (ht : ∀ (s : Shared) (H : Hp) (C : Addr) (cl : List (Str × Addr)) (fp : List Addr), PTs (X.blk s H scope (compEnvC scope cl C X.env) fp) ifs tt)
    (hi1 : ∀ (s : Shared) (H : Hp) (C : Addr) (cl : List (Str × Addr)) (fp : List Addr), PI (X.blk s H scope (compEnvC scope cl C X.env) fp) tg1 iter1 wi1)
    (hg1 : ∀ (s : Shared) (H : Hp) (C : Addr) (cl : List (Str × Addr)) (fp : List Addr), PG (X.blk s H scope (compEnvC scope cl C X.env) fp) tg1 g1) (ht1 : ∀ (s : Shared) (H : Hp) (C : Addr) (cl : List (Str × Addr)) (fp : List Addr), PTs (X.blk s H scope (compEnvC scope cl C X.env) fp) ifs1 tt1)
    (he : ∀ (s : Shared) (H : Hp) (C : Addr) (cl : List (Str × Addr)) (fp : List Addr), PE (X.blk s H scope (compEnvC scope cl C X.env) fp) elt te) (hs : ∀ x, foldedSetIterable iter X.env x = pure x := by intro _; rfl) (hs1 : ∀ env x, foldedSetIterable iter1 env x = pure x := by intro _ _; rfl) :
    PS X (.Assign [.Name y py] (.ListComp elt [⟨tg, iter, ifs, 0⟩, ⟨tg1, iter1, ifs1, 0⟩] scope pos) spos) (tAsg (tLc2 wi g tt wi1 g1 tt1 te (own.map (·.2)) vs1) (gName i)) := by
  intro pins s σ H D I h
  rw [exec_Assign_Name_used _ _ _ _ hsw]
  refine wpAny_bind (wpAny_standAt (wpAny_bind ?_))
  show wpAny _ X.A (do let _ ← comprehension (.ListComp elt [⟨tg, iter, ifs, 0⟩, ⟨tg1, iter1, ifs1, 0⟩] scope pos) scope X.env (firstIterPos [⟨tg, iter, ifs, 0⟩, ⟨tg1, iter1, ifs1, 0⟩] pos) (newList []) false (eval iter X.env) (some (assign (.Name y py) X.env))) _ _ s
  have h : tLc2 wi g tt wi1 g1 tt1 te (own.map (·.2)) vs1 σ H (fun x H1 => gName i x σ H1 D.nx) := h
  refine wpAny_bind (thn (lc2_core (Qf := fun _ s' => SP X pins D .next s') hc hN I hi ok hv hg ht he hs hi1 hg1 ht1 hs1 h fun L C s' m H' I' q hn f => ?_) fun _ s' hq => wpAny_pure (wpAny_pure hq))
  show wpAny _ _ (assign (.Name y py) X.env (.ref L)) _ _ _
  refine wpAny_assign_Name (store_ok2 (v := V.ref L) I' hN hy (.inl hyl) rfl (fun s2 I2 ⟨a, sb, ha⟩ => ?_) (.inr hyl))
  obtain ⟨f0, f1, f2, f3, f4, f5⟩ := f
  have haC : C ≠ a := by
    rcases ha with z | z
    · rw [z]; exact f1
    · exact fun e => f4 y a z e.symm
  refine ⟨m, hn.sameBut sb haC, fun h3 sb3 => ?_⟩
  exact ⟨_, H', I2.turned (t' := s2.toks) (fun b o hb e => (sb3.2 b hb).trans e) f0 f1 f3 f4 f5, q⟩
end
end L2
namespace L2
open PySem PySem.Spec PyProof.Rows
section
variable {κ : Type} [DecidableEq κ]
def valV (kvs : List (κ × V)) (k : κ) : Option V := (kvs.find? fun kv => decide (kv.1 = k)).map (·.2)
def putK (kvs : List (κ × V)) (k : κ) (v : V) : List (κ × V) :=
  if (kvs.any fun kv => decide (kv.1 = k)) = true then kvs.map (fun kv => if kv.1 = k then (kv.1, v) else kv) else kvs ++ [(k, v)]
def dropK (kvs : List (κ × V)) (k : κ) : List (κ × V) := kvs.filter fun kv => decide (kv.1 ≠ k)
theorem valV_pos {p : κ × V} {r : List (κ × V)} {k : κ} (e : p.1 = k) : valV (p :: r) k = some p.2 := by simp [valV, List.find?_cons, e]
theorem valV_neg {p : κ × V} {r : List (κ × V)} {k : κ} (e : ¬ p.1 = k) : valV (p :: r) k = valV r k := by simp [valV, List.find?_cons, e]
theorem valV_any (k : κ) : ∀ kvs : List (κ × V), (kvs.any fun kv => decide (kv.1 = k)) = (valV kvs k).isSome
  | [] => rfl
  | p :: r => by
    rw [List.any_cons]
    by_cases e : p.1 = k
    · simp only [valV_pos e, decide_eq_true e, Bool.true_or, Option.isSome_some]
    · rw [valV_neg e, decide_eq_false e, Bool.false_or]; exact valV_any k r
theorem RelO.isSome_eq {o : Option V} {u : Option Value} (r : RelO o u) : o.isSome = u.isSome := by
  cases o with
  | none => cases u with
    | none => rfl
    | some _ => exact (show False from r).elim
  | some _ => cases u with
    | none => exact (show False from r).elim
    | some _ => rfl
theorem RelO.getD {o : Option V} {u : Option Value} {d : V} {d' : Value} (r : RelO o u) (rd : RelV d d') : RelV (o.getD d) (u.getD d') := by
  cases o with
  | none => cases u with
    | none => exact rd
    | some _ => exact (show False from r).elim
  | some _ => cases u with
    | none => exact (show False from r).elim
    | some _ => exact r
theorem KV.val {kvs : List (κ × V)} {vs : List (κ × Value)} (r : KV kvs vs) (k : κ) : RelO (valV kvs k) (valueAt vs k) := by
  unfold KV at r
  induction r with
  | nil => exact True.intro
  | @cons p q ps qs h t ih =>
    obtain ⟨h1, h2⟩ := h
    by_cases e : p.1 = k
    · have e' : q.1 = k := h1.symm.trans e
      have b : valueAt (q :: qs) k = some q.2 := by simp [valueAt, List.find?_cons, e']
      rw [valV_pos e, b]; exact h2
    · have e' : ¬ q.1 = k := fun z => e (h1.trans z)
      have b : valueAt (q :: qs) k = valueAt qs k := by simp [valueAt, List.find?_cons, e']
      rw [valV_neg e, b]; exact ih
theorem KV.any {kvs : List (κ × V)} {vs : List (κ × Value)} (r : KV kvs vs) (k : κ) : (kvs.any fun kv => decide (kv.1 = k)) = vs.any fun kv => decide (kv.1 = k) := by
  unfold KV at r
  induction r with
  | nil => rfl
  | cons h t ih => rw [List.any_cons, List.any_cons, ih, h.1]
theorem KV.repl {kvs : List (κ × V)} {vs : List (κ × Value)} (r : KV kvs vs) (k : κ) {y : V} {u : Value} (ry : RelV y u) :
    KV (kvs.map fun kv => if kv.1 = k then (kv.1, y) else kv) (vs.map fun kv => if kv.1 = k then (kv.1, u) else kv) := by
  unfold KV at r ⊢
  induction r with
  | nil => exact .nil
  | @cons p q ps qs h t ih =>
    rw [List.map_cons, List.map_cons]
    refine .cons ?_ ih
    obtain ⟨h1, h2⟩ := h
    by_cases e : p.1 = k
    · rw [if_pos e, if_pos (h1.symm.trans e)]; exact ⟨h1, ry⟩
    · rw [if_neg e, if_neg (fun z => e (h1.trans z))]; exact ⟨h1, h2⟩
theorem KV.put {kvs : List (κ × V)} {vs : List (κ × Value)} (r : KV kvs vs) (k : κ) {y : V} {u : Value} (ry : RelV y u) : KV (putK kvs k y) (stored vs k u) := by
  unfold putK stored
  rw [r.any k]
  by_cases e : (vs.any fun kv => decide (kv.1 = k)) = true
  · rw [if_pos e, if_pos e]; exact r.repl k ry
  · rw [if_neg e, if_neg e]; exact Paired.snoc r ⟨rfl, ry⟩
theorem KV.drop {kvs : List (κ × V)} {vs : List (κ × Value)} (r : KV kvs vs) (k : κ) : KV (dropK kvs k) (without vs k) := by
  unfold KV at r ⊢
  unfold dropK without
  induction r with
  | nil => exact .nil
  | @cons p q ps qs h t ih =>
    obtain ⟨h1, h2⟩ := h
    rw [List.filter_cons, List.filter_cons]
    by_cases e : p.1 = k
    · have a : ¬ decide (p.1 ≠ k) = true := by simp [e]
      have b : ¬ decide (q.1 ≠ k) = true := by simp [h1.symm.trans e]
      rw [if_neg a, if_neg b]; exact ih
    · have e' : ¬ q.1 = k := fun z => e (h1.trans z)
      have a : decide (p.1 ≠ k) = true := by simp [e]
      have b : decide (q.1 ≠ k) = true := by simp [e']
      rw [if_pos a, if_pos b]; exact .cons ⟨h1, h2⟩ ih
theorem KV.keys {kvs : List (κ × V)} {vs : List (κ × Value)} (r : KV kvs vs) : kvs.map (·.1) = vs.map (·.1) := by
  unfold KV at r
  induction r with
  | nil => rfl
  | cons h t ih => rw [List.map_cons, List.map_cons, ih, h.1]
theorem KV.length {kvs : List (κ × V)} {vs : List (κ × Value)} (r : KV kvs vs) : kvs.length = vs.length := Paired.length r
end
abbrev KT (H : Hp) : List (List Key × V) → List (List Key × Addr × Value) → Prop := Paired fun p q => p.1 = q.1 ∧ H q.2.1 = some (.tup (p.1.map kV)) ∧ RelV p.2 q.2.2
theorem KT.val {H : Hp} {kvs : List (List Key × V)} {xs : List (List Key × Addr × Value)} (r : KT H kvs xs) (k : List Key) : RelO (valV kvs k) ((atKey xs k).map (·.2)) := by
  induction r with
  | nil => exact True.intro
  | @cons p q ps qs h t ih =>
    obtain ⟨h1, _, h2⟩ := h
    by_cases e : p.1 = k
    · have e' : q.1 = k := h1.symm.trans e
      have b : atKey (q :: qs) k = some q.2 := by simp [atKey, List.find?_cons, e']
      rw [valV_pos e, b]; exact h2
    · have e' : ¬ q.1 = k := fun z => e (h1.trans z)
      have b : atKey (q :: qs) k = atKey qs k := by simp [atKey, List.find?_cons, e']
      rw [valV_neg e, b]; exact ih
theorem KT.repl {H : Hp} {kvs : List (List Key × V)} {xs : List (List Key × Addr × Value)} (r : KT H kvs xs) (k : List Key) {y : V} {u : Value} (ry : RelV y u) :
    KT H (kvs.map fun kv => if kv.1 = k then (kv.1, y) else kv) (xs.map (putAt k u)) := by
  induction r with
  | nil => exact .nil
  | @cons p q ps qs h t ih =>
    rw [List.map_cons, List.map_cons]
    refine .cons ?_ ih
    obtain ⟨h1, h2, h3⟩ := h
    unfold putAt
    by_cases e : p.1 = k
    · rw [if_pos e, if_pos (h1.symm.trans e)]; exact ⟨h1, h2, ry⟩
    · rw [if_neg e, if_neg (fun z => e (h1.trans z))]; exact ⟨h1, h2, h3⟩
theorem KT.put {H : Hp} {kvs : List (List Key × V)} {xs : List (List Key × Addr × Value)} (r : KT H kvs xs) (k : List Key) {b : Addr} {y : V} {u : Value} (hb : H b = some (.tup (k.map kV))) (ry : RelV y u) :
    KT H (putK kvs k y) (storedH xs k b u) := by
  have e : (kvs.any fun kv => decide (kv.1 = k)) = (atKey xs k).isSome := by
    rw [valV_any, (r.val k).isSome_eq, Option.isSome_map]
  unfold putK storedH
  rw [e]
  by_cases q : (atKey xs k).isSome = true
  · rw [if_pos q, if_pos q]; exact r.repl k ry
  · rw [if_neg q, if_neg q]; exact Paired.snoc r ⟨rfl, hb, ry⟩
theorem KT.keeps {H H' : Hp} {kvs : List (List Key × V)} {xs : List (List Key × Addr × Value)} (r : KT H kvs xs) (ht : ∀ b ys, H b = some (.tup ys) → H' b = some (.tup ys)) : KT H' kvs xs :=
  Paired.mapP r fun _ _ z => ⟨z.1, ht _ _ z.2.1, z.2.2⟩
section
variable {P : Program} {w : World} {H : Hp} {h : Heap} {a : Addr}
end
def DGet (H : Hp) (a : Addr) (y : V) (r : Option V) : Prop :=
  (∃ kvs k, Rd H a (.dK kvs) ∧ y = kV k ∧ r = valV kvs k) ∨ ∃ kvs k b, Rd H a (.dT kvs) ∧ y = .ref b ∧ H b = some (.tup (k.map kV)) ∧ r = valV kvs k
def DPut (H : Hp) (a : Addr) (y v : V) (H' : Hp) : Prop :=
  (∃ kvs k, H a = some (.dK kvs) ∧ y = kV k ∧ kvs.length < sizeLine ∧ H' = upd H a (.dK (putK kvs k v))) ∨
  ∃ kvs k b, H a = some (.dT kvs) ∧ y = .ref b ∧ H b = some (.tup (k.map kV)) ∧ kvs.length < sizeLine ∧ H' = upd H a (.dT (putK kvs k v))
theorem DGet.k {H : Hp} {a : Addr} {kvs : List (Key × V)} {k : Key} (e : H a = some (.dK kvs)) : DGet H a (kV k) (valV kvs k) := .inl ⟨kvs, k, .inl e, rfl, rfl⟩
theorem DGet.t {H : Hp} {a b : Addr} {kvs : List (List Key × V)} {k : List Key} (e : H a = some (.dT kvs)) (eb : H b = some (.tup (k.map kV))) : DGet H a (.ref b) (valV kvs k) := .inr ⟨kvs, k, b, .inl e, rfl, eb, rfl⟩
theorem DPut.k {H : Hp} {a : Addr} {kvs : List (Key × V)} {k : Key} {v : V} (e : H a = some (.dK kvs)) (hl : kvs.length < sizeLine) : DPut H a (kV k) v (upd H a (.dK (putK kvs k v))) := .inl ⟨kvs, k, e, rfl, hl, rfl⟩
theorem DPut.t {H : Hp} {a b : Addr} {kvs : List (List Key × V)} {k : List Key} {v : V} (e : H a = some (.dT kvs)) (eb : H b = some (.tup (k.map kV))) (hl : kvs.length < sizeLine) :
    DPut H a (.ref b) v (upd H a (.dT (putK kvs k v))) := .inr ⟨kvs, k, b, e, rfl, eb, hl, rfl⟩
section
variable {X : Cx} {pins : List (Addr × Obj)} {σ : St} {H : Hp} {s : Shared} {a : Addr} {y v : V} {u r : Value} {o : Option V} {A : Around} {E : Value → Shared → Prop}
end
section
variable {X : Cx} {pins : List (Addr × Obj)} {σ : St} {H : Hp} {s : Shared} {a : Addr} {kvs : List (Key × V)} {k : Key} {u : Value} {A : Around} {E : Value → Shared → Prop}
end
def NoSl (i : Expr) : Prop := ∀ ov iv, subscripted i false ov iv = operate [ov, iv] (getItem ov iv)
def tDGet (td ty : TE) : TE := fun σ H Q => td σ H fun x H1 => ty σ H1 fun y H2 => ∃ a v, x = .ref a ∧ DGet H2 a y (some v) ∧ Q v H2
def tDIn (ty td : TE) : TE := fun σ H Q => ty σ H fun y H1 => td σ H1 fun x H2 => ∃ a o, x = .ref a ∧ DGet H2 a y o ∧ Q (.bl o.isSome) H2
def tDNotIn (ty td : TE) : TE := fun σ H Q => ty σ H fun y H1 => td σ H1 fun x H2 => ∃ a o, x = .ref a ∧ DGet H2 a y o ∧ Q (.bl (!o.isSome)) H2
def sDPut (td ty tv : TE) : TS := fun D σ H => tv σ H fun v H1 => td σ H1 fun x H2 => ty σ H2 fun y H3 => ∃ a H4, x = .ref a ∧ DPut H3 a y v H4 ∧ D.nx σ H4
def sDAug (td ty tv : TE) (rd : V → V → Hp → VK → Prop) : TS := fun D σ H => td σ H fun x H1 => ty σ H1 fun y H2 => ∃ a v, x = .ref a ∧ DGet H2 a y (some v) ∧
  tv σ H2 fun y2 H3 => rd v y2 H3 fun z H4 => ∃ H5, DPut H4 a y z H5 ∧ D.nx σ H5
def sDDel (td ty : TE) : TS := fun D σ H => td σ H fun x H1 => ty σ H1 fun y H2 => ∃ a kvs k, x = .ref a ∧ H2 a = some (.dK kvs) ∧ y = kV k ∧ (valV kvs k).isSome = true ∧ D.nx σ (upd H2 a (.dK (dropK kvs k)))
section
variable {X : Cx} {o i e value : Expr} {pos pos' tpos : Pos} {td ty tv : TE}
end
def tDNewK : TE := fun _ H Q => ∀ p, H p = none → Q (.ref p) (upd H p (.dK []))
def tDNewT : TE := fun _ H Q => ∀ p, H p = none → Q (.ref p) (upd H p (.dT []))
section
variable {X : Cx} {pos : Pos}
end
def tPairs : List (TE × TE) → St → Hp → (List (V × V) → Hp → Prop) → Prop
  | [], _, H, Q => Q [] H
  | (tk, tv) :: r, σ, H, Q => tk σ H fun x H1 => tv σ H1 fun y H2 => tPairs r σ H2 fun ps H3 => Q ((x, y) :: ps) H3
abbrev VV : List (V × V) → List (Value × Value) → Prop := Paired fun p q => RelV p.1 q.1 ∧ RelV p.2 q.2
def PPs (X : Cx) (pos : Pos) (keys : List (Option Expr)) (values : List Expr) (trs : List (TE × TE)) : Prop :=
  ∀ (pins : List (Addr × Obj)) (s : Shared) (σ : St) (H : Hp) (Q : List (V × V) → Hp → Prop), Inv X pins σ H s → tPairs trs σ H Q →
    wpAny (model X.prog X.w) X.A (evalPairs (pairTrees keys values X.env pos)) (fun vs s' => ∃ ps H', Inv X pins σ H' s' ∧ VV ps vs ∧ Q ps H') X.xe s
def mergeK (kvs more : List (Key × V)) : List (Key × V) := more.foldl (fun acc kv => putK acc kv.1 kv.2) kvs
def tDisp (trs : List (TE × TE)) : TE := fun σ H Q => ∀ p, H p = none → tPairs trs σ (upd H p (.dK [])) fun ps H2 => H2 p = some (.dK []) ∧ ∃ kvs : List (Key × V), ps = kvs.map (fun kv => (kV kv.1, kv.2)) ∧ kvs.length ≤ 15 ∧ Q (.ref p) (upd H2 p (.dK (mergeK [] kvs)))
structure M1 (X : Cx) (o : Expr) (m : Str) (apos : Pos) (e : Expr) (cpos : Pos) : Prop where
  base : attributeBase o m X.env (eval o X.env) = eval o X.env
  few : ((backTo cpos (starEach [e] X.env)).all (fun x => !x.1) && (backToKw cpos (keywordEach [] X.env)).all (fun x => x.1.isSome)
    && decide (([e] : List Expr).length + ([] : List Keyword).length + (if ([] : List Keyword).isEmpty then 0 else 1) < 30)) = true
  line : (apos.endLine == cpos.line) = true
  trees : backTo cpos (starEach [e] X.env) = [(false, eval e X.env)]
structure M2 (X : Cx) (o : Expr) (m : Str) (apos : Pos) (e f : Expr) (cpos : Pos) : Prop where
  base : attributeBase o m X.env (eval o X.env) = eval o X.env
  few : ((backTo cpos (starEach [e, f] X.env)).all (fun x => !x.1) && (backToKw cpos (keywordEach [] X.env)).all (fun x => x.1.isSome)
    && decide (([e, f] : List Expr).length + ([] : List Keyword).length + (if ([] : List Keyword).isEmpty then 0 else 1) < 30)) = true
  line : (apos.endLine == cpos.line) = true
  trees : backTo cpos (starEach [e, f] X.env) = [(false, eval e X.env), (false, eval f X.env)]
def IsD (H : Hp) (a : Addr) : Prop := (∃ kvs, Rd H a (.dK kvs)) ∨ ∃ kvs, Rd H a (.dT kvs)
section
variable {X : Cx} {pins : List (Addr × Obj)} {σ : St} {H : Hp} {s : Shared} {a : Addr} {y d : V} {u r : Value} {o : Option V} {A : Around} {E : Value → Shared → Prop}
end
def tDGet1 (td ty : TE) : TE := fun σ H Q => td σ H fun x H1 => ∃ a, x = .ref a ∧ IsD H1 a ∧ ty σ H1 fun y H2 => ∃ o, DGet H2 a y o ∧ Q (o.getD .non) H2
def tDGet2 (td ty tx : TE) : TE := fun σ H Q => td σ H fun x H1 => ∃ a, x = .ref a ∧ IsD H1 a ∧ ty σ H1 fun y H2 => tx σ H2 fun z H3 => ∃ o, DGet H3 a y o ∧ Q (o.getD z) H3
def tDPop1 (td ty : TE) : TE := fun σ H Q => td σ H fun x H1 => ∃ a, x = .ref a ∧ IsD H1 a ∧ ty σ H1 fun y H2 => ∃ kvs k v, H2 a = some (.dK kvs) ∧ y = kV k ∧ valV kvs k = some v ∧ Q v (upd H2 a (.dK (dropK kvs k)))
def tDPop2 (td ty tx : TE) : TE := fun σ H Q => td σ H fun x H1 => ∃ a, x = .ref a ∧ IsD H1 a ∧ ty σ H1 fun y H2 => tx σ H2 fun z H3 => ∃ kvs k, H3 a = some (.dK kvs) ∧ y = kV k ∧
  (∀ v, valV kvs k = some v → Q v (upd H3 a (.dK (dropK kvs k)))) ∧ (valV kvs k = none → Q z H3)
section
variable {X : Cx} {o e f : Expr} {apos cpos : Pos} {td ty tx : TE}
end
section
variable {X : Cx} {pins : List (Addr × Obj)} {σ : St} {H : Hp} {s : Shared} {a : Addr} {kvs : List (Key × V)} {A : Around} {E : Value → Shared → Prop}
end
section
variable {X : Cx} {pins : List (Addr × Obj)} {σ : St} {H : Hp} {s : Shared} {a : Addr} {y : V} {u : Value} {A : Around} {E : Value → Shared → Prop}
end
end L2
namespace L2
open PySem PySem.Spec PyProof.Rows
section
variable {prog : Program} {w : World} {A : Around} {E : Value → Shared → Prop}
end
section
variable {X : Cx}
end
end L2
namespace L2
open PySem PySem.Spec PyProof.Rows
section
variable {X : Cx} {pins : List (Addr × Obj)} {σ : St} {H : Hp} {s : Shared} {h' : Heap}
theorem Inv.turnedL {t' : Nat} {ch : List Addr} (I : Inv X pins σ H s) (k : ∀ b o, b ∉ ch → s.heap.get? b = some o → h'.get? b = some o) (hf : ∀ b ∈ ch, FpOk X pins H b) : Inv X pins σ H { s with heap := h', toks := t' } := by
  have nit : ∀ b u, H b = some u → b ∉ ch := fun b u e z => by
    have q := (hf b z).1
    rw [q] at e; cases e
  refine I.step (g' := s.gens) (d' := s.drawn) (ch := ch) (fun b hb => ⟨(hf b hb).2.2.2.1, (hf b hb).2.1, (hf b hb).2.2.2.2.1, (hf b hb).2.2.2.2.2⟩) (fun b o _ _ hc e _ => k b o hc e) (fun b o _ _ hc e _ => ⟨o.slots, k b o hc e⟩)
    (fun _ _ _ _ n => n) (fun b o hc e => ⟨o, k b o hc e⟩) (fun _ _ e => e) (fun _ _ _ e => e) (fun b ps e => ⟨#[], by rw [e]; simp⟩) (fun m hm => ?_) (fun b u e => ?_) I.bare
  · obtain ⟨o, es, ep, ho, r⟩ := hm
    exact ⟨o, es, ep, k _ o (fun z => (hf _ z).2.1 rfl) ho, r⟩
  · refine (I.hok b u e).stay (fun c v hc q => k c v ?_ q) (fun _ q => q) fun _ _ q => q
    rcases hc with z | z
    · rw [z]; exact nit b u e
    · exact nit c _ z
theorem Inv.turnedNew {t' : Nat} {ch : List Addr} {T : Addr} {ob : HO} (I : Inv X pins σ H s) (k : ∀ b o, b ∉ ch → s.heap.get? b = some o → h'.get? b = some o) (hf : ∀ b ∈ ch, FpOk X pins H b) (hT : s.heap.objs.size ≤ T)
    (new : ObjOk X.prog X.w (upd H T ob) h' T ob) : Inv X pins σ (upd H T ob) { s with heap := h', toks := t' } := by
  have hn : H T = none := I.hok.fresh hT
  have nit : ∀ b u, H b = some u → b ∉ ch := fun b u e z => by
    have q := (hf b z).1
    rw [q] at e; cases e
  refine I.step (g' := s.gens) (d' := s.drawn) (ch := ch) (fun b hb => ⟨(hf b hb).2.2.2.1, (hf b hb).2.1, (hf b hb).2.2.2.2.1, (hf b hb).2.2.2.2.2⟩) (fun b o _ _ hc e _ => k b o hc e) (fun b o _ _ hc e _ => ⟨o.slots, k b o hc e⟩)
    (fun b o _ e n => ?_) (fun b o hc e => ⟨o, k b o hc e⟩) (fun b xs e => ?_) (fun b o u e => ?_) (fun b ps e => ⟨#[], ?_⟩) (fun m hm => ?_) (fun b u e => ?_) I.bare
  · rw [upd_ne (Nat.ne_of_lt (Nat.lt_of_lt_of_le (Heap.lt_size e) hT))]; exact n
  · rw [upd_ne (ne_of_none e hn)]; exact e
  · rw [upd_ne (ne_of_none e hn)]; exact e
  · rw [upd_ne (ne_of_none e hn), e]; simp
  · obtain ⟨o, es, ep, ho, r⟩ := hm
    exact ⟨o, es, ep, k _ o (fun z => (hf _ z).2.1 rfl) ho, r⟩
  · by_cases hb : b = T
    · subst hb
      rw [upd_same] at e
      cases e
      exact new
    · rw [upd_ne hb] at e
      refine (I.hok b u e).stay (fun c v hc q => k c v ?_ q) (fun c q => by rw [upd_ne (ne_of_none q hn)]; exact q) fun c xs q => by rw [upd_ne (ne_of_none q hn)]; exact q
      rcases hc with z | z
      · rw [z]; exact nit b u e
      · exact nit c _ z
end
def tLock (t : TS) : TS := fun D σ H => ∃ d u, H d = some u ∧ Mut (some u) ∧ ∀ od, t ⟨fun σ' H' => H' d = some (.frz od u) ∧ D.nx σ' (upd H' d u), fun v H' => H' d = some (.frz od u) ∧ D.rt v (upd H' d u), fun σ' H' => H' d = some (.frz od u) ∧ D.bk σ' (upd H' d u), fun σ' H' => H' d = some (.frz od u) ∧ D.ct σ' (upd H' d u)⟩ σ (upd H d (.frz od u))
def tLockE (t : TE) : TE := fun σ H Q => ∃ d u, H d = some u ∧ Mut (some u) ∧ ∀ od, t σ (upd H d (.frz od u)) fun v H' => H' d = some (.frz od u) ∧ Q v (upd H' d u)
section
variable {X : Cx}
end
def Itc (lo c : Int) (n : Nat) : It := ⟨fun i _ => i < n, fun i H x H' => H' = H ∧ x = .int (lo + (i : Nat) * c), fun i _ => n ≤ i⟩
def RgC (i j c : Int) (n : Nat) : Prop := c ≠ 0 ∧ c.natAbs < 1073741824 ∧ Builtin.Range.small i j c = true ∧ Builtin.Range.rangeSize i j c = n
theorem RgC.neg {i j : Int} (ha : -(2 ^ 62) ≤ i) (ha' : i < 2 ^ 62) (hb : -(2 ^ 62) ≤ j) (hb' : j < 2 ^ 62) : RgC i j (-1) (i - j).toNat :=
  ⟨by decide, by decide, PySem.W.small_down ha ha' hb hb', PySem.W.rangeSize_downNat i j⟩
def iRng3 (ta : TA) : TI := fun σ H R => ta σ H fun vs H1 => ∃ (i j c : Int) (n : Nat), vs = [.int i, .int j, .int c] ∧ RgC i j c n ∧ R (Itc i c n) H1
section
variable {X : Cx} {tg : Expr}
end
def Itv (K : PySem.W.Frag) (a : Addr) (n : Nat) : It :=
  ⟨fun i H => i < n ∧ ∃ (xs : List V) (x : V), SqL K H a xs ∧ xs[n - 1 - i]? = some x, fun i H x H' => H' = H ∧ ∀ xs, SqL K H a xs → xs[n - 1 - i]? = some x, fun i _ => n ≤ i⟩
def iRev (K : PySem.W.Frag) (ta : TA) : TI := fun σ H R => ta σ H fun vs H1 => ∃ (a : Addr) (xs : List V), vs = [.ref a] ∧ SqL K H1 a xs ∧ R (Itv K a xs.length) H1
section
variable {X : Cx} {tg : Expr}
end
def Its (x : Str) : It := ⟨fun i _ => i < x.cps.size, fun i H v H' => H' = H ∧ ∃ c, x.cps[i]? = some c ∧ v = .str ⟨#[c]⟩, fun i _ => x.cps.size ≤ i⟩
def iStr (te : TE) : TI := fun σ H R => te σ H fun v H1 => ∃ x, v = .str x ∧ R (Its x) H1
section
variable {prog : Program} {w : World} {A : Around} {E : Value → Shared → Prop} {s : Shared}
end
section
variable {X : Cx} {pins : List (Addr × Obj)} {σ : St} {H : Hp} {s : Shared} {d : Addr} {o : Obj}
end
def Itk (d : Addr) (o : Obj) (kvs : List (Key × V)) : It :=
  ⟨fun i H => H d = some (.frz o (.dK kvs)) ∧ i < kvs.length, fun i H x H' => H' = H ∧ ∃ k v, kvs[i]? = some (k, v) ∧ x = kV k, fun i H => H d = some (.frz o (.dK kvs)) ∧ kvs.length ≤ i⟩
def Itkt (d : Addr) (o : Obj) (kvs : List (List Key × V)) : It :=
  ⟨fun i H => H d = some (.frz o (.dT kvs)) ∧ i < kvs.length, fun i H x H' => H' = H ∧ ∃ (k : List Key) (v : V) (q : Addr), kvs[i]? = some (k, v) ∧ x = .ref q ∧ H q = some (.tup (k.map kV)), fun i H => H d = some (.frz o (.dT kvs)) ∧ kvs.length ≤ i⟩
def Itd (d : Addr) (o : Obj) (kvs : List (Key × V)) : It :=
  ⟨fun i H => H d = some (.frz o (.dK kvs)) ∧ i < kvs.length, fun i H x H' => H' = H ∧ ∃ k, kvs[i]? = some (k, x), fun i H => H d = some (.frz o (.dK kvs)) ∧ kvs.length ≤ i⟩
def Iti (d : Addr) (o : Obj) (kvs : List (Key × V)) : It :=
  ⟨fun i H => H d = some (.frz o (.dK kvs)) ∧ i < kvs.length, fun i H x H' => ∃ T k v, kvs[i]? = some (k, v) ∧ x = .ref T ∧ H T = none ∧ H' = upd H T (.tup [kV k, v]), fun i H => H d = some (.frz o (.dK kvs)) ∧ kvs.length ≤ i⟩
section
variable {P : Program} {w : World} {K : PySem.W.Frag} {tg : Expr} {d : Addr} {o : Obj} {es : Array DictEntry} {ep : Nat}
end
def iKeys (td : TE) : TI := fun σ H R => td σ H fun x H1 => ∃ d o, x = .ref d ∧ ((∃ kvs, H1 d = some (.frz o (.dK kvs)) ∧ R (Itk d o kvs) H1) ∨ ∃ kvs, H1 d = some (.frz o (.dT kvs)) ∧ R (Itkt d o kvs) H1)
def iVals (td : TE) : TI := fun σ H R => td σ H fun x H1 => ∃ d o kvs, x = .ref d ∧ H1 d = some (.frz o (.dK kvs)) ∧ R (Itd d o kvs) H1
def iItems (td : TE) : TI := fun σ H R => td σ H fun x H1 => ∃ d o kvs, x = .ref d ∧ H1 d = some (.frz o (.dK kvs)) ∧ R (Iti d o kvs) H1
def iKeysM (td : TE) : TI := fun σ H R => td σ H fun x H1 => ∃ d o kvs, x = .ref d ∧ H1 d = some (.frz o (.dK kvs)) ∧ R (Itk d o kvs) H1
section
variable {X : Cx} {tg e : Expr} {td : TE} {apos cpos : Pos}
end
def Ite (K : PySem.W.Frag) (a : Addr) : It :=
  ⟨fun i H => ∃ (xs : List V) (x : V), SqL K H a xs ∧ xs[i]? = some x, fun i H v H' => ∃ T x, v = .ref T ∧ H T = none ∧ H' = upd H T (.tup [.int (i : Nat), x]) ∧ ∀ xs, SqL K H a xs → xs[i]? = some x, fun i H => ∃ xs : List V, SqL K H a xs ∧ xs.length ≤ i⟩
theorem turn_enum {P : Program} {w : World} {K : PySem.W.Frag} {elts : List Expr} {kk : Nat} {tpos : Pos} (a e it : Addr) :
    Turn P w K (.Tuple elts kk tpos) (Ite K a) [e, it] e (fun i h => (∃ old, IsEnum h e it ((i : Nat) : Int) old) ∧ h.IsListIter it a i ∧ e ≠ it) where
  mem := by simp
  obj := fun i h st b hb => by
    obtain ⟨⟨old, he⟩, ⟨o, ho, hc, hd⟩, _⟩ := st
    have e' : b = e ∨ b = it := by simpa using hb
    rcases e' with z | z
    · rw [z]; exact ⟨_, he, fun v q => nomatch q⟩
    · rw [z]; exact ⟨o, ho, fun v q => by rw [hd] at q; cases q⟩
  keep := fun i h h' st k => let ⟨⟨old, he⟩, hi, hne⟩ := st; ⟨⟨old, k e (by simp) _ he⟩, hi.at fun o q => k it (by simp) o q, hne⟩
  item := by
    intro X hP hw hK hc i pins s σ H E I hf st hg
    subst hP hw hK
    obtain ⟨⟨old, he⟩, hit, hne⟩ := st
    obtain ⟨xs, x, hq, hx⟩ := hg
    obtain ⟨its, rv, p, hz⟩ := I.list hq
    obtain ⟨u, hu, ru⟩ := rv.get hx
    have hel : e < s.heap.objs.size := Heap.lt_size he
    have hil : it < s.heap.objs.size := by obtain ⟨_, q, _⟩ := hit; exact Heap.lt_size q
    refine wpAny_pyNext_enum_item he hit p.isList (x := u) (by simpa using hu) hne fun h' ho hit' hT hsz hk => ?_
    refine ⟨_, rfl, wpAny_letOwnedTupleGo_enum (s := { s with heap := h', toks := s.toks + 1 }) ho fun h'' he' sb => ?_⟩
    have hT2 : h''.get? s.heap.objs.size = some { cls := .type "tuple", data := .seq #[.int i s.toks, u] } := (sb.2 _ (Nat.ne_of_gt hel)).trans hT
    have new : ObjOk X.prog X.w (upd H s.heap.objs.size (.tup [.int (i : Nat), x])) h'' s.heap.objs.size (.tup [.int (i : Nat), x]) :=
      ⟨by show 2 ≤ sizeLine; decide, [.int i s.toks, u], .cons ⟨_, rfl⟩ (.cons ru .nil), ⟨_, hT2, rfl, _, rfl⟩⟩
    have I1 : Inv X pins σ (upd H s.heap.objs.size (.tup [.int (i : Nat), x])) { s with heap := h'', toks := s.toks + 1 } :=
      I.turnedNew (ch := [e, it]) (fun b ob hb q => (sb.2 b (fun z => hb (by simp [z]))).trans (hk b ob (fun z => hb (by simp [z])) (fun z => hb (by simp [z])) q)) hf (Nat.le_refl _) new
    refine ⟨.ref s.heap.objs.size, _, I1, rfl, ⟨_, x, rfl, I.hok.fresh (Nat.le_refl _), rfl, fun ys hy => by rw [I.list_inj hy hq]; exact hx⟩, ⟨⟨u, ?_⟩, hit'.at fun o q => (sb.2 it (Ne.symm hne)).trans q, hne⟩, fun b hb => ?_⟩
    · have e1 : ((i + 1 : Nat) : Int) = (i : Int) + 1 := by omega
      rw [e1]; exact he'
    · have hb' : b < s.heap.objs.size := by
        have e' : b = e ∨ b = it := by simpa using hb
        rcases e' with z | z
        · rw [z]; exact hel
        · rw [z]; exact hil
      rw [upd_ne (Nat.ne_of_lt hb')]
      exact (hf b hb).1
  done := by
    intro X hP hw hK hc i pins s σ H E I hf st hg
    subst hP hw hK
    obtain ⟨⟨old, he⟩, hit, hne⟩ := st
    obtain ⟨xs, hq, hx⟩ := hg
    obtain ⟨its, rv, p, hz⟩ := I.list hq
    obtain ⟨f0, f1, f2, f3, f4, f5⟩ := hf it (by simp)
    have hl := rv.length
    exact wpAny_pyNext_enum_end (I.ok.hd hc) he hit p.isList (by simp; omega) fun h' eb => ⟨rfl, I.turned (t' := s.toks) (fun b o hb q => eb b o hb q) f0 f1 f3 f4 f5⟩
  self := fun A i s Q E st h => let ⟨⟨_, he⟩, _⟩ := st; wpAny_pyIter_enum he h
def iEnum (K : PySem.W.Frag) (ta : TA) : TI := fun σ H R => ta σ H fun vs H1 => ∃ a xs, vs = [.ref a] ∧ SqL K H1 a xs ∧ R (Ite K a) H1
theorem pi_enum {X : Cx} {e : Expr} {ta : TA} {p pos tpos : Pos} {elts : List Expr} {kk : Nat} (hg : Gl X "enumerate") (hm : X.mg "enumerate" = none) (ha : PA X [e] ta) (hs : starEach [e] X.env = [(false, eval e X.env)] := by rfl) :
    PI X (.Tuple elts kk tpos) (.Call (.Name "enumerate" p) [e] [] pos) (iEnum X.K ta) := by
  intro pins s σ H R I h
  refine Call_ (ld_blt I hg hm boot_enumerate (PyProof.Rows.callWith_type1 (thn (ha pos pins s σ H _ I h) fun us s1 ⟨vs, H1, I1, r1, q1⟩ => ?_) hs rfl))
  obtain ⟨a, xs, ex, hq, q⟩ := q1
  subst ex
  cases r1 with
  | cons r rr =>
    cases rr
    cases r
    obtain ⟨its, rv, p', hz⟩ := I1.list hq
    refine call_enumerate_list p'.isList fun h' he hit hsz hk => wpAny_pyIter_enum he ?_
    have I2 : Inv X pins σ H1 { s1 with heap := h' } := I1.kept (t' := s1.toks) hk
    refine ⟨s1.heap.objs.size + 1, [s1.heap.objs.size + 1, s1.heap.objs.size], _, _, H1, rfl, I2, turn_enum a (s1.heap.objs.size + 1) s1.heap.objs.size, ⟨⟨.none, he⟩, hit, Nat.succ_ne_self _⟩, fun b hb => ?_, q⟩
    have e' : b = s1.heap.objs.size + 1 ∨ b = s1.heap.objs.size := by simpa using hb
    have hle : s1.heap.objs.size ≤ b := by
      rcases e' with z | z
      · rw [z]; exact Nat.le_add_right _ _
      · rw [z]; exact Nat.le_refl _
    exact I1.fpOk hle (I1.hok.fresh hle)
theorem boot_zip5 : bootBuiltins "zip" = some (.type "zip") := by decide +kernel
def Itz (K : PySem.W.Frag) (a b : Addr) : It :=
  ⟨fun i H => ∃ (xs ys : List V) (x y : V), SqL K H a xs ∧ SqL K H b ys ∧ xs[i]? = some x ∧ ys[i]? = some y,
    fun i H v H' => ∃ T x y, v = .ref T ∧ H T = none ∧ H' = upd H T (.tup [x, y]) ∧ (∀ xs, SqL K H a xs → xs[i]? = some x) ∧ ∀ ys, SqL K H b ys → ys[i]? = some y,
    fun i H => ∃ xs ys : List V, SqL K H a xs ∧ SqL K H b ys ∧ (xs.length ≤ i ∨ ys.length ≤ i)⟩
def iZip (K : PySem.W.Frag) (ta : TA) : TI := fun σ H R => ta σ H fun vs H1 => ∃ a b xs ys, vs = [.ref a, .ref b] ∧ SqL K H1 a xs ∧ SqL K H1 b ys ∧ R (Itz K a b) H1
end L2
section 
namespace Bits
open PySem PyProof.Rows
end Bits
end 
section 
namespace TL
open PySem PySem.Builtin PySem.Builtin.Str PySem.StrLaws
abbrev tl (x : Str) : List Nat := x.cps.toList
def pre (S l : List Nat) : Bool := l.take S.length == S
def spl (S : List Nat) : Nat → List Nat → List Nat → List (List Nat)
  | _, acc, [] => [acc]
  | 0, acc, c :: r => if pre S (c :: r) = true then acc :: spl S (S.length - 1) [] r else spl S 0 (acc ++ [c]) r
  | k + 1, acc, _ :: r => spl S k acc r
def par (S : List Nat) : List Nat → List Nat → Option (List Nat × List Nat)
  | _, [] => none
  | acc, c :: r => if pre S (c :: r) = true then some (acc, (c :: r).drop S.length) else par S (acc ++ [c]) r
def joinL (S : List Nat) : List (List Nat) → List Nat
  | [] => []
  | [p] => p
  | p :: q :: r => p ++ (S ++ joinL S (q :: r))
def numL (n : Nat) : List Nat := (Nat.toDigits 10 n).map Char.toNat
def wstep (st : List (List Nat) × List Nat) (c : Nat) : List (List Nat) × List Nat :=
  if Unicode.isSpace c = true then (if st.2 = [] then st else (st.1 ++ [st.2], [])) else (st.1, st.2 ++ [c])
def wfin (st : List (List Nat) × List Nat) : List (List Nat) := if st.2 = [] then st.1 else st.1 ++ [st.2]
end TL
end 
namespace L2
open PySem PySem.Spec PyProof.Rows
def rNewStrs (ys : List Str) : Hp → VK → Prop := fun H Q => ∀ p, H p = none → Q (.ref p) (upd H p (.lst (ys.map V.str)))
section
variable {X : Cx} {pins : List (Addr × Obj)} {σ : St} {H : Hp} {s : Shared} {Q : VK}
end
section
variable {X : Cx}
end
section
variable {X : Cx} {o e : Expr} {to te : TE}
def tM0 (r : V → List V → Hp → VK → Prop) (to : TE) : TE := fun σ H Q => to σ H fun x H1 => (∃ a, x = .str a) ∧ r x [] H1 Q
def tM1 (r : V → List V → Hp → VK → Prop) (to te : TE) : TE := fun σ H Q => to σ H fun x H1 => (∃ a, x = .str a) ∧ te σ H1 fun y H2 => r x [y] H2 Q
end
end L2
namespace L2
open PySem PySem.Spec PyProof.Rows
section
variable {X : Cx}
end
def clipS (n d : Nat) : Option Int → Int
  | none => (d : Int)
  | some i => max 0 (min (if i < 0 then i + (n : Int) else i) (n : Int))
def cutS (z : Str) (lo hi : Option Int) : Str :=
  ⟨((z.cps.toList.drop (HT.sIx z.length 0 lo)).take (HT.sIx z.length z.length hi - HT.sIx z.length 0 lo)).toArray⟩
def rSlS : V → Option Int → Option Int → Hp → VK → Prop := fun x lo hi H Q => ∃ z, x = .str z ∧ z.length ≤ sizeLine ∧ Q (.str (cutS z lo hi)) H
end L2
namespace Att
open PySem PySem.W PySem.Calls PyProof.Rows
theorem ints_of_wellAll {P : Params} {h : Heap} : ∀ (ns : List Int) (vs : List Value), WellAll P h vs (ns.map WData.int) → IntsAre vs ns := by
  intro ns
  induction ns with
  | nil =>
    intro vs w
    rw [List.map_nil] at w
    cases w
    exact .nil
  | cons n ns ih =>
    intro vs w
    rw [List.map_cons] at w
    cases w with
    | cons a b =>
      cases a
      exact .cons _ _ (ih _ b)
theorem script_of {l : OpenLaw} {n : Nat} (hn : l.most = some n) {P : Params} {h : Heap} {args : List WData} {vals : List Value}
    (hpre : l.row.toRowW.claim.pre args = true) (hwl : WellAll P h vals args) :
    ∃ a vs ns, vals = [Value.ref a] ∧ args = [WData.list (ns.map WData.int)] ∧ h.get? a = some { cls := .type "list", data := .seq vs.toArray } ∧ IntsAre vs ns ∧ ns.length ≤ n := by
  have hsh : WShape.hasAll [] args [.list .int] = true := (pre_splitW hpre).1
  have hc : l.pre.holds [] { args := args } = true := (pre_splitW hpre).2
  obtain ⟨d, r, rfl, h1, h2⟩ := hasAllW_cons hsh
  obtain rfl := hasAllW_nil h2
  obtain ⟨xs, rfl, h3⟩ := hasW_list h1
  obtain ⟨ns, rfl⟩ := items_int h3
  have hlen : ns.length ≤ n := by
    unfold OpenLaw.pre at hc
    have h4 : (WTm.not (.lt (.lit (.int (n : Int))) (.len (.arg 0)))).holds [] { args := [.list (ns.map .int)] } = true := by
      have h4 := (holds_andW hc).1
      rw [hn] at h4
      exact h4
    have h5 := condW_of h4 (w_not (w_lt w_lit (w_len_list (w_arg rfl))))
    rw [List.length_map] at h5
    refine Nat.le_of_not_lt fun q => ?_
    have q' : (n : Int) < ((ns.length : Nat) : Int) := by omega
    first
      | (rw [decide_eq_true q'] at h5; exact absurd h5 (by decide))
      | (simp at h5; omega)
  cases hwl with
  | cons w1 w2 =>
    cases w2
    cases w1 with
    | list ho hall => exact ⟨_, _, ns, rfl, rfl, ho, ints_of_wellAll ns _ hall, hlen⟩
theorem post_true (l : OpenLaw) (args : List WData) : l.row.toRowW.claim.post args (.bool true) args = true :=
  postW_of (r := l.row.toRowW) (X := (true == true))
    (show WShape.has [] (.bool true) .bool = true by first | rfl | decide | simp [WShape.has, WShape.arms, WShape.armsAll])
    (show (WTm.eq .res (.lit (.bool true))).value [] { args := args, res := some (.bool true), after := args } = some (.bool (true == true)) from w_eq_bool (w_res rfl) w_lit) rfl
theorem attach_call {l : OpenLaw} {n : Nat} {q : Program} {loose : List Str} {XP : (Str → Option Value) → Heap → Prop} {YP : World → Heap → Prop} {d : DefRec}
    (hn : l.most = some n) (hdf : d.params.defaults = [])
    (call : ∀ (w : World) (s₀ s₁ : Shared) (mg mb : Str → Option Value) (fa : Addr) (o : Obj) (pm cd doc : Value) (a : Addr) (vs : List Value) (ns : List Int),
      Ground q loose [] XP w s₀ mg mb s₁.heap → YP w s₁.heap →
      s₁.heap.get? fa = some o → o.data = .func (docDef d.name d.params d.body d.scope pm cd doc) → s₁.heap.CodeRec cd d.name → mg d.name = some (.ref fa) →
      s₁.heap.get? a = some { cls := .type "list", data := .seq vs.toArray } → IntsAre vs ns → ns.length ≤ n → s₁.gens = #[] →
      codeAny (model l.prog w) callerA (.call (.ref fa) ⟨[.ref a], []⟩) (fun r s' => r = .ok (.ret (.bool true)) ∧ OldK s₁.heap s'.heap ∧ s'.os = s₁.os ∧ AllBare s'.gens) s₁) :
    WalkO q loose XP YP l.row.toRowW d [] (fun f vs => PySem.call f vs) := by
  intro w s₀ s₁ mg mb G Y fa o pm cd doc dV kV ho hd hcd hD hmg hg args vals as hpre hlay hrd hwl hlo
  obtain rfl : dV = .none := Dflts.none hD hdf
  obtain rfl : kV = .none := Dflts.noKw hD
  obtain ⟨a, vs, ns, rfl, rfl, hobj, hints, hlen⟩ := script_of hn hpre hwl
  refine enter_call (codeAny_mono (call w s₀ s₁ mg mb fa o pm cd doc a vs ns G Y ho (fd_plain hd) hcd hmg hobj hints hlen hg) fun r s' hq => ?_)
  obtain ⟨rfl, h2, h3, h4⟩ := hq
  exact ⟨.inl ⟨.bool true, .bool true, [], rfl, fun _ => rfl, .bool true, post_true l _, fun _ => ⟨List.Pairwise.nil, fun _ hm => (nomatch hm)⟩⟩, h2, h3, h4⟩
section
variable {prog : Program} {w : World} {A : Around} {E : Value → Shared → Prop} {s : Shared} {K : Frag}
def noObjs (h : Heap) : Heap := { h with objs := #[] }
def ledger (h : Heap) (L d : Addr) : List (Addr × Obj) := (List.range h.objs.size).filterMap fun a => if a = L ∨ a = d then none else (h.get? a).map fun o => (a, o)
end
end Att
namespace L2
open PySem PySem.Spec PyProof.Rows
theorem vals_ints : ∀ {vs : List Value} {ns : List Int}, IntsAre vs ns → Vals (ns.map V.int) vs
  | _, _, .nil => .nil
  | _, _, .cons n t h => .cons ⟨t, rfl⟩ (vals_ints h)
def Only (H : Hp) : Prop := ∀ b, H b = none ∨ ∃ o xs, H b = some (.frz o (.lst xs))
end L2
namespace L2
open PySem PySem.Spec PyProof.Rows
abbrev KOf {K : PySem.W.Frag} {h : Heap} (_ : K.In h) : PySem.W.Frag := K
end L2
namespace L2
open PySem PySem.Spec PyProof.Rows
def inClass (s : Stmt) (j : Nat) : Stmt := match s with
  | .ClassDef _ _ _ body _ _ _ _ _ _ _ => body.getD j (.Pass ⟨0, 0, 0, 0⟩)
  | _ => .Pass ⟨0, 0, 0, 0⟩
def defArgs (s : Stmt) : Arguments := match s with
  | .FunctionDef _ a _ _ _ _ _ _ _ _ => a
  | _ => { posonlyargs := [], args := [], vararg := none, kwonlyargs := [], kw_defaults := [], kwarg := none, defaults := [] }
def defBody (s : Stmt) : List Stmt := match s with
  | .FunctionDef _ _ b _ _ _ _ _ _ _ => b
  | _ => []
def defScope (s : Stmt) : Scope := match s with
  | .FunctionDef _ _ _ _ _ _ sc _ _ _ => sc
  | _ => { kind := .function, names := [], isGenerator := false, isCoroutine := false }
abbrev CX0 : CXT := fun _ _ _ _ _ _ => False
abbrev E0 : XK := fun _ _ _ => False
theorem pass0 {X : Cx} : Passes CX0 X E0 := fun _ _ _ _ _ _ _ h => h.elim
structure Fun (K : PySem.W.Frag) (x qual : Str) (st : Stmt) (f : Addr) (fd : FuncData) : Prop where
  ex : ∃ (oc : Value) (od : Option Addr) (kV doc pm : Value) (an : Option Addr) (cdv ct : Value) (osl : Array (Option Value)),
    fd = PySem.W.fnOf x qual (defArgs st) (defBody st) (defScope st) .none kV doc pm an cdv ct ∧ K.lookup f = some ⟨oc, od, .func fd, osl⟩ ∧ PySem.W.codeIn K cdv qual = true
  kp : PySem.W.keepIn K (.ref f) = true
section
variable {P : Program} {w : World} {K : PySem.W.Frag} {mg : Str → Option Value} {base : Heap}
theorem Fun.ok {x qual : Str} {st : Stmt} {f : Addr} {fd : FuncData} {N ps : List Str} {k : Nat} {sp : Sp} (F : Fun K x qual st f fd) (S : FnScope N ps (defScope st)) (len : ∀ vs H Q E, sp vs H Q E → vs.length = ps.length)
    (hbody : ∀ (cdv : Value) (A : Around) (outer : List Env) (s : Shared) (H : Hp) (vs : List V) (Q : VK) (E : XK), Room k (A.deeper (envOfC qual (defScope st) s.heap.objs.size f cdv)) → sp vs H Q E →
      ∃ t, PSs (cxOf CX0 P w K mg base N qual (defScope st) f cdv A outer s H E).nox (defBody st) t ∧ t { nx := fun _ H' => Q .non H', rt := Q } (start N vs) H) : FnOk P w K mg base CX0 (k + 1) f fd ps sp := by
  obtain ⟨oc, od, kV, doc, pm, an, cdv, ct, osl, rfl, lk, hcd⟩ := F.ex
  refine fn_of lk hcd S len fun A outer s H vs Q E hr hsp => ?_
  obtain ⟨t, h, q⟩ := hbody cdv A outer s H vs Q E hr hsp
  exact ⟨t, h.nox, q⟩
theorem Fun.binds {x qual : Str} {st : Stmt} {f : Addr} {fd : FuncData} {ps : List Str} (F : Fun K x qual st f fd)
    (h : ∀ (kV doc pm : Value) (an : Option Addr) (cdv ct : Value) (us : List Value), us.length = ps.length → bindArgs (PySem.W.fnOf x qual (defArgs st) (defBody st) (defScope st) .none kV doc pm an cdv ct) ⟨us, []⟩ = pure (ps.zip us)) : Binds K fd ps [] := by
  obtain ⟨oc, od, kV, doc, pm, an, cdv, ct, osl, rfl, lk, hcd⟩ := F.ex
  exact .all (h kV doc pm an cdv ct)
theorem fun_mk {x qual : Str} {st : Stmt} {f : Addr} {oc : Value} {od an : Option Addr} {osl : Array (Option Value)} {kV doc pm cdv ct : Value} (l : K.lookup f = some ⟨oc, od, .func (PySem.W.fnOf x qual (defArgs st) (defBody st) (defScope st) .none kV doc pm an cdv ct), osl⟩)
    (c : PySem.W.codeIn K cdv qual = true) (k : PySem.W.keepIn K (.ref f) = true) : Fun K x qual st f (PySem.W.fnOf x qual (defArgs st) (defBody st) (defScope st) .none kV doc pm an cdv ct) := ⟨⟨oc, od, kV, doc, pm, an, cdv, ct, osl, rfl, l, c⟩, k⟩
end
section
variable {X : Cx}
end
def Same (H H' : Hp) : Prop := ∀ b o, H b = some o → H' b = some o
theorem Same.refl (H : Hp) : Same H H := fun _ _ h => h
theorem Same.trans {H H1 H2 : Hp} (a : Same H H1) (b : Same H1 H2) : Same H H2 := fun c o h => b c o (a c o h)
theorem Same.free {H H' : Hp} (e : Same H H') {l : Addr} (h : H' l = Option.none) : H l = Option.none := by
  cases q : H l with
  | none => rfl
  | some o =>
    rw [e l o q] at h
    cases h
theorem Same.seq {K : PySem.W.Frag} {H H' : Hp} {a : Addr} {xs : List V} (e : Same H H') (h : SqL K H a xs) : SqL K H' a xs := by
  rcases h with (h | ⟨o, h⟩) | h
  · exact .inl (.inl (e _ _ h))
  · exact .inl (.inr ⟨o, e _ _ h⟩)
  · exact .inr h
section
variable {κ : Type} [DecidableEq κ]
end
end L2
namespace Gx
open PySem PySem.Spec L2
structure CodeAt (K : PySem.W.Frag) (c P : Addr) : Prop where
  ex : ∃ (o : Obj) (vs : Array Value) (file : Str) (tf : Nat) (flags : Int) (tg : Nat) (inF : Bool) (text : Int) (tt : Nat), K.lookup c = some o ∧ o.cls = .type "code" ∧ o.data = .fields vs ∧ vs[11]? = some (.ref P) ∧ vs.getD 11 .none = .ref P ∧ vs.getD 18 .none = .str file tf ∧
    vs.getD 7 .none = .int flags tg ∧ vs.getD 9 .none = .bool inF ∧ vs.getD 10 .none = .int text tt
  ne : c ≠ P
def Tabs (K : PySem.W.Frag) (H : Hp) : Prop := ∀ c P, CodeAt K c P → ∃ ps, H P = some (.tbl ps) ∧ TriplesOk ps.toList
theorem Tabs.new {K : PySem.W.Frag} {H : Hp} {p : Addr} {o : HO} (h : Tabs K H) (hp : H p = none) : Tabs K (upd H p o) := fun c P x => by
  obtain ⟨ps, e, t⟩ := h c P x
  exact ⟨ps, by rw [upd_ne (ne_of_none e hp)]; exact e, t⟩
theorem Tabs.lst {K : PySem.W.Frag} {H : Hp} {p : Addr} {o : HO} {us : List V} (h : Tabs K H) (hp : H p = some (.lst us)) : Tabs K (upd H p o) := fun c P x => by
  obtain ⟨ps, e, t⟩ := h c P x
  exact ⟨ps, by rw [upd_ne (ne_of e hp (by intro z; cases z))]; exact e, t⟩
theorem Tabs.tbl {K : PySem.W.Frag} {H : Hp} {p : Addr} {ps : Array Value} (h : Tabs K H) (ht : TriplesOk ps.toList) : Tabs K (upd H p (.tbl ps)) := fun c P x => by
  by_cases e : P = p
  · exact ⟨ps, by rw [e, upd_same], ht⟩
  · obtain ⟨qs, e1, t⟩ := h c P x
    exact ⟨qs, by rw [upd_ne e]; exact e1, t⟩
end Gx
namespace Ev
open PySem PySem.Spec L2
inductive D where
  | non | bl (b : Bool) | int (i : Int) | str (x : Str) | tup (xs : List D) | lst (h : Nat)
abbrev Store := List (List D)
abbrev Rho := List (Option D)
abbrev SE := Rho → Store → Option (D × Store)
abbrev SB := Rho → Store → Option (Bool × Store)
abbrev SA := Rho → Store → Option (List D × Store)
abbrev FS := List D → Store → Option (D × Store)
mutual
inductive Rep (K : PySem.W.Frag) (H : Hp) (μ : Nat → Addr) (n : Nat) : V → D → Prop
  | non : Rep K H μ n .non .non
  | bl (b : Bool) : Rep K H μ n (.bl b) (.bl b)
  | int (i : Int) : Rep K H μ n (.int i) (.int i)
  | str (x : Str) : Rep K H μ n (.str x) (.str x)
  | tup {a : Addr} {vs : List V} {ds : List D} : SqT K H a vs → RepL K H μ n vs ds → Rep K H μ n (.ref a) (.tup ds)
  | lst {h : Nat} : h < n → Rep K H μ n (.ref (μ h)) (.lst h)
inductive RepL (K : PySem.W.Frag) (H : Hp) (μ : Nat → Addr) (n : Nat) : List V → List D → Prop
  | nil : RepL K H μ n [] []
  | cons {v : V} {d : D} {vs : List V} {ds : List D} : Rep K H μ n v d → RepL K H μ n vs ds → RepL K H μ n (v :: vs) (d :: ds)
end
structure Ext (K : PySem.W.Frag) (H : Hp) (μ : Nat → Addr) (n : Nat) (H' : Hp) (μ' : Nat → Addr) (n' : Nat) : Prop where
  le : n ≤ n'
  eq : ∀ i, i < n → μ' i = μ i
  tup : ∀ a xs, SqT K H a xs → SqT K H' a xs
section
variable {K : PySem.W.Frag} {H H' H'' : Hp} {μ μ' μ'' : Nat → Addr} {n n' n'' : Nat}
theorem Ext.refl : Ext K H μ n H μ n := ⟨Nat.le_refl _, fun _ _ => rfl, fun _ _ h => h⟩
theorem Ext.trans (a : Ext K H μ n H' μ' n') (b : Ext K H' μ' n' H'' μ'' n'') : Ext K H μ n H'' μ'' n'' :=
  ⟨Nat.le_trans a.le b.le, fun i h => (b.eq i (Nat.lt_of_lt_of_le h a.le)).trans (a.eq i h), fun x xs h => b.tup x xs (a.tup x xs h)⟩
mutual
theorem Rep.mono (e : Ext K H μ n H' μ' n') : ∀ (d : D) {v : V}, Rep K H μ n v d → Rep K H' μ' n' v d
  | .non, _, h => by cases h; exact .non
  | .bl b, _, h => by cases h; exact .bl b
  | .int i, _, h => by cases h; exact .int i
  | .str x, _, h => by cases h; exact .str x
  | .tup ds, _, h => by
    cases h with
    | tup hs hl => exact .tup (e.tup _ _ hs) (RepL.mono e ds hl)
  | .lst k, _, h => by
    cases h with
    | lst hk =>
      rw [← e.eq k hk]
      exact .lst (Nat.lt_of_lt_of_le hk e.le)
theorem RepL.mono (e : Ext K H μ n H' μ' n') : ∀ (ds : List D) {vs : List V}, RepL K H μ n vs ds → RepL K H' μ' n' vs ds
  | [], _, h => by cases h; exact .nil
  | d :: ds, _, h => by
    cases h with
    | cons h1 h2 => exact .cons (Rep.mono e d h1) (RepL.mono e ds h2)
end
theorem Rep.up {v : V} {d : D} (h : Rep K H μ n v d) (e : Ext K H μ n H' μ' n') : Rep K H' μ' n' v d := Rep.mono e d h
theorem RepL.up {v : List V} {d : List D} (h : RepL K H μ n v d) (e : Ext K H μ n H' μ' n') : RepL K H' μ' n' v d := RepL.mono e d h
theorem RepL.length : ∀ {vs : List V} {ds : List D}, RepL K H μ n vs ds → vs.length = ds.length
  | _, [], h => by cases h; rfl
  | _, d :: ds, h => by
    cases h with
    | cons h1 h2 => simp [RepL.length h2]
theorem RepL.get : ∀ {vs : List V} {ds : List D} {i : Nat} {d : D}, RepL K H μ n vs ds → ds[i]? = some d → ∃ v, vs[i]? = some v ∧ Rep K H μ n v d
  | _, [], _, _, h, e => by simp at e
  | _, d :: ds, 0, _, h, e => by
    cases h with
    | cons h1 h2 => simp at e; subst e; exact ⟨_, rfl, h1⟩
  | _, d :: ds, i + 1, _, h, e => by
    cases h with
    | cons h1 h2 =>
      obtain ⟨v, q1, q2⟩ := RepL.get (i := i) h2 (by simpa using e)
      exact ⟨v, by simpa using q1, q2⟩
theorem RepL.got : ∀ {vs : List V} {ds : List D} {i : Nat} {v : V}, RepL K H μ n vs ds → vs[i]? = some v → ∃ d, ds[i]? = some d ∧ Rep K H μ n v d := fun {vs ds i v} h e => by
  have hl := h.length
  have hi : i < ds.length := by
    rw [← hl]
    exact (List.getElem?_eq_some_iff.mp e).1
  obtain ⟨v', q1, q2⟩ := RepL.get h (List.getElem?_eq_getElem hi)
  rw [e] at q1
  cases q1
  exact ⟨_, List.getElem?_eq_getElem hi, q2⟩
theorem RepL.append : ∀ {vs ws : List V} {ds es : List D}, RepL K H μ n vs ds → RepL K H μ n ws es → RepL K H μ n (vs ++ ws) (ds ++ es)
  | _, _, [], _, h, g => by cases h; exact g
  | _, _, d :: ds, _, h, g => by
    cases h with
    | cons h1 h2 => exact .cons h1 (RepL.append h2 g)
theorem RepL.take : ∀ {vs : List V} {ds : List D} (k : Nat), RepL K H μ n vs ds → RepL K H μ n (vs.take k) (ds.take k)
  | _, _, 0, _ => .nil
  | _, [], _ + 1, h => by cases h; exact .nil
  | _, d :: ds, k + 1, h => by
    cases h with
    | cons h1 h2 => exact .cons h1 (RepL.take k h2)
theorem RepL.drop : ∀ {vs : List V} {ds : List D} (k : Nat), RepL K H μ n vs ds → RepL K H μ n (vs.drop k) (ds.drop k)
  | _, _, 0, h => h
  | _, [], _ + 1, h => by cases h; exact .nil
  | _, d :: ds, k + 1, h => by
    cases h with
    | cons h1 h2 => exact RepL.drop k h2
theorem RepL.set : ∀ {vs : List V} {ds : List D} {v : V} {d : D} (k : Nat), RepL K H μ n vs ds → Rep K H μ n v d → RepL K H μ n (vs.set k v) (ds.set k d)
  | _, [], _, _, _, h, _ => by cases h; exact .nil
  | _, d :: ds, _, _, 0, h, g => by
    cases h with
    | cons h1 h2 => exact .cons g h2
  | _, d :: ds, _, _, k + 1, h, g => by
    cases h with
    | cons h1 h2 => exact .cons h1 (RepL.set k h2 g)
theorem RepL.nil_iff {vs : List V} {ds : List D} (h : RepL K H μ n vs ds) : vs = [] ↔ ds = [] := by
  cases h <;> simp
end
def FrL (K : PySem.W.Frag) (H : Hp) (a : Addr) (xs : List V) : Prop :=
  (∃ o, H a = some (.frz o (.lst xs))) ∨ ∃ (o : Obj) (its : Array Value) (n : Nat), K.lookup a = some o ∧ o.cls = .type "list" ∧ o.dict = none ∧ o.data = .seq its n ∧ its.size ≤ sizeLine ∧ Vals xs its.toList
theorem FrL.sq {K : PySem.W.Frag} {H : Hp} {a : Addr} {xs : List V} (h : FrL K H a xs) : SqL K H a xs := h.elim (fun z => .inl (.inr z)) .inr
structure StOk (K : PySem.W.Frag) (H : Hp) (μ : Nat → Addr) (st : Store) : Prop where
  pos : 0 < st.length
  inj : ∀ i j, 0 < i → 0 < j → i < st.length → j < st.length → μ i = μ j → i = j
  tabs : Gx.Tabs K H
  cell : ∀ (i : Nat) (xs : List D), st[i]? = some xs → ∃ vs, (i = 0 → FrL K H (μ 0) vs) ∧ (0 < i → H (μ i) = some (.lst vs)) ∧ RepL K H μ st.length vs xs
structure RepR (K : PySem.W.Frag) (H : Hp) (μ : Nat → Addr) (n : Nat) (σ : St) (ρ : Rho) : Prop where
  len : σ.length = ρ.length
  get : ∀ (i : Nat) (d : D), ρ[i]? = some (some d) → ∃ v, σ[i]? = some (some v) ∧ Rep K H μ n v d
section
variable {K : PySem.W.Frag} {H H' : Hp} {μ μ' : Nat → Addr} {n n' : Nat} {st st' : Store}
theorem RepR.up {σ : St} {ρ : Rho} (h : RepR K H μ n σ ρ) (e : Ext K H μ n H' μ' n') : RepR K H' μ' n' σ ρ :=
  ⟨h.len, fun i d q => let ⟨v, a, b⟩ := h.get i d q; ⟨v, a, b.up e⟩⟩
theorem RepR.set {σ : St} {ρ : Rho} {v : V} {d : D} (h : RepR K H μ n σ ρ) (r : Rep K H μ n v d) (i : Nat) : RepR K H μ n (σ.set i (some v)) (ρ.set i (some d)) := by
  refine ⟨by simp [h.len], fun j d' q => ?_⟩
  by_cases e : i = j
  · subst e
    by_cases hi : i < ρ.length
    · rw [List.getElem?_set_self hi] at q
      cases q
      exact ⟨v, by rw [List.getElem?_set_self (by rw [h.len]; exact hi)], r⟩
    · rw [List.getElem?_eq_none (by simpa using hi)] at q
      cases q
  · rw [List.getElem?_set_ne e] at q
    obtain ⟨v', a, b⟩ := h.get j d' q
    exact ⟨v', by rw [List.getElem?_set_ne e]; exact a, b⟩
theorem sqT_upd {p : Addr} {o : HO} (hp : H p = none) (a : Addr) (xs : List V) (h : SqT K H a xs) : SqT K (upd H p o) a xs := by
  rcases h with (h | ⟨u, h⟩) | h
  · exact .inl (.inl (by rw [upd_ne (ne_of_none h hp)]; exact h))
  · exact .inl (.inr ⟨u, by rw [upd_ne (ne_of_none h hp)]; exact h⟩)
  · exact .inr h
theorem frL_upd {p : Addr} {o : HO} (hp : H p = none) (a : Addr) (xs : List V) (h : FrL K H a xs) : FrL K (upd H p o) a xs := by
  rcases h with ⟨u, h⟩ | h
  · exact .inl ⟨u, by rw [upd_ne (ne_of_none h hp)]; exact h⟩
  · exact .inr h
theorem Ext.new {p : Addr} {o : HO} (hp : H p = none) : Ext K H μ n (upd H p o) μ n := ⟨Nat.le_refl _, fun _ _ => rfl, sqT_upd hp⟩
theorem StOk.new {p : Addr} {o : HO} (h : StOk K H μ st) (hp : H p = none) : StOk K (upd H p o) μ st := by
  refine ⟨h.pos, h.inj, h.tabs.new hp, fun i xs e => ?_⟩
  obtain ⟨vs, a, b, c⟩ := h.cell i xs e
  exact ⟨vs, fun z => frL_upd hp _ _ (a z), fun z => by rw [upd_ne (ne_of_none (b z) hp)]; exact b z, c.up (Ext.new hp)⟩
def grow (μ : Nat → Addr) (n : Nat) (p : Addr) : Nat → Addr := fun i => if i = n then p else μ i
theorem grow_at {p : Addr} : grow μ n p n = p := if_pos rfl
theorem grow_ne {p : Addr} {i : Nat} (h : i ≠ n) : grow μ n p i = μ i := if_neg h
theorem Ext.grow {p : Addr} {o : HO} (hp : H p = none) : Ext K H μ n (upd H p o) (Ev.grow μ n p) (n + 1) :=
  ⟨Nat.le_succ _, fun i h => if_neg (Nat.ne_of_lt h), sqT_upd hp⟩
theorem StOk.grow {p : Addr} {xs : List D} {vs : List V} (h : StOk K H μ st) (hp : H p = none) (r : RepL K H μ st.length vs xs) : StOk K (upd H p (.lst vs)) (Ev.grow μ st.length p) (st ++ [xs]) := by
  have ex : Ext K H μ st.length (upd H p (.lst vs)) (Ev.grow μ st.length p) (st ++ [xs]).length := by
    rw [List.length_append]; exact Ext.grow hp
  have np : ∀ i, 0 < i → i < st.length → μ i ≠ p := fun i h0 hi => by
    obtain ⟨ws, _, b, _⟩ := h.cell i _ (List.getElem?_eq_getElem hi)
    exact ne_of_none (b h0) hp
  refine ⟨by rw [List.length_append]; exact Nat.lt_of_lt_of_le h.pos (Nat.le_add_right _ _), fun i j hi hj li lj e => ?_, h.tabs.new hp, fun i ys e => ?_⟩
  · rw [List.length_append, List.length_singleton] at li lj
    by_cases ei : i = st.length
    · by_cases ej : j = st.length
      · rw [ei, ej]
      · rw [ei, grow_at, grow_ne ej] at e
        exact absurd e.symm (np j hj (by omega))
    · by_cases ej : j = st.length
      · rw [ej, grow_at, grow_ne ei] at e
        exact absurd e (np i hi (by omega))
      · rw [grow_ne ei, grow_ne ej] at e
        exact h.inj i j hi hj (by omega) (by omega) e
  · by_cases hi : i < st.length
    · rw [List.getElem?_append_left hi] at e
      obtain ⟨ws, a, b, c⟩ := h.cell i ys e
      refine ⟨ws, fun z => ?_, fun z => ?_, c.up ex⟩
      · rw [grow_ne (Nat.ne_of_lt h.pos)]; exact frL_upd hp _ _ (a z)
      · rw [grow_ne (Nat.ne_of_lt hi), upd_ne (ne_of_none (b z) hp)]; exact b z
    · have e' : i = st.length := by
        have := (List.getElem?_eq_some_iff.mp e).1
        rw [List.length_append, List.length_singleton] at this
        omega
      subst e'
      rw [List.getElem?_append_right (Nat.le_refl _), Nat.sub_self] at e
      cases e
      refine ⟨vs, fun z => absurd z (Nat.ne_of_gt h.pos), fun _ => ?_, r.up ex⟩
      rw [grow_at, upd_same]
theorem StOk.at {i : Nat} {xs : List D} (h : StOk K H μ st) (h0 : 0 < i) (e : st[i]? = some xs) : ∃ vs, H (μ i) = some (.lst vs) ∧ RepL K H μ st.length vs xs := by
  obtain ⟨vs, _, b, c⟩ := h.cell i xs e
  exact ⟨vs, b h0, c⟩
theorem StOk.sq {i : Nat} {xs : List D} (h : StOk K H μ st) (e : st[i]? = some xs) : ∃ vs, SqL K H (μ i) vs ∧ RepL K H μ st.length vs xs := by
  obtain ⟨vs, a, b, c⟩ := h.cell i xs e
  by_cases z : i = 0
  · subst z; exact ⟨vs, (a rfl).sq, c⟩
  · exact ⟨vs, SqL.of (b (Nat.pos_of_ne_zero z)), c⟩
theorem Ext.put {i : Nat} {ws vs : List V} {xs : List D} (h : StOk K H μ st) (h0 : 0 < i) (e : st[i]? = some xs) : Ext K H μ n (upd H (μ i) (.lst ws)) μ n := by
  obtain ⟨us, b, _⟩ := h.at h0 e
  refine ⟨Nat.le_refl _, fun _ _ => rfl, fun a ys q => ?_⟩
  rcases q with (q | ⟨u, q⟩) | q
  · exact .inl (.inl (by rw [upd_ne (ne_of q b (by intro z; cases z))]; exact q))
  · exact .inl (.inr ⟨u, by rw [upd_ne (ne_of q b (by intro z; cases z))]; exact q⟩)
  · exact .inr q
theorem StOk.put {i : Nat} {xs ys : List D} {vs : List V} (h : StOk K H μ st) (h0 : 0 < i) (e : st[i]? = some xs) (r : RepL K H μ st.length vs ys) : StOk K (upd H (μ i) (.lst vs)) μ (st.set i ys) := by
  obtain ⟨us, b, _⟩ := h.at h0 e
  have hi : i < st.length := (List.getElem?_eq_some_iff.mp e).1
  have ex : Ext K H μ st.length (upd H (μ i) (.lst vs)) μ (st.set i ys).length := by
    rw [List.length_set]; exact Ext.put (vs := vs) h h0 e
  refine ⟨by rw [List.length_set]; exact h.pos, fun a c ha hc la lc q => ?_, h.tabs.lst b, fun j zs q => ?_⟩
  · rw [List.length_set] at la lc
    exact h.inj a c ha hc la lc q
  · by_cases ej : i = j
    · subst ej
      rw [List.getElem?_set_self hi] at q
      cases q
      exact ⟨vs, fun z => absurd z (Nat.ne_of_gt h0), fun _ => upd_same, r.up ex⟩
    · rw [List.getElem?_set_ne ej] at q
      obtain ⟨ws, a, c, d⟩ := h.cell j zs q
      refine ⟨ws, fun z => ?_, fun z => ?_, d.up ex⟩
      · subst z
        rcases a rfl with ⟨u, a⟩ | a
        · exact .inl ⟨u, by rw [upd_ne (ne_of a b (by intro z; cases z))]; exact a⟩
        · exact .inr a
      · have hj : j < st.length := (List.getElem?_eq_some_iff.mp q).1
        rw [upd_ne (fun z2 => ej (h.inj i j h0 z hi hj z2.symm))]
        exact c z
end
def Post (K : PySem.W.Frag) (H : Hp) (μ : Nat → Addr) (n : Nat) (d : D) (st' : Store) (Q : VK) : Prop :=
  ∀ v μ' H', Ext K H μ n H' μ' st'.length → StOk K H' μ' st' → Rep K H' μ' st'.length v d → Q v H'
def tEv (K : PySem.W.Frag) (A : SE) : TE := fun σ H Q => ∃ μ ρ st d st', RepR K H μ st.length σ ρ ∧ StOk K H μ st ∧ A ρ st = some (d, st') ∧ Post K H μ st.length d st' Q
def tEvT (K : PySem.W.Frag) (B : SB) : TT := fun σ H Q => ∃ μ ρ st b st', RepR K H μ st.length σ ρ ∧ StOk K H μ st ∧ B ρ st = some (b, st') ∧
  ∀ μ' H', Ext K H μ st.length H' μ' st'.length → StOk K H' μ' st' → Q b H'
def tEvA (K : PySem.W.Frag) (A : SA) : TA := fun σ H Q => ∃ μ ρ st ds st', RepR K H μ st.length σ ρ ∧ StOk K H μ st ∧ A ρ st = some (ds, st') ∧
  ∀ vs μ' H', Ext K H μ st.length H' μ' st'.length → StOk K H' μ' st' → RepL K H' μ' st'.length vs ds → Q vs H'
def PEv (X : Cx) (e : Expr) (A : SE) : Prop := PE X e (tEv X.K A)
def PTv (X : Cx) (e : Expr) (B : SB) : Prop := PT X e (tEvT X.K B)
def PWv (X : Cx) (e : Expr) (B : SB) : Prop := PW X e (tEvT X.K B)
def PAv (X : Cx) (es : List Expr) (A : SA) : Prop := PA X es (tEvA X.K A)
theorem PE.imp {X : Cx} {e : Expr} {t t' : TE} (h : PE X e t) (m : ∀ σ H Q, t' σ H Q → t σ H Q) : PE X e t' := fun pins s σ H Q I q => h pins s σ H Q I (m σ H Q q)
theorem PT.imp {X : Cx} {e : Expr} {t t' : TT} (h : PT X e t) (m : ∀ σ H Q, t' σ H Q → t σ H Q) : PT X e t' := fun pins s σ H Q I q => h pins s σ H Q I (m σ H Q q)
theorem PW.imp {X : Cx} {e : Expr} {t t' : TT} (h : PW X e t) (m : ∀ σ H Q, t' σ H Q → t σ H Q) : PW X e t' := fun wh pins s σ H Q I q => h wh pins s σ H Q I (m σ H Q q)
theorem PA.imp {X : Cx} {es : List Expr} {t t' : TA} (h : PA X es t) (m : ∀ σ H Q, t' σ H Q → t σ H Q) : PA X es t' := fun pos pins s σ H Q I q => h pos pins s σ H Q I (m σ H Q q)
def sVar (i : Nat) : SE := fun ρ st => match ρ[i]? with | some (some d) => some (d, st) | _ => none
def sC (d : D) : SE := fun _ st => some (d, st)
def sOp2 (f : D → D → Store → Option (D × Store)) (A B : SE) : SE := fun ρ st => (A ρ st).bind fun p => (B ρ p.2).bind fun q => f p.1 q.1 q.2
def Prim2 (K : PySem.W.Frag) (r : R2) (f : D → D → Store → Option (D × Store)) : Prop :=
  ∀ H μ st x y dx dy d st' Q, StOk K H μ st → Rep K H μ st.length x dx → Rep K H μ st.length y dy → f dx dy st = some (d, st') → Post K H μ st.length d st' Q → r x y H Q
section
variable {X : Cx} {pos : Pos} {a b : Expr} {A B : SE}
theorem ev_var (i : Nat) {x : Str} (hN : X.N[i]? = some x := by rfl) (hv : Vis X.env.scope x := by first | exact Or.inl rfl | exact Or.inr (Or.inl rfl) | exact Or.inr (Or.inr rfl)) (hd : (x == ("__debug__" : Str)) = false := by decide)
    (hcd : (x == ("__classdict__" : Str)) = false := by decide) : PEv X (.Name x pos) (sVar i) := by
  refine PE.imp (pe_var hN hv hd hcd) fun σ H Q h => ?_
  obtain ⟨μ, ρ, st, d, st', r, s, e, q⟩ := h
  unfold sVar at e
  split at e
  · rename_i d' hd
    cases e
    obtain ⟨v, hv, rv⟩ := r.get _ _ hd
    exact ⟨v, hv, q v μ H Ext.refl s rv⟩
  · cases e
theorem ev_c {e : Expr} {v : V} {d : D} (h : PE X e (tC v)) (hr : ∀ K H μ n, Rep K H μ n v d) : PEv X e (sC d) := by
  refine PE.imp h fun σ H Q h => ?_
  obtain ⟨μ, ρ, st, d, st', r, s, e, q⟩ := h
  cases e
  exact q v μ H Ext.refl s (hr _ _ _ _)
theorem ev_int {i : Int} {j : Nat} : PEv X (.Constant (.int i) j pos) (sC (.int i)) := ev_c pe_int fun _ _ _ _ => .int i
theorem ev_bl {i : Bool} {j : Nat} : PEv X (.Constant (.bool i) j pos) (sC (.bl i)) := ev_c pe_bl fun _ _ _ _ => .bl i
theorem tEv_tOp {r : R2} {f : D → D → Store → Option (D × Store)} (hf : Prim2 X.K r f) (σ : St) (H : Hp) (Q : VK) (h : tEv X.K (sOp2 f A B) σ H Q) : tOp r (tEv X.K A) (tEv X.K B) σ H Q := by
  obtain ⟨μ, ρ, st, d, st', hr, hs, e, q⟩ := h
  unfold sOp2 at e
  obtain ⟨p, e1, e⟩ := Option.bind_eq_some_iff.mp e
  obtain ⟨p2, e2, e⟩ := Option.bind_eq_some_iff.mp e
  refine ⟨μ, ρ, st, p.1, p.2, hr, hs, e1, fun x μ1 H1 x1 s1 r1 => ?_⟩
  refine ⟨μ1, ρ, p.2, p2.1, p2.2, hr.up x1, s1, e2, fun y μ2 H2 x2 s2 r2 => ?_⟩
  exact hf H2 μ2 p2.2 x y p.1 p2.1 d st' Q s2 (r1.up x2) r2 e fun v μ3 H3 x3 s3 r3 => q v μ3 H3 ((x1.trans x2).trans x3) s3 r3
theorem ev_op {op : Operator} {r : R2} {f : D → D → Store → Option (D × Store)} (ho : OpR X (binaryOp op) r) (hf : Prim2 X.K r f) (ha : PEv X a A) (hb : PEv X b B) : PEv X (.BinOp a op b pos) (sOp2 f A B) :=
  PE.imp (pe_op ho ha hb) (tEv_tOp hf)
theorem ev_cmp {op : CmpOp} {r : R2} {f : D → D → Store → Option (D × Store)} (ho : OpR X (compareOp op) r) (hf : Prim2 X.K r f) (ha : PEv X a A) (hb : PEv X b B) (hm : behindInMarks op b = false) : PEv X (.Compare a [op] [b] pos) (sOp2 f A B) :=
  PE.imp (pe_cmpR ho ha hb hm) (tEv_tOp hf)
theorem ev_ix {r : R2} {f : D → D → Store → Option (D × Store)} (ho : IxR X r) (hf : Prim2 X.K r f) (ha : PEv X a A) (hb : PEv X b B) (hs : PlainIx b := by exact fun _ _ => rfl) : PEv X (.Subscript a b pos) (sOp2 f A B) :=
  PE.imp (pe_ix ho ha hb hs) (tEv_tOp hf)
end
end Ev
namespace Ev
open PySem PySem.Spec L2
def sNil : SA := fun _ st => some ([], st)
def sCons (A : SE) (R : SA) : SA := fun ρ st => (A ρ st).bind fun p => (R ρ p.2).bind fun q => some (p.1 :: q.1, q.2)
def sTup (R : SA) : SE := fun ρ st => (R ρ st).bind fun p => if p.1.length ≤ sizeLine then some (.tup p.1, p.2) else none
def sLst (R : SA) : SE := fun ρ st => (R ρ st).bind fun p => if p.1.length ≤ sizeLine then some (.lst p.2.length, p.2 ++ [p.1]) else none
section
variable {X : Cx} {pos : Pos} {a b : Expr} {es : List Expr} {A B : SE} {R : SA}
theorem ea_nil : PAv X [] sNil := by
  refine PA.imp pa_nil fun σ H Q h => ?_
  obtain ⟨μ, ρ, st, d, st', r, s, e, q⟩ := h
  cases e
  exact q [] μ H Ext.refl s .nil
theorem ea_cons (ha : PEv X a A) (hr : PAv X es R) (hs : starEach (a :: es) X.env = (false, eval a X.env) :: starEach es X.env := by rfl) : PAv X (a :: es) (sCons A R) := by
  refine PA.imp (pa_cons ha hr hs) fun σ H Q h => ?_
  obtain ⟨μ, ρ, st, ds, st', r, s, e, q⟩ := h
  unfold sCons at e
  obtain ⟨p, e1, e⟩ := Option.bind_eq_some_iff.mp e
  obtain ⟨p2, e2, e⟩ := Option.bind_eq_some_iff.mp e
  cases e
  refine ⟨μ, ρ, st, p.1, p.2, r, s, e1, fun x μ1 H1 x1 s1 r1 => ?_⟩
  refine ⟨μ1, ρ, p.2, p2.1, p2.2, r.up x1, s1, e2, fun y μ2 H2 x2 s2 r2 => ?_⟩
  exact q _ μ2 H2 (x1.trans x2) s2 (.cons (r1.up x2) r2)
theorem ev_tup {x1 : Nat} (h : PAv X es R) : PEv X (.Tuple es x1 pos) (sTup R) := by
  refine PE.imp (pe_tup h) fun σ H Q h => ?_
  obtain ⟨μ, ρ, st, d, st', r, s, e, q⟩ := h
  unfold sTup at e
  obtain ⟨p, e1, e⟩ := Option.bind_eq_some_iff.mp e
  split at e
  · rename_i hz
    cases e
    refine ⟨μ, ρ, st, p.1, p.2, r, s, e1, fun xs μ1 H1 x1 s1 r1 => ⟨by rw [r1.length]; exact hz, fun t ht => ?_⟩⟩
    exact q _ μ1 _ (x1.trans (Ext.new ht)) (s1.new ht) (.tup (SqT.of upd_same) (r1.up (Ext.new ht)))
  · cases e
theorem ev_lst (h : PAv X es R) : PEv X (.List es pos) (sLst R) := by
  refine PE.imp (pe_lst h) fun σ H Q h => ?_
  obtain ⟨μ, ρ, st, d, st', r, s, e, q⟩ := h
  unfold sLst at e
  obtain ⟨p, e1, e⟩ := Option.bind_eq_some_iff.mp e
  split at e
  · rename_i hz
    cases e
    refine ⟨μ, ρ, st, p.1, p.2, r, s, e1, fun xs μ1 H1 x1 s1 r1 => ⟨by rw [r1.length]; exact hz, fun t ht => ?_⟩⟩
    have s2 := s1.grow ht r1
    have x2 : Ext X.K H μ st.length (upd H1 t (.lst xs)) (grow μ1 p.2.length t) (p.2 ++ [p.1]).length := by
      rw [List.length_append]; exact x1.trans (Ext.grow ht)
    refine q _ _ _ x2 s2 ?_
    have z : Rep X.K (upd H1 t (.lst xs)) (grow μ1 p.2.length t) (p.2 ++ [p.1]).length (.ref (grow μ1 p.2.length t p.2.length)) (.lst p.2.length) := .lst (by rw [List.length_append]; exact Nat.lt_succ_self _)
    rw [grow_at] at z
    exact z
  · cases e
end
def spOf (K : PySem.W.Frag) (F : FS) : Sp := fun vs H Q _ => ∃ μ ds st d st', RepL K H μ st.length vs ds ∧ StOk K H μ st ∧ F ds st = some (d, st') ∧ Post K H μ st.length d st' Q
def sCall (F : FS) (R : SA) : SE := fun ρ st => (R ρ st).bind fun p => F p.1 p.2
def Prim (K : PySem.W.Frag) (r : List V → Hp → VK → Prop) (F : FS) : Prop :=
  ∀ H μ st vs ds d st' Q, StOk K H μ st → RepL K H μ st.length vs ds → F ds st = some (d, st') → Post K H μ st.length d st' Q → r vs H Q
section
variable {X : Cx} {p pos : Pos} {e : Expr} {es : List Expr} {R : SA} {F : FS} {x : Str}
theorem ev_call {k : Nat} {f : Addr} {fd : FuncData} {ps : List Str} (G : FnOk X.prog X.w X.K X.mg X.base CX0 k f fd ps (spOf X.K F)) (hr : Room k X.A) (hm : X.mg x = some (.ref f)) (hk : PySem.W.keepIn X.K (.ref f) = true) (hb : Binds X.K fd ps [])
    (ha : PAv X (e :: es) R) (hg : Gl X x := by rfl) (hdb : (x == ("__debug__" : Str)) = false := by decide) (he : starEach (e :: es) X.env = (false, eval e X.env) :: starEach es X.env := by rfl) (hpl : (backTo pos (starEach es X.env)).any (·.1) = false := by rfl) :
    PEv X (.Call (.Name x p) (e :: es) [] pos) (sCall F R) := by
  refine PE.imp (pe_call G hr hg hm hk hb .nil pass0 ha hdb he hpl) fun σ H Q h => ?_
  obtain ⟨μ, ρ, st, d, st', r, s, e, q⟩ := h
  unfold sCall at e
  obtain ⟨p, e1, e⟩ := Option.bind_eq_some_iff.mp e
  refine ⟨μ, ρ, st, p.1, p.2, r, s, e1, fun xs μ1 H1 x1 s1 r1 => ?_⟩
  show spOf X.K F (xs ++ []) H1 Q E0
  rw [List.append_nil]
  exact ⟨μ1, p.1, p.2, d, st', r1, s1, e, fun v μ2 H2 x2 s2 r2 => q v μ2 H2 (x1.trans x2) s2 r2⟩
theorem tEv_tCB {r : List V → Hp → VK → Prop} (hf : Prim X.K r F) (σ : St) (H : Hp) (Q : VK) (h : tEv X.K (sCall F R) σ H Q) : tCB r (tEvA X.K R) σ H Q := by
  obtain ⟨μ, ρ, st, d, st', hr, s, e, q⟩ := h
  unfold sCall at e
  obtain ⟨p, e1, e⟩ := Option.bind_eq_some_iff.mp e
  refine ⟨μ, ρ, st, p.1, p.2, hr, s, e1, fun xs μ1 H1 x1 s1 r1 => ?_⟩
  exact hf H1 μ1 p.2 xs p.1 d st' Q s1 r1 e fun v μ2 H2 x2 s2 r2 => q v μ2 H2 (x1.trans x2) s2 r2
theorem ev_callB {id : String} {r : List V → Hp → VK → Prop} (hc : CallR X (.builtin id) r) (hf : Prim X.K r F) (hm : X.mg x = none) (hv : bootBuiltins x = some (.builtin id)) (ha : PAv X (e :: es) R) (hg : Gl X x := by rfl) (hn : x ≠ "__name__" := by decide) (hdb : (x == ("__debug__" : Str)) = false := by decide)
    (he : starEach (e :: es) X.env = (false, eval e X.env) :: starEach es X.env := by rfl) (hpl : (backTo pos (starEach es X.env)).any (·.1) = false := by rfl) : PEv X (.Call (.Name x p) (e :: es) [] pos) (sCall F R) :=
  PE.imp (pe_callB hc hg hm hv ha hn hdb he hpl) (tEv_tCB hf)
theorem ev_callTy {id : String} {r : List V → Hp → VK → Prop} (hc : CallR X (.type id) r) (hf : Prim X.K r F) (hm : X.mg x = none) (hv : bootBuiltins x = some (.type id)) (ha : PAv X (e :: es) R) (hg : Gl X x := by rfl) (hn : x ≠ "__name__" := by decide) (hdb : (x == ("__debug__" : Str)) = false := by decide)
    (he : starEach (e :: es) X.env = (false, eval e X.env) :: starEach es X.env := by rfl) (hpl : (backTo pos (starEach es X.env)).any (·.1) = false := by rfl) : PEv X (.Call (.Name x p) (e :: es) [] pos) (sCall F R) :=
  PE.imp (pe_callTy hc hg hm hv ha hn hdb he hpl) (tEv_tCB hf)
end
def sMeth (f : D → List D → Store → Option (D × Store)) (A : SE) (R : SA) : SE := fun ρ st => (A ρ st).bind fun p => match p.1 with
  | .lst h => if p.2[h]?.isSome then (R ρ p.2).bind fun q => f (.lst h) q.1 q.2 else none
  | _ => none
def PrimM (K : PySem.W.Frag) (r : V → List V → Hp → VK → Prop) (f : D → List D → Store → Option (D × Store)) : Prop :=
  ∀ H μ st x vs dx ds d st' Q, StOk K H μ st → Rep K H μ st.length x dx → RepL K H μ st.length vs ds → f dx ds st = some (d, st') → Post K H μ st.length d st' Q → r x vs H Q
section
variable {X : Cx} {apos cpos : Pos} {o e : Expr} {es : List Expr} {A : SE} {R : SA} {name : Str} {id : String} {r : V → List V → Hp → VK → Prop} {f : D → List D → Store → Option (D × Store)}
theorem sMeth_some {ρ : Rho} {st : Store} {d : D} {st' : Store} (e : sMeth f A R ρ st = some (d, st')) : ∃ h s1 xs, A ρ st = some (.lst h, s1) ∧ s1[h]? = some xs ∧ ∃ q, R ρ s1 = some q ∧ f (.lst h) q.1 q.2 = some (d, st') := by
  unfold sMeth at e
  obtain ⟨p, e1, e⟩ := Option.bind_eq_some_iff.mp e
  obtain ⟨p1, p2⟩ := p
  dsimp only at e
  split at e
  · rename_i h
    split at e
    · rename_i hs
      obtain ⟨xs, hx⟩ := Option.isSome_iff_exists.mp hs
      obtain ⟨q, e2, e⟩ := Option.bind_eq_some_iff.mp e
      exact ⟨h, p2, xs, e1, hx, q, e2, e⟩
    · cases e
  · cases e
theorem rep_lst {K : PySem.W.Frag} {H : Hp} {μ : Nat → Addr} {n h : Nat} {v : V} (r : Rep K H μ n v (.lst h)) : v = .ref (μ h) ∧ h < n := by
  cases r with
  | lst q => exact ⟨rfl, q⟩
theorem ev_meth (slot : Slot "list" name id) (hty : typeOf (.builtin id) = pure (.type "method_descriptor")) (hm : MtR X id r) (hf : PrimM X.K r f) (ho : PEv X o A) (ha : PAv X (e :: es) R)
    (hbase : attributeBase o name X.env (eval o X.env) = eval o X.env := by rfl)
    (hfew : ((backTo cpos (starEach (e :: es) X.env)).all (fun x => !x.1) && (backToKw cpos (keywordEach [] X.env)).all (fun x => x.1.isSome)
      && decide ((e :: es).length + ([] : List Keyword).length + (if ([] : List Keyword).isEmpty then 0 else 1) < 30)) = true := by rfl)
    (hline : (apos.endLine == cpos.line) = true := by rfl) (hs : starEach (e :: es) X.env = (false, eval e X.env) :: starEach es X.env := by rfl) (hplain : (backTo cpos (starEach es X.env)).any (·.1) = false := by rfl) :
    PEv X (.Call (.Attribute o name apos) (e :: es) [] cpos) (sMeth f A R) := by
  refine PE.imp (pe_bm PySem.F.plainAttrs_list slot hty hm ho ha hbase hfew hline hs hplain) fun σ H Q h => ?_
  obtain ⟨μ, ρ, st, d, st', hr, s, e, q⟩ := h
  obtain ⟨k, s1', xs, e1, hx, p, e2, e3⟩ := sMeth_some e
  refine ⟨μ, ρ, st, .lst k, s1', hr, s, e1, fun x μ1 H1 x1 s1 r1 => ?_⟩
  obtain ⟨rfl, hk⟩ := rep_lst r1
  obtain ⟨vs, hv, _⟩ := s1.sq hx
  refine ⟨.inl ⟨rfl, _, hv⟩, μ1, ρ, s1', p.1, p.2, hr.up x1, s1, e2, fun ws μ2 H2 x2 s2 r2 => ?_⟩
  exact hf H2 μ2 p.2 _ ws (.lst k) p.1 d st' Q s2 (r1.up x2) r2 e3 fun v μ3 H3 x3 s3 r3 => q v μ3 H3 ((x1.trans x2).trans x3) s3 r3
end
def truth (st : Store) : D → Option Bool
  | .non => some false
  | .bl b => some b
  | .int i => some (i != 0)
  | .str _ => none
  | .tup xs => some (!xs.isEmpty)
  | .lst h => (st[h]?).map fun xs => !xs.isEmpty
def sTru (A : SE) : SB := fun ρ st => (A ρ st).bind fun p => (truth p.2 p.1).map fun b => (b, p.2)
def sVal (A : SE) : SB := fun ρ st => (A ρ st).bind fun p => match p.1 with | .bl b => some (b, p.2) | _ => none
def bAnd (A B : SB) : SB := fun ρ st => (A ρ st).bind fun p => if p.1 = true then B ρ p.2 else some (false, p.2)
def bOr (A B : SB) : SB := fun ρ st => (A ρ st).bind fun p => if p.1 = true then some (true, p.2) else B ρ p.2
def bNot (A : SB) : SB := fun ρ st => (A ρ st).bind fun p => some (!p.1, p.2)
def sAndV (A B : SE) : SE := fun ρ st => (A ρ st).bind fun p => match p.1 with | .bl b => if b = true then B ρ p.2 else some (.bl false, p.2) | _ => none
def sOrV (A B : SE) : SE := fun ρ st => (A ρ st).bind fun p => match p.1 with | .bl b => if b = true then some (.bl true, p.2) else B ρ p.2 | _ => none
def sNotV (A : SE) : SE := fun ρ st => (A ρ st).bind fun p => match p.1 with | .bl b => some (.bl (!b), p.2) | _ => none
def sIf (C : SB) (A B : SE) : SE := fun ρ st => (C ρ st).bind fun p => if p.1 = true then A ρ p.2 else B ρ p.2
section
variable {X : Cx} {pos : Pos} {a b c : Expr} {rest : List Expr} {A B : SE} {C E : SB}
theorem RepL.isEmpty {K : PySem.W.Frag} {H : Hp} {μ : Nat → Addr} {n : Nat} {vs : List V} {ds : List D} (h : RepL K H μ n vs ds) : vs.isEmpty = ds.isEmpty := by cases h <;> rfl
theorem truth_ok {K : PySem.W.Frag} {H : Hp} {μ : Nat → Addr} {st : Store} {v : V} {d : D} {k : Bool} (s : StOk K H μ st) (r : Rep K H μ st.length v d) (e : truth st d = some k) : TruV K v H k := by
  cases r with
  | non => cases e; rfl
  | bl b => cases e; rfl
  | int i => cases e; rfl
  | str x => cases e
  | tup h1 h2 => cases e; exact .inr (.inl ⟨_, h1, by rw [h2.isEmpty]⟩)
  | @lst h hk =>
    unfold truth at e
    obtain ⟨xs, e1, e2⟩ := Option.map_eq_some_iff.mp e
    obtain ⟨vs, q1, q2⟩ := s.sq e1
    exact .inl ⟨vs, q1, by rw [q2.isEmpty]; exact e2.symm⟩
theorem et_tru (ha : PEv X a A) (he : ∀ whole, isTrue a X.env whole = (do let v ← whole; standAt a.pos; holding [v] (truthy v)) := by intro _; rfl) : PTv X a (sTru A) := by
  refine PT.imp (pt_truth ha he) fun σ H Q h => ?_
  obtain ⟨μ, ρ, st, d, st', hr, s, e, q⟩ := h
  unfold sTru at e
  obtain ⟨p, e1, e⟩ := Option.bind_eq_some_iff.mp e
  obtain ⟨k, e2, e⟩ := Option.map_eq_some_iff.mp e
  cases e
  exact ⟨μ, ρ, st, p.1, p.2, hr, s, e1, fun v μ1 H1 x1 s1 r1 => ⟨_, truth_ok s1 r1 e2, q μ1 H1 x1 s1⟩⟩
theorem sVal_some {ρ : Rho} {st : Store} {b : Bool} {st' : Store} (e : sVal A ρ st = some (b, st')) : A ρ st = some (.bl b, st') := by
  unfold sVal at e
  obtain ⟨⟨p1, p2⟩, e1, e⟩ := Option.bind_eq_some_iff.mp e
  dsimp only at e
  split at e
  · cases e; rw [e1]
  · cases e
theorem et_cmp {op : CmpOp} {r : R2} {f : D → D → Store → Option (D × Store)} (ho : OpR X (compareOp op) r) (hf : Prim2 X.K r f) (ha : PEv X a A) (hb : PEv X b B) (hm : behindInMarks op b = false) : PTv X (.Compare a [op] [b] pos) (sVal (sOp2 f A B)) := by
  refine PT.imp (pt_cmpR ho ha hb hm) fun σ H Q h => ?_
  obtain ⟨μ, ρ, st, d, st', hr, s, e, q⟩ := h
  refine tEv_tOp hf σ H _ ⟨μ, ρ, st, .bl d, st', hr, s, sVal_some e, fun v μ1 H1 x1 s1 r1 => ?_⟩
  cases r1
  exact ⟨d, rfl, q μ1 H1 x1 s1⟩
theorem ew_or1 (ha : PTv X a C) : PWv X (.BoolOp .Or [a] pos) C := pw_or1 ha
theorem ew_or (ha : PTv X a C) (hb : PWv X (.BoolOp .Or (b :: rest) pos) E) : PWv X (.BoolOp .Or (a :: b :: rest) pos) (bOr C E) := by
  refine PW.imp (pw_or ha hb) fun σ H Q h => ?_
  obtain ⟨μ, ρ, st, d, st', hr, s, e, q⟩ := h
  unfold bOr at e
  obtain ⟨p, e1, e⟩ := Option.bind_eq_some_iff.mp e
  refine ⟨μ, ρ, st, p.1, p.2, hr, s, e1, fun μ1 H1 x1 s1 => ?_⟩
  split at e
  · rename_i hp
    rw [if_pos hp]
    cases e
    exact q μ1 H1 x1 s1
  · rename_i hp
    rw [if_neg hp]
    exact ⟨μ1, ρ, p.2, d, st', hr.up x1, s1, e, fun μ2 H2 x2 s2 => q μ2 H2 (x1.trans x2) s2⟩
theorem et_w (h : PWv X a C) : PTv X a C := L2.PW.pt h
theorem et_not (ha : PTv X a C) : PTv X (.UnaryOp .Not a pos) (bNot C) := by
  refine PT.imp (pt_not ha) fun σ H Q h => ?_
  obtain ⟨μ, ρ, st, d, st', hr, s, e, q⟩ := h
  unfold bNot at e
  obtain ⟨p, e1, e⟩ := Option.bind_eq_some_iff.mp e
  cases e
  exact ⟨μ, ρ, st, p.1, p.2, hr, s, e1, fun μ1 H1 x1 s1 => q μ1 H1 x1 s1⟩
theorem bl_case {α : Type} {d : D} {f : Bool → Option α} {r : α} (e : (match d with | .bl b => f b | _ => none) = some r) : ∃ b, d = .bl b ∧ f b = some r := by
  split at e
  · exact ⟨_, rfl, e⟩
  · cases e
theorem ev_one {op : BoolOp} (h : PEv X a A) : PEv X (.BoolOp op [a] pos) A := pe_one h
theorem ev_and (ha : PEv X a A) (hb : PEv X (.BoolOp .And (b :: rest) pos) B) : PEv X (.BoolOp .And (a :: b :: rest) pos) (sAndV A B) := by
  refine PE.imp (pe_and ha hb) fun σ H Q h => ?_
  obtain ⟨μ, ρ, st, d, st', hr, s, e, q⟩ := h
  unfold sAndV at e
  obtain ⟨⟨p1, p2⟩, e1, e⟩ := Option.bind_eq_some_iff.mp e
  obtain ⟨k, rfl, e⟩ := bl_case e
  refine ⟨μ, ρ, st, _, p2, hr, s, e1, fun v μ1 H1 x1 s1 r1 => ?_⟩
  cases r1
  refine ⟨k, rfl, ?_⟩
  cases k with
  | true =>
    rw [if_pos rfl] at e ⊢
    exact ⟨μ1, ρ, p2, d, st', hr.up x1, s1, e, fun v μ2 H2 x2 s2 r2 => q v μ2 H2 (x1.trans x2) s2 r2⟩
  | false =>
    rw [if_neg Bool.false_ne_true] at e ⊢
    cases e
    exact q _ μ1 H1 x1 s1 (.bl false)
theorem ev_not (ha : PEv X a A) : PEv X (.UnaryOp .Not a pos) (sNotV A) := by
  refine PE.imp (pe_not ha) fun σ H Q h => ?_
  obtain ⟨μ, ρ, st, d, st', hr, s, e, q⟩ := h
  unfold sNotV at e
  obtain ⟨⟨p1, p2⟩, e1, e⟩ := Option.bind_eq_some_iff.mp e
  obtain ⟨k, rfl, e⟩ := bl_case e
  cases e
  refine ⟨μ, ρ, st, _, p2, hr, s, e1, fun v μ1 H1 x1 s1 r1 => ?_⟩
  cases r1
  exact ⟨k, rfl, q _ μ1 H1 x1 s1 (.bl _)⟩
theorem ev_ifx (hc : PTv X c C) (ha : PEv X a A) (hb : PEv X b B) : PEv X (.IfExp c a b pos) (sIf C A B) := by
  refine PE.imp (pe_ifExp hc ha hb) fun σ H Q h => ?_
  obtain ⟨μ, ρ, st, d, st', hr, s, e, q⟩ := h
  unfold sIf at e
  obtain ⟨p, e1, e⟩ := Option.bind_eq_some_iff.mp e
  refine ⟨μ, ρ, st, p.1, p.2, hr, s, e1, fun μ1 H1 x1 s1 => ?_⟩
  split at e
  · rename_i hp
    rw [if_pos hp]
    exact ⟨μ1, ρ, p.2, d, st', hr.up x1, s1, e, fun v μ2 H2 x2 s2 r2 => q v μ2 H2 (x1.trans x2) s2 r2⟩
  · rename_i hp
    rw [if_neg hp]
    exact ⟨μ1, ρ, p.2, d, st', hr.up x1, s1, e, fun v μ2 H2 x2 s2 r2 => q v μ2 H2 (x1.trans x2) s2 r2⟩
end
end Ev
namespace Ev
open PySem PySem.Spec L2
abbrev SG := D → Rho → Option Rho
def wipeD (ρ : Rho) : List Nat → Rho
  | [] => ρ
  | v :: vs => (wipeD ρ vs).set v none
def GOk (K : PySem.W.Frag) (g : TG) (G : SG) (vs : List Nat) : Prop :=
  ∀ (v : V) (d : D) (σ : St) (ρ ρ' : Rho) (H : Hp) (μ : Nat → Addr) (n : Nat) (Q : St → Hp → Prop), RepR K H μ n σ ρ → Rep K H μ n v d → G d ρ = some ρ' →
    (∀ σ', wipe σ' vs = wipe σ vs → RepR K H μ n σ' ρ' → Q σ' H) → g v σ H Q
def gN (i : Nat) : SG := fun d ρ => some (ρ.set i (some d))
def setAll : List Nat → List D → Rho → Option Rho
  | [], [], ρ => some ρ
  | i :: is, d :: ds, ρ => setAll is ds (ρ.set i (some d))
  | _, _, _ => none
def gT (is : List Nat) : SG := fun d ρ => match d with | .tup ds => setAll is ds ρ | _ => none
section
variable {K : PySem.W.Frag}
theorem wipe_set {σ : St} {i : Nat} {x : Option V} : ∀ {vs : List Nat}, i ∈ vs → wipe (σ.set i x) vs = wipe σ vs
  | [], h => absurd h (by simp)
  | v :: vs, h => by
    unfold wipe
    by_cases e : v = i
    · subst e
      by_cases m : v ∈ vs
      · rw [wipe_set m]
      · have : ∀ (ws : List Nat), v ∉ ws → wipe (σ.set v x) ws = (wipe σ ws).set v x := by
          intro ws
          induction ws with
          | nil => intro _; rfl
          | cons w ws ih =>
            intro hw
            have h1 : w ≠ v := fun z => hw (by rw [z]; exact List.mem_cons_self)
            have h2 : v ∉ ws := fun z => hw (List.mem_cons_of_mem _ z)
            unfold wipe
            rw [ih h2, List.set_comm _ _ (Ne.symm h1)]
        rw [this vs m, List.set_set]
    · have m : i ∈ vs := by
        rcases List.mem_cons.mp h with z | z
        · exact absurd z.symm e
        · exact z
      rw [wipe_set m]
theorem gok_name {i : Nat} {vs : List Nat} (h : i ∈ vs) : GOk K (gName i) (gN i) vs := by
  intro v d σ ρ ρ' H μ n Q hr r e q
  cases e
  exact q _ (wipe_set h) (hr.set r i)
def gNames : List Nat → TGs
  | [] => gNil
  | i :: is => gCons (gName i) (gNames is)
theorem gok_names {vs : List Nat} : ∀ (is : List Nat), (∀ i ∈ is, i ∈ vs) → ∀ (ws : List V) (ds : List D) (σ : St) (ρ ρ' : Rho) (H : Hp) (μ : Nat → Addr) (n : Nat) (Q : St → Hp → Prop), RepR K H μ n σ ρ → RepL K H μ n ws ds → setAll is ds ρ = some ρ' →
    (∀ σ', wipe σ' vs = wipe σ vs → RepR K H μ n σ' ρ' → Q σ' H) → gNames is ws σ H Q
  | [], _, _, [], _, _, _, _, _, _, _, hr, r, e, q => by
    cases r
    cases e
    exact ⟨rfl, q _ rfl hr⟩
  | [], _, _, _ :: _, _, _, _, _, _, _, _, _, _, e, _ => by cases e
  | i :: is, _, _, [], _, _, _, _, _, _, _, _, _, e, _ => by cases e
  | i :: is, hv, _, d :: ds, σ, ρ, ρ', H, μ, n, Q, hr, r, e, q => by
    cases r with
    | cons r1 r2 =>
      refine ⟨_, _, rfl, ?_⟩
      exact gok_names is (fun j hj => hv j (List.mem_cons_of_mem _ hj)) _ ds _ _ ρ' H μ n Q (hr.set r1 i) r2 e fun σ' w' rr => q σ' (w'.trans (wipe_set (hv i List.mem_cons_self))) rr
theorem gok_tup {is vs : List Nat} {k : Nat} (h : ∀ i ∈ is, i ∈ vs) (hk : is.length = k) : GOk K (gTup K k (gNames is)) (gT is) vs := by
  intro v d σ ρ ρ' H μ n Q hr r e q
  unfold gT at e
  split at e
  · rename_i ds
    cases r with
    | tup h1 h2 =>
      have hl : ∀ (is : List Nat) (ds : List D) (ρ ρ' : Rho), setAll is ds ρ = some ρ' → ds.length = is.length := by
        intro is
        induction is with
        | nil =>
          intro ds ρ ρ' e
          cases ds with
          | nil => rfl
          | cons _ _ => cases e
        | cons i is ih =>
          intro ds ρ ρ' e
          cases ds with
          | nil => cases e
          | cons d ds => simp [ih ds _ _ e]
      exact ⟨_, _, rfl, h1, by rw [h2.length, hl is ds ρ ρ' e, hk], gok_names is h _ ds σ ρ ρ' H μ n Q hr h2 e q⟩
  · cases e
end
abbrev SI := Rho → Store → Option ((List D × Option (Nat × List D)) × Store)
def Still (chk : Option (Nat × List D)) (xs : List D) (st : Store) : Prop := ∀ h ys, chk = some (h, ys) → st[h]? = some ys
structure ItOk (K : PySem.W.Frag) (H0 : Hp) (μ0 : Nat → Addr) (n0 : Nat) (J : It) (xs : List D) (chk : Option (Nat × List D)) : Prop where
  go : ∀ (i : Nat) H μ st, Ext K H0 μ0 n0 H μ st.length → StOk K H μ st → Still chk xs st → i < xs.length → J.go i H
  yld : ∀ (i : Nat) (d : D) H μ st x H', Ext K H0 μ0 n0 H μ st.length → StOk K H μ st → Still chk xs st → xs[i]? = some d → J.yld i H x H' → Ext K H μ st.length H' μ st.length ∧ StOk K H' μ st ∧ Rep K H' μ st.length x d
  stop : ∀ (i : Nat) H μ st, Ext K H0 μ0 n0 H μ st.length → StOk K H μ st → Still chk xs st → xs.length = i → J.stop i H
def tEvI (K : PySem.W.Frag) (S : SI) : TI := fun σ H R => ∃ μ ρ st xs chk st', RepR K H μ st.length σ ρ ∧ StOk K H μ st ∧ S ρ st = some ((xs, chk), st') ∧ Still chk xs st' ∧
  ∀ J μ' H', Ext K H μ st.length H' μ' st'.length → StOk K H' μ' st' → ItOk K H' μ' st'.length J xs chk → R J H'
def PIv (X : Cx) (tg iter : Expr) (S : SI) : Prop := PI X tg iter (tEvI X.K S)
theorem PI.imp {X : Cx} {tg iter : Expr} {t t' : TI} (h : PI X tg iter t) (m : ∀ σ H R, t' σ H R → t σ H R) : PI X tg iter t' := fun pins s σ H Q I q => h pins s σ H Q I (m σ H Q q)
def iSeqL (A : SE) : SI := fun ρ st => (A ρ st).bind fun p => match p.1 with | .lst h => (p.2[h]?).bind fun xs => some ((xs, some (h, xs)), p.2) | _ => none
def iSeqT (A : SE) : SI := fun ρ st => (A ρ st).bind fun p => match p.1 with | .tup xs => some ((xs, none), p.2) | _ => none
def rngD (lo : Int) : Nat → List D
  | 0 => []
  | n + 1 => .int lo :: rngD (lo + 1) n
def iRange (A : SA) : SI := fun ρ st => (A ρ st).bind fun p => match p.1 with
  | [.int j] => if -(2 ^ 62) ≤ j ∧ j < 2 ^ 62 then some ((rngD 0 j.toNat, none), p.2) else none
  | _ => none
def iRange2 (A : SA) : SI := fun ρ st => (A ρ st).bind fun p => match p.1 with
  | [.int i, .int j] => if (-(2 ^ 62) ≤ i ∧ i < 2 ^ 62) ∧ -(2 ^ 62) ≤ j ∧ j < 2 ^ 62 then some ((rngD i (j - i).toNat, none), p.2) else none
  | _ => none
theorem rngD_length : ∀ (n : Nat) (lo : Int), (rngD lo n).length = n
  | 0, _ => rfl
  | n + 1, lo => by simp [rngD, rngD_length n]
theorem rngD_get : ∀ (n : Nat) (lo : Int) (i : Nat) (d : D), (rngD lo n)[i]? = some d → d = .int (lo + i)
  | 0, _, _, _, h => by simp [rngD] at h
  | n + 1, lo, 0, d, h => by simp [rngD] at h; rw [← h]; simp
  | n + 1, lo, i + 1, d, h => by
    have q := rngD_get n (lo + 1) i d (by simpa [rngD] using h)
    rw [q]
    congr 1
    omega
section
variable {X : Cx} {tg l : Expr} {A : SE}
theorem itOk_tup {K : PySem.W.Frag} {H : Hp} {μ : Nat → Addr} {n : Nat} {a : Addr} {vs : List V} {xs : List D} (h : SqT K H a vs) (r : RepL K H μ n vs xs) : ItOk K H μ n (Itt K a) xs none where
  go := fun i H' μ' st x s _ hi => by
    have hl := r.length
    exact ⟨vs, vs[i], x.tup _ _ h, List.getElem?_eq_getElem (by omega)⟩
  yld := fun i d H' μ' st v H'' x s _ e y => by
    obtain ⟨rfl, y⟩ := y
    obtain ⟨v', e', rv⟩ := r.get e
    have q := y vs (x.tup _ _ h)
    rw [e'] at q
    cases q
    exact ⟨Ext.refl, s, rv.up x⟩
  stop := fun i H' μ' st x s _ hi => ⟨vs, x.tup _ _ h, by rw [r.length]; exact Nat.le_of_eq hi⟩
theorem itOk_list {K : PySem.W.Frag} {H : Hp} {μ : Nat → Addr} {n h : Nat} {xs : List D} (hk : h < n) : ItOk K H μ n (Itl K (μ h)) xs (some (h, xs)) where
  go := fun i H' μ' st x s c hi => by
    obtain ⟨vs, q, r⟩ := s.sq (c h _ rfl)
    rw [x.eq h hk] at q
    have hl := r.length
    exact ⟨vs, vs[i], q, List.getElem?_eq_getElem (by omega)⟩
  yld := fun i d H' μ' st v H'' x s c e y => by
    obtain ⟨rfl, y⟩ := y
    obtain ⟨vs, q, r⟩ := s.sq (c h _ rfl)
    rw [x.eq h hk] at q
    obtain ⟨v', e', rv⟩ := r.get e
    have z := y vs q
    rw [e'] at z
    cases z
    exact ⟨Ext.refl, s, rv⟩
  stop := fun i H' μ' st x s c hi => by
    obtain ⟨vs, q, r⟩ := s.sq (c h _ rfl)
    rw [x.eq h hk] at q
    exact ⟨vs, q, by rw [r.length]; exact Nat.le_of_eq hi⟩
theorem itOk_range {K : PySem.W.Frag} {H : Hp} {μ : Nat → Addr} {n : Nat} {lo : Int} {m : Nat} : ItOk K H μ n (Itr lo m) (rngD lo m) none where
  go := fun i H' μ' st x s _ hi => by rw [rngD_length] at hi; exact hi
  yld := fun i d H' μ' st v H'' x s _ e y => by
    obtain ⟨rfl, rfl⟩ := y
    rw [rngD_get _ _ _ _ e]
    exact ⟨Ext.refl, s, .int _⟩
  stop := fun i H' μ' st x s _ hi => by rw [rngD_length] at hi; exact Nat.le_of_eq hi
theorem ei_list (hl : PEv X l A) : PIv X tg l (iSeqL A) := by
  refine PI.imp (pi_list hl) fun σ H R h => ?_
  obtain ⟨μ, ρ, st, xs, chk, st', hr, s, e, c, q⟩ := h
  unfold iSeqL at e
  obtain ⟨⟨p1, p2⟩, e1, e⟩ := Option.bind_eq_some_iff.mp e
  dsimp only at e
  split at e
  · rename_i h
    obtain ⟨ys, e2, e⟩ := Option.bind_eq_some_iff.mp e
    cases e
    refine ⟨μ, ρ, st, _, st', hr, s, e1, fun v μ1 H1 x1 s1 r1 => ?_⟩
    obtain ⟨rfl, hk⟩ := rep_lst r1
    obtain ⟨vs, q1, q2⟩ := s1.sq e2
    exact ⟨_, rfl, ⟨vs, q1⟩, q _ μ1 H1 x1 s1 (itOk_list hk)⟩
  · cases e
theorem ei_tup (hl : PEv X l A) : PIv X tg l (iSeqT A) := by
  refine PI.imp (pi_tup hl) fun σ H R h => ?_
  obtain ⟨μ, ρ, st, xs, chk, st', hr, s, e, c, q⟩ := h
  unfold iSeqT at e
  obtain ⟨⟨p1, p2⟩, e1, e⟩ := Option.bind_eq_some_iff.mp e
  dsimp only at e
  split at e
  · cases e
    refine ⟨μ, ρ, st, _, st', hr, s, e1, fun v μ1 H1 x1 s1 r1 => ?_⟩
    cases r1 with
    | tup h1 h2 =>
      exact ⟨_, rfl, ⟨_, h1⟩, q _ μ1 H1 x1 s1 (itOk_tup h1 h2)⟩
  · cases e
theorem ei_range1 {a : Expr} {R : SA} {p pos : Pos} (hm : X.mg "range" = none) (ha : PAv X [a] R) (hg : Gl X "range" := by rfl) (hs : starEach [a] X.env = [(false, eval a X.env)] := by rfl) : PIv X tg (.Call (.Name "range" p) [a] [] pos) (iRange R) := by
  refine PI.imp (pi_range1 hg hm ha hs) fun σ H R h => ?_
  obtain ⟨μ, ρ, st, xs, chk, st', hr, s, e, c, q⟩ := h
  unfold iRange at e
  obtain ⟨⟨p1, p2⟩, e1, e⟩ := Option.bind_eq_some_iff.mp e
  dsimp only at e
  split at e
  · split at e
    · rename_i hj
      cases e
      refine ⟨μ, ρ, st, _, st', hr, s, e1, fun v μ1 H1 x1 s1 r1 => ?_⟩
      cases r1 with
      | cons r1 r2 =>
        cases r2
        cases r1
        exact ⟨_, rfl, hj.1, hj.2, q _ μ1 H1 x1 s1 itOk_range⟩
    · cases e
  · cases e
theorem ei_range2 {a b : Expr} {R : SA} {p pos : Pos} (hm : X.mg "range" = none) (ha : PAv X [a, b] R) (hg : Gl X "range" := by rfl) (hs : starEach [a, b] X.env = [(false, eval a X.env), (false, eval b X.env)] := by rfl) (hs2 : starEach [b] X.env = [(false, eval b X.env)] := by rfl) : PIv X tg (.Call (.Name "range" p) [a, b] [] pos) (iRange2 R) := by
  refine PI.imp (pi_range2 hg hm ha hs hs2) fun σ H R h => ?_
  obtain ⟨μ, ρ, st, xs, chk, st', hr, s, e, c, q⟩ := h
  unfold iRange2 at e
  obtain ⟨⟨p1, p2⟩, e1, e⟩ := Option.bind_eq_some_iff.mp e
  dsimp only at e
  split at e
  · split at e
    · rename_i hj
      cases e
      refine ⟨μ, ρ, st, _, st', hr, s, e1, fun v μ1 H1 x1 s1 r1 => ?_⟩
      cases r1 with
      | cons r1 r2 =>
        cases r2 with
        | cons r2 r3 =>
          cases r3
          cases r1
          cases r2
          exact ⟨_, _, rfl, ⟨hj.1.1, hj.1.2, hj.2.1, hj.2.2⟩, q _ μ1 H1 x1 s1 itOk_range⟩
    · cases e
  · cases e
end
inductive Fl where
  | nx (ρ : Rho) | rt (d : D) | bk (ρ : Rho) | ct (ρ : Rho)
abbrev SS := Rho → Store → Option (Fl × Store)
def EndsOk (K : PySem.W.Frag) (H : Hp) (μ : Nat → Addr) (n : Nat) (st' : Store) (E : Ends) : Fl → Prop
  | .nx ρ' => ∀ σ' μ' H', Ext K H μ n H' μ' st'.length → StOk K H' μ' st' → RepR K H' μ' st'.length σ' ρ' → E.nx σ' H'
  | .bk ρ' => ∀ σ' μ' H', Ext K H μ n H' μ' st'.length → StOk K H' μ' st' → RepR K H' μ' st'.length σ' ρ' → E.bk σ' H'
  | .ct ρ' => ∀ σ' μ' H', Ext K H μ n H' μ' st'.length → StOk K H' μ' st' → RepR K H' μ' st'.length σ' ρ' → E.ct σ' H'
  | .rt d => Post K H μ n d st' E.rt
def tEvS (K : PySem.W.Frag) (S : SS) : TS := fun E σ H => ∃ μ ρ st o st', RepR K H μ st.length σ ρ ∧ StOk K H μ st ∧ S ρ st = some (o, st') ∧ EndsOk K H μ st.length st' E o
def PSv (X : Cx) (s : Stmt) (S : SS) : Prop := PS X s (tEvS X.K S)
def PSsv (X : Cx) (s : List Stmt) (S : SS) : Prop := PSs X s (tEvS X.K S)
theorem PS.imp {X : Cx} {s : Stmt} {t t' : TS} (h : PS X s t) (m : ∀ E σ H, t' E σ H → t E σ H) : PS X s t' := fun pins s σ H Q I q => h pins s σ H Q I (m Q σ H q)
theorem PSs.imp {X : Cx} {s : List Stmt} {t t' : TS} (h : PSs X s t) (m : ∀ E σ H, t' E σ H → t E σ H) : PSs X s t' := fun pins s σ H Q I q => h pins s σ H Q I (m Q σ H q)
theorem EndsOk.up {K : PySem.W.Frag} {H H1 : Hp} {μ μ1 : Nat → Addr} {n n1 : Nat} {st' : Store} {E : Ends} {o : Fl} (x : Ext K H μ n H1 μ1 n1) (h : EndsOk K H μ n st' E o) : EndsOk K H1 μ1 n1 st' E o := by
  cases o with
  | nx ρ => exact fun σ' μ' H' x' => h σ' μ' H' (x.trans x')
  | bk ρ => exact fun σ' μ' H' x' => h σ' μ' H' (x.trans x')
  | ct ρ => exact fun σ' μ' H' x' => h σ' μ' H' (x.trans x')
  | rt d => exact fun v μ' H' x' => h v μ' H' (x.trans x')
def kNext : SS := fun ρ st => some (.nx ρ, st)
def kSeq (S T : SS) : SS := fun ρ st => (S ρ st).bind fun p => match p.1 with | .nx ρ' => T ρ' p.2 | o => some (o, p.2)
def kDrop (A : SE) : SS := fun ρ st => (A ρ st).bind fun p => some (.nx ρ, p.2)
def kRet (A : SE) : SS := fun ρ st => (A ρ st).bind fun p => some (.rt p.1, p.2)
def kIf (C : SB) (S T : SS) : SS := fun ρ st => (C ρ st).bind fun p => if p.1 = true then S ρ p.2 else T ρ p.2
def kAsg (A : SE) (G : SG) : SS := fun ρ st => (A ρ st).bind fun p => (G p.1 ρ).bind fun ρ' => some (.nx ρ', p.2)
def kBrk : SS := fun ρ st => some (.bk ρ, st)
def kCnt : SS := fun ρ st => some (.ct ρ, st)
section
variable {X : Cx} {pos : Pos} {s : Stmt} {r a b : List Stmt} {S T : SS} {e : Expr} {A : SE} {C : SB}
theorem ess_nil : PSsv X [] kNext := by
  refine PSs.imp pss_nil fun E σ H h => ?_
  obtain ⟨μ, ρ, st, o, st', hr, s, e, q⟩ := h
  cases e
  exact q σ μ H Ext.refl s hr
theorem ess_cons (h1 : PSv X s S) (h2 : PSsv X r T) : PSsv X (s :: r) (kSeq S T) := by
  refine PSs.imp (pss_cons h1 h2) fun E σ H h => ?_
  obtain ⟨μ, ρ, st, o, st', hr, s, e, q⟩ := h
  unfold kSeq at e
  obtain ⟨⟨p1, p2⟩, e1, e⟩ := Option.bind_eq_some_iff.mp e
  refine ⟨μ, ρ, st, p1, p2, hr, s, e1, ?_⟩
  cases p1 with
  | nx ρ1 => exact fun σ1 μ1 H1 x1 s1 r1 => ⟨μ1, ρ1, p2, o, st', r1, s1, e, q.up x1⟩
  | rt d => cases e; exact q
  | bk ρ1 => cases e; exact q
  | ct ρ1 => cases e; exact q
theorem ess_one (h1 : PSv X s S) : PSsv X [s] S := pss_one h1
theorem es_expr (he : PEv X e A) (hs : swapsWith e none pos.line X.env = pure false := by rfl) : PSv X (.Expr e pos) (kDrop A) := by
  refine PS.imp (ps_expr he hs) fun E σ H h => ?_
  obtain ⟨μ, ρ, st, o, st', hr, s, e, q⟩ := h
  unfold kDrop at e
  obtain ⟨p, e1, e⟩ := Option.bind_eq_some_iff.mp e
  cases e
  exact ⟨μ, ρ, st, p.1, p.2, hr, s, e1, fun v μ1 H1 x1 s1 r1 => q σ μ1 H1 x1 s1 (hr.up x1)⟩
theorem es_ret (he : PEv X e A) : PSv X (.Return (some e) pos) (kRet A) := by
  refine PS.imp (ps_ret he) fun E σ H h => ?_
  obtain ⟨μ, ρ, st, o, st', hr, s, e, q⟩ := h
  unfold kRet at e
  obtain ⟨p, e1, e⟩ := Option.bind_eq_some_iff.mp e
  cases e
  exact ⟨μ, ρ, st, p.1, p.2, hr, s, e1, q⟩
theorem es_if {c : Expr} (hc : PTv X c C) (ha : PSsv X a S) (hb : PSsv X b T) : PSv X (.If c a b pos) (kIf C S T) := by
  refine PS.imp (ps_if hc ha hb) fun E σ H h => ?_
  obtain ⟨μ, ρ, st, o, st', hr, s, e, q⟩ := h
  unfold kIf at e
  obtain ⟨p, e1, e⟩ := Option.bind_eq_some_iff.mp e
  refine ⟨μ, ρ, st, p.1, p.2, hr, s, e1, fun μ1 H1 x1 s1 => ?_⟩
  split at e
  · rename_i hp
    rw [if_pos hp]
    exact ⟨μ1, ρ, p.2, o, st', hr.up x1, s1, e, q.up x1⟩
  · rename_i hp
    rw [if_neg hp]
    exact ⟨μ1, ρ, p.2, o, st', hr.up x1, s1, e, q.up x1⟩
theorem tAsg_ok {g : TG} {G : SG} {vs : List Nat} (hG : GOk X.K g G vs) (E : Ends) (σ : St) (H : Hp) (h : tEvS X.K (kAsg A G) E σ H) : tAsg (tEv X.K A) g E σ H := by
  obtain ⟨μ, ρ, st, o, st', hr, s, e, q⟩ := h
  unfold kAsg at e
  obtain ⟨p, e1, e⟩ := Option.bind_eq_some_iff.mp e
  obtain ⟨ρ', e2, e⟩ := Option.bind_eq_some_iff.mp e
  cases e
  refine ⟨μ, ρ, st, p.1, p.2, hr, s, e1, fun v μ1 H1 x1 s1 r1 => ?_⟩
  exact hG v p.1 σ ρ ρ' H1 μ1 p.2.length _ (hr.up x1) r1 e2 fun σ' _ rr => q σ' μ1 H1 x1 s1 rr
theorem es_set (i : Nat) {x : Str} {pos' : Pos} (hN : X.N.Nodup) (he : PEv X e A) (hi : X.N[i]? = some x := by rfl) (hx : Loc X.env.scope x := by first | exact Or.inl rfl | exact Or.inr rfl) (hs : swapsWith e (some (.Name x pos')) pos.line X.env = pure false := by rfl) (hf : X.fn x = true ∨ X.env.scope.names.lookup x = some .local := by first | exact .inl rfl | exact .inr rfl | assumption) :
    PSv X (.Assign [.Name x pos'] e pos) (kAsg A (gN i)) := PS.imp (ps_set hN hi hx he hs hf) (tAsg_ok (vs := [i]) (gok_name (by simp)))
theorem es_asg {tg : Expr} {g : TG} {G : SG} {vs : List Nat} (he : PEv X e A) (hg : PG X tg g) (hG : GOk X.K g G vs) (hs : swapsWithSole [tg] e pos.line X.env = pure false := by rfl) (hw : swappedStores [tg] e X.env = pure none := by rfl)
    (h1 : (assignEach [tg] X.env).map (·.2) = [assign tg X.env] := by rfl) : PSv X (.Assign [tg] e pos) (kAsg A G) := PS.imp (ps_asg he hg hs hw h1) (tAsg_ok hG)
end
def kPut (A O I : SE) : SS := fun ρ st => (A ρ st).bind fun p => (O ρ p.2).bind fun q => (I ρ q.2).bind fun r => match q.1, r.1 with
  | .lst h, .int i => (r.2[h]?).bind fun xs => (ixN xs.length i).bind fun j => if 0 < h then some (.nx ρ, r.2.set h (xs.set j p.1)) else none
  | _, _ => none
section
variable {X : Cx} {pos : Pos} {o i e : Expr} {A O I : SE}
theorem es_put {pos' : Pos} (he : PEv X e A) (ho : PEv X o O) (hi : PEv X i I)
    (ha : ∀ v, assign (.Subscript o i pos') X.env v = (do
      let ov ← holding [v] (eval o X.env)
      let iv ← holding [v, ov] (eval i X.env)
      standAt pos'
      holding [v, ov, iv] (setItem ov iv v)
      release [v, ov, iv] []) := by intro _; rfl)
    (hs : swapsWithSole [.Subscript o i pos'] e pos.line X.env = pure false := by rfl) (hw : swappedStores [.Subscript o i pos'] e X.env = pure none := by rfl)
    (h1 : (assignEach [.Subscript o i pos'] X.env).map (·.2) = [assign (.Subscript o i pos') X.env] := by rfl) : PSv X (.Assign [.Subscript o i pos'] e pos) (kPut A O I) := by
  refine PS.imp (ps_asg he (pg_sub ho hi set_list ha) hs hw h1) fun E σ H h => ?_
  obtain ⟨μ, ρ, st, f, st', hr, s, e, q⟩ := h
  unfold kPut at e
  obtain ⟨p, e1, e⟩ := Option.bind_eq_some_iff.mp e
  obtain ⟨⟨q1, q2⟩, e2, e⟩ := Option.bind_eq_some_iff.mp e
  obtain ⟨⟨r1, r2⟩, e3, e⟩ := Option.bind_eq_some_iff.mp e
  dsimp only at e
  split at e
  · rename_i h k _
    obtain ⟨xs, e4, e⟩ := Option.bind_eq_some_iff.mp e
    obtain ⟨j, e5, e⟩ := Option.bind_eq_some_iff.mp e
    split at e
    · rename_i h0
      cases e
      refine ⟨μ, ρ, st, p.1, p.2, hr, s, e1, fun v μ1 H1 x1 s1 v1 => ?_⟩
      refine ⟨μ1, ρ, p.2, _, q2, hr.up x1, s1, e2, fun w μ2 H2 x2 s2 v2 => ?_⟩
      refine ⟨μ2, ρ, q2, _, r2, (hr.up x1).up x2, s2, e3, fun u μ3 H3 x3 s3 v3 => ?_⟩
      obtain ⟨rfl, hk⟩ := rep_lst v2
      cases v3
      obtain ⟨vs, hv, rv⟩ := s3.at h0 e4
      rw [← x3.eq h hk]
      refine ⟨μ3 h, vs, k, j, rfl, rfl, hv, by rw [rv.length]; exact e5, ?_⟩
      have rs : RepL X.K H3 μ3 r2.length (vs.set j v) (xs.set j p.1) := rv.set j ((v1.up x2).up x3)
      have xx : Ext X.K H μ st.length (upd H3 (μ3 h) (.lst (vs.set j v))) μ3 (r2.set h (xs.set j p.1)).length := by
        rw [List.length_set]; exact ((x1.trans x2).trans x3).trans (Ext.put (vs := vs) s3 h0 e4)
      exact q σ μ3 _ xx (s3.put h0 e4 rs) (hr.up xx)
    · cases e
  · cases e
end
end Ev
namespace Ev
open PySem PySem.Spec PyProof.Rows L2
open Classical in
noncomputable def forGo (chk : Option (Nat × List D)) (all : List D) (G : SG) (B : SS) : List D → Rho → Store → Option (Fl × Store)
  | [], ρ, st => if Still chk all st then some (.nx ρ, st) else none
  | x :: r, ρ, st => if Still chk all st then (G x ρ).bind fun ρ1 => (B ρ1 st).bind fun p => match p.1 with
      | .nx ρ2 => forGo chk all G B r ρ2 p.2
      | .ct ρ2 => forGo chk all G B r ρ2 p.2
      | .bk ρ2 => some (.nx ρ2, p.2)
      | .rt d => some (.rt d, p.2)
    else none
noncomputable def kFor (I : SI) (G : SG) (B : SS) : SS := fun ρ st => (I ρ st).bind fun p => forGo p.1.2 p.1.1 G B p.1.1 ρ p.2
section
variable {X : Cx} {pos : Pos} {tg iter : Expr} {body : List Stmt} {I : SI} {g : TG} {G : SG} {vs : List Nat} {B : SS}
theorem es_for (hc : X.calm = true) (hi : PIv X tg iter I) (hg : PG X tg g) (hG : GOk X.K g G vs) (hb : PSsv X body B) (hp : PassesOwn (model X.prog X.w) X.A X.env X.xe := by exact PassesOwn.never)
    (hs : ∀ x, foldedSetIterable iter X.env x = pure x := by intro _; rfl) : PSv X (.For tg iter body [] pos) (kFor I G B) := by
  refine PS.imp (ps_for hp hc hi hg hb hs) fun E σ H h => ?_
  obtain ⟨μ, ρ, st, o, st', hr, s, e, q⟩ := h
  unfold kFor at e
  obtain ⟨⟨⟨xs, chk⟩, st1⟩, e1, e⟩ := Option.bind_eq_some_iff.mp e
  dsimp only at e
  have still : Still chk xs st1 := by
    cases xs with
    | nil =>
      unfold forGo at e
      split at e
      · assumption
      · cases e
    | cons x r =>
      unfold forGo at e
      split at e
      · assumption
      · cases e
  refine ⟨μ, ρ, st, xs, chk, st1, hr, s, e1, still, fun J μ1 H1 x1 s1 J1 => ?_⟩
  refine ⟨fun i m σ' H' => ∃ μ' ρ' sti, m = xs.length - i ∧ i ≤ xs.length ∧ RepR X.K H' μ' sti.length σ' ρ' ∧ StOk X.K H' μ' sti ∧ Ext X.K H1 μ1 st1.length H' μ' sti.length ∧ forGo chk xs G B (xs.drop i) ρ' sti = some (o, st'),
    ⟨xs.length, μ1, ρ, st1, by simp, Nat.zero_le _, hr.up x1, s1, Ext.refl, by simpa using e⟩, ?_⟩
  rintro i m σ' H' ⟨μ', ρ', sti, rfl, hi', r', s', x', e'⟩
  by_cases hlt : i < xs.length
  · rw [List.drop_eq_getElem_cons hlt] at e'
    unfold forGo at e'
    split at e'
    · rename_i sti'
      obtain ⟨ρ1, eG, e'⟩ := Option.bind_eq_some_iff.mp e'
      obtain ⟨⟨p1, p2⟩, eB, e'⟩ := Option.bind_eq_some_iff.mp e'
      refine .inr ⟨J1.go i H' μ' sti x' s' sti' hlt, _, fun σ2 H2 n2 => ⟨xs.length - (i + 1), by omega, n2⟩, fun v H2 y => ?_⟩
      obtain ⟨x2, s2, rv⟩ := J1.yld i _ H' μ' sti v H2 x' s' sti' (List.getElem?_eq_getElem hlt) y
      refine hG v _ σ' ρ' ρ1 H2 μ' sti.length _ (r'.up x2) rv eG fun σ2 _ rr => ?_
      refine ⟨μ', ρ1, sti, p1, p2, rr, s2, eB, ?_⟩
      cases p1 with
      | nx ρ2 => exact fun σ3 μ3 H3 x3 s3 r3 => ⟨μ3, ρ2, p2, rfl, hlt, r3, s3, (x'.trans x2).trans x3, e'⟩
      | ct ρ2 => exact fun σ3 μ3 H3 x3 s3 r3 => ⟨μ3, ρ2, p2, rfl, hlt, r3, s3, (x'.trans x2).trans x3, e'⟩
      | bk ρ2 =>
        cases e'
        exact fun σ3 μ3 H3 x3 s3 r3 => q σ3 μ3 H3 (((x1.trans x').trans x2).trans x3) s3 r3
      | rt d =>
        cases e'
        exact fun v3 μ3 H3 x3 s3 r3 => q v3 μ3 H3 (((x1.trans x').trans x2).trans x3) s3 r3
    · cases e'
  · have ei : i = xs.length := by omega
    subst ei
    rw [List.drop_length] at e'
    unfold forGo at e'
    split at e'
    · rename_i sti'
      cases e'
      exact .inl ⟨J1.stop _ H' μ' _ x' s' sti' rfl, q σ' μ' H' (x1.trans x') s' r'⟩
    · cases e'
end
def whGo (C : SB) (B : SS) : Nat → Rho → Store → Option (Fl × Store)
  | 0, _, _ => none
  | n + 1, ρ, st => (C ρ st).bind fun p => if p.1 = true then (B ρ p.2).bind fun q => match q.1 with
      | .nx ρ2 => whGo C B n ρ2 q.2
      | .ct ρ2 => whGo C B n ρ2 q.2
      | .bk ρ2 => some (.nx ρ2, q.2)
      | .rt d => some (.rt d, q.2)
    else some (.nx ρ, p.2)
def kWhile (n : Nat) (C : SB) (B : SS) : SS := whGo C B n
section
variable {X : Cx} {pos : Pos} {c : Expr} {body : List Stmt} {C : SB} {B : SS}
theorem es_while (n : Nat) (hc : PTv X c C) (hb : PSsv X body B) (hp : PassesOwn (model X.prog X.w) X.A X.env X.xe := by exact PassesOwn.never) : PSv X (.While c body [] pos) (kWhile n C B) := by
  refine PS.imp (ps_while hp hc hb) fun E σ H h => ?_
  obtain ⟨μ, ρ, st, o, st', hr, s, e, q⟩ := h
  refine ⟨fun m σ' H' => ∃ μ' ρ' sti, RepR X.K H' μ' sti.length σ' ρ' ∧ StOk X.K H' μ' sti ∧ Ext X.K H μ st.length H' μ' sti.length ∧ whGo C B m ρ' sti = some (o, st'), ⟨n, μ, ρ, st, hr, s, Ext.refl, e⟩, ?_⟩
  rintro m σ' H' ⟨μ', ρ', sti, r', s', x', e'⟩
  cases m with
  | zero => cases e'
  | succ m =>
    unfold whGo at e'
    obtain ⟨p, eC, e'⟩ := Option.bind_eq_some_iff.mp e'
    refine ⟨μ', ρ', sti, p.1, p.2, r', s', eC, fun μ1 H1 x1 s1 => ?_⟩
    split at e'
    · rename_i hp
      rw [if_pos hp]
      obtain ⟨⟨p1, p2⟩, eB, e'⟩ := Option.bind_eq_some_iff.mp e'
      refine ⟨_, fun σ2 H2 n2 => ⟨m, Nat.lt_succ_self _, n2⟩, μ1, ρ', p.2, p1, p2, r'.up x1, s1, eB, ?_⟩
      cases p1 with
      | nx ρ2 => exact fun σ3 μ3 H3 x3 s3 r3 => ⟨μ3, ρ2, p2, r3, s3, (x'.trans x1).trans x3, e'⟩
      | ct ρ2 => exact fun σ3 μ3 H3 x3 s3 r3 => ⟨μ3, ρ2, p2, r3, s3, (x'.trans x1).trans x3, e'⟩
      | bk ρ2 =>
        cases e'
        exact fun σ3 μ3 H3 x3 s3 r3 => q σ3 μ3 H3 ((x'.trans x1).trans x3) s3 r3
      | rt d =>
        cases e'
        exact fun v3 μ3 H3 x3 s3 r3 => q v3 μ3 H3 ((x'.trans x1).trans x3) s3 r3
    · rename_i hp
      rw [if_neg hp]
      cases e'
      exact q σ' μ1 H1 (x'.trans x1) s1 (r'.up x1)
end
theorem wipe_wipe {σ : L2.St} : ∀ (vs : List Nat), wipe (wipe σ vs) vs = wipe σ vs := by
  have out : ∀ (vs : List Nat) (σ : L2.St) (v : Nat) (x : Option V), v ∉ vs → wipe (σ.set v x) vs = (wipe σ vs).set v x := by
    intro ws
    induction ws with
    | nil => intro _ _ _ _; rfl
    | cons w ws ih =>
      intro σ v x hw
      have h1 : w ≠ v := fun z => hw (by rw [z]; exact List.mem_cons_self)
      have h2 : v ∉ ws := fun z => hw (List.mem_cons_of_mem _ z)
      unfold wipe
      rw [ih σ v x h2, List.set_comm _ _ (Ne.symm h1)]
  intro vs
  induction vs with
  | nil => rfl
  | cons v vs ih =>
    show (wipe ((wipe σ vs).set v none) vs).set v none = (wipe σ vs).set v none
    by_cases m : v ∈ vs
    · rw [wipe_set m, ih]
    · rw [out vs _ v _ m, ih, List.set_set]
theorem RepR.wipe {K : PySem.W.Frag} {H : Hp} {μ : Nat → Addr} {n : Nat} {σ : L2.St} {ρ : Rho} (h : RepR K H μ n σ ρ) : ∀ vs : List Nat, RepR K H μ n (L2.wipe σ vs) (wipeD ρ vs)
  | [] => h
  | v :: vs => by
    have ih := RepR.wipe h vs
    unfold L2.wipe wipeD
    refine ⟨by simp [ih.len], fun i d e => ?_⟩
    by_cases z : v = i
    · subst z
      by_cases hv : v < (wipeD ρ vs).length
      · rw [List.getElem?_set_self hv] at e; cases e
      · rw [List.getElem?_eq_none (by simpa using hv)] at e; cases e
    · rw [List.getElem?_set_ne z] at e
      obtain ⟨v', a, b⟩ := ih.get i d e
      exact ⟨v', by rw [List.getElem?_set_ne z]; exact a, b⟩
open Classical in
noncomputable def lcGo (chk : Option (Nat × List D)) (all : List D) (G : SG) (T : SB) (A : SE) (k : Nat) (ρ : Rho) : List D → Store → Option Store
  | [], st => if Still chk all st then some st else none
  | x :: r, st => if Still chk all st then (G x ρ).bind fun ρ1 => (T ρ1 st).bind fun p => if p.1 = true then (A ρ1 p.2).bind fun q => (q.2[k]?).bind fun acc => if acc.length < sizeLine then lcGo chk all G T A k ρ r (q.2.set k (acc ++ [q.1])) else none
      else lcGo chk all G T A k ρ r p.2
    else none
open Classical in
noncomputable def sLc (I : SI) (G : SG) (T : SB) (A : SE) (vs : List Nat) : SE := fun ρ st => (I ρ st).bind fun p => if Still p.1.2 p.1.1 p.2 then (lcGo p.1.2 p.1.1 G T A p.2.length (wipeD ρ vs) p.1.1 (p.2 ++ [[]])).bind fun st' => some (.lst p.2.length, st') else none
def bYes : SB := fun _ st => some (true, st)
def PTsv (X : Cx) (ifs : List Expr) (T : SB) : Prop := PTs X ifs (tEvT X.K T)
section
variable {X : Cx}
theorem ets_nil : PTsv X [] bYes := fun pins s σ H Q I h => pts_nil pins s σ H Q I (by
  obtain ⟨μ, ρ, st, d, st', hr, s, e, q⟩ := h
  cases e
  exact q μ H Ext.refl s)
theorem ets_one {c : Expr} {T : SB} (h : PTv X c T) : PTsv X [c] T := pts_one h
theorem tLc_ok {I : SI} {g : TG} {G : SG} {T : SB} {A : SE} {vs : List Nat} (hG : GOk X.K g G vs) (σ : L2.St) (H : Hp) (Q : VK) (h : tEv X.K (sLc I G T A vs) σ H Q) : tLc (tEvI X.K I) g (tEvT X.K T) (tEv X.K A) vs σ H Q := by
  obtain ⟨μ, ρ, st, d, st', hr, s, e, q⟩ := h
  unfold sLc at e
  obtain ⟨⟨⟨xs, chk⟩, st1⟩, e1, e⟩ := Option.bind_eq_some_iff.mp e
  dsimp only at e
  split at e
  case isFalse => cases e
  rename_i still
  obtain ⟨st2, e2, e⟩ := Option.bind_eq_some_iff.mp e
  cases e
  refine ⟨μ, ρ, st, xs, chk, st1, hr, s, e1, still, fun J μ1 H1 x1 s1 J1 L hL => ?_⟩
  have k0 : 0 < st1.length := s1.pos
  have sD : StOk X.K (upd H1 L (.lst [])) (grow μ1 st1.length L) (st1 ++ [[]]) := s1.grow hL .nil
  have xD : Ext X.K H1 μ1 st1.length (upd H1 L (.lst [])) (grow μ1 st1.length L) (st1 ++ [[]]).length := by
    rw [List.length_append]; exact Ext.grow hL
  have kl : st1.length < (st1 ++ [[]] : Store).length := by rw [List.length_append]; exact Nat.lt_succ_self _
  have atL : ∀ {H' : Hp} {μ' : Nat → Addr} {n' : Nat}, Ext X.K (upd H1 L (.lst [])) (grow μ1 st1.length L) (st1 ++ [[]]).length H' μ' n' → μ' st1.length = L := fun x => (x.eq _ kl).trans grow_at
  refine ⟨fun i m H' => ∃ μ' sti, m = xs.length - i ∧ i ≤ xs.length ∧ StOk X.K H' μ' sti ∧ Ext X.K (upd H1 L (.lst [])) (grow μ1 st1.length L) (st1 ++ [[]]).length H' μ' sti.length ∧ lcGo chk xs G T A st1.length (wipeD ρ vs) (xs.drop i) sti = some st',
    ⟨xs.length, _, _, by simp, Nat.zero_le _, sD, Ext.refl, by simpa using e2⟩, ?_⟩
  rintro i m H' ⟨μ', sti, rfl, hi', s', x', e'⟩
  by_cases hlt : i < xs.length
  · rw [List.drop_eq_getElem_cons hlt] at e'
    unfold lcGo at e'
    split at e'
    · rename_i sti'
      obtain ⟨ρ1, eG, e'⟩ := Option.bind_eq_some_iff.mp e'
      obtain ⟨p, eT, e'⟩ := Option.bind_eq_some_iff.mp e'
      refine .inr ⟨J1.go i H' μ' sti (xD.trans x') s' sti' hlt, _, fun H2 n2 => ⟨xs.length - (i + 1), by omega, n2⟩, fun v H2 y => ?_⟩
      obtain ⟨x2, s2, rv⟩ := J1.yld i _ H' μ' sti v H2 (xD.trans x') s' sti' (List.getElem?_eq_getElem hlt) y
      refine hG v _ (wipe σ vs) (wipeD ρ vs) ρ1 H2 μ' sti.length _ (((((hr.up x1).up xD).up x').up x2).wipe vs) rv eG fun σ2 w2 rr => ⟨w2.trans (wipe_wipe vs), ?_⟩
      refine ⟨μ', ρ1, sti, p.1, p.2, rr, s2, eT, fun μ3 H3 x3 s3 => ?_⟩
      split at e'
      · rename_i hp
        rw [if_pos hp]
        obtain ⟨q1, eA, e'⟩ := Option.bind_eq_some_iff.mp e'
        obtain ⟨acc, eK, e'⟩ := Option.bind_eq_some_iff.mp e'
        split at e'
        · rename_i hz
          refine ⟨μ3, ρ1, p.2, q1.1, q1.2, rr.up x3, s3, eA, fun w μ4 H4 x4 s4 r4 => ?_⟩
          obtain ⟨ws, hw, rw'⟩ := s4.at k0 eK
          have aL : μ4 st1.length = L := atL (((x'.trans x2).trans x3).trans x4)
          have sP := s4.put k0 eK (rw'.append (.cons r4 .nil))
          have xP : Ext X.K H4 μ4 q1.2.length (upd H4 (μ4 st1.length) (.lst (ws ++ [w]))) μ4 q1.2.length := Ext.put (vs := ws) s4 k0 eK
          rw [aL] at hw sP xP
          refine ⟨ws, hw, by rw [rw'.length]; exact hz, μ4, _, rfl, hlt, sP, ?_, e'⟩
          rw [List.length_set]
          exact (((x'.trans x2).trans x3).trans x4).trans xP
        · cases e'
      · rename_i hp
        rw [if_neg hp]
        exact ⟨μ3, p.2, rfl, hlt, s3, (x'.trans x2).trans x3, e'⟩
    · cases e'
  · have ei : i = xs.length := by omega
    subst ei
    rw [List.drop_length] at e'
    unfold lcGo at e'
    split at e'
    · rename_i sti'
      cases e'
      refine .inl ⟨J1.stop _ H' μ' _ (xD.trans x') s' sti' rfl, ?_⟩
      refine q _ μ' H' ((x1.trans xD).trans x') s' ?_
      have z : Rep X.K H' μ' st'.length (.ref (μ' st1.length)) (.lst st1.length) := .lst (Nat.lt_of_lt_of_le kl x'.le)
      rw [atL x'] at z
      exact z
    · cases e'
theorem ev_lc {elt tg iter : Expr} {ifs : List Expr} {scope : Scope} {own : List (Str × Nat)} {pos : Pos} {I : SI} {g : TG} {G : SG} {T : SB} {A : SE} {vs : List Nat} (hc : X.calm = true) (hN : X.N.Nodup) (hi : PIv X tg iter I) (ok : BlkOk X.N X.env.scope scope own) (hv : own.map (·.2) = vs) (hG : GOk X.K g G vs)
    (hg : ∀ (s : Shared) (H : Hp) (C : Addr) (cl : List (Str × Addr)) (fp : List Addr), PG (X.blk s H scope (compEnvC scope cl C X.env) fp) tg g) (ht : ∀ (s : Shared) (H : Hp) (C : Addr) (cl : List (Str × Addr)) (fp : List Addr), PTsv (X.blk s H scope (compEnvC scope cl C X.env) fp) ifs T)
    (he : ∀ (s : Shared) (H : Hp) (C : Addr) (cl : List (Str × Addr)) (fp : List Addr), PEv (X.blk s H scope (compEnvC scope cl C X.env) fp) elt A) (hs : ∀ x, foldedSetIterable iter X.env x = pure x := by intro _; rfl) :
    PEv X (.ListComp elt [⟨tg, iter, ifs, 0⟩] scope pos) (sLc I G T A vs) := by
  subst hv
  exact PE.imp (pe_lc (tt := tEvT X.K T) (te := tEv X.K A) hc hN hi ok hg ht he hs) (tLc_ok hG)
theorem es_setLc (i : Nat) {y : Str} {py : Pos} {elt tg iter : Expr} {ifs : List Expr} {scope : Scope} {own : List (Str × Nat)} {pos spos : Pos} {I : SI} {g : TG} {G : SG} {T : SB} {A : SE} {vs : List Nat} (hc : X.calm = true) (hN : X.N.Nodup) (hi : PIv X tg iter I) (ok : BlkOk X.N X.env.scope scope own) (hv : own.map (·.2) = vs) (hG : GOk X.K g G vs)
    (hg : ∀ (s : Shared) (H : Hp) (C : Addr) (cl : List (Str × Addr)) (fp : List Addr), PG (X.blk s H scope (compEnvC scope cl C X.env) fp) tg g) (ht : ∀ (s : Shared) (H : Hp) (C : Addr) (cl : List (Str × Addr)) (fp : List Addr), PTsv (X.blk s H scope (compEnvC scope cl C X.env) fp) ifs T)
    (he : ∀ (s : Shared) (H : Hp) (C : Addr) (cl : List (Str × Addr)) (fp : List Addr), PEv (X.blk s H scope (compEnvC scope cl C X.env) fp) elt A)
    (hsw : swapsWith (.ListComp elt [⟨tg, iter, ifs, 0⟩] scope pos) (some (.Name y py)) spos.line X.env = pure true) (hy : X.N[i]? = some y := by rfl) (hyl : X.env.scope.names.lookup y = some .local := by rfl) (hs : ∀ x, foldedSetIterable iter X.env x = pure x := by intro _; rfl) :
    PSv X (.Assign [.Name y py] (.ListComp elt [⟨tg, iter, ifs, 0⟩] scope pos) spos) (kAsg (sLc I G T A vs) (gN i)) := by
  subst hv
  refine PS.imp (ps_setLc (tt := tEvT X.K T) (te := tEv X.K A) hc hN hy hyl hsw hi ok hg ht he hs) fun E σ H h => ?_
  obtain ⟨μ, ρ, st, o, st', hr, s, e, q⟩ := h
  unfold kAsg at e
  obtain ⟨p, e1, e⟩ := Option.bind_eq_some_iff.mp e
  obtain ⟨ρ', e2, e⟩ := Option.bind_eq_some_iff.mp e
  cases e
  cases e2
  refine tLc_ok hG σ H _ ⟨μ, ρ, st, p.1, p.2, hr, s, e1, fun v μ1 H1 x1 s1 r1 => ?_⟩
  exact q _ μ1 H1 x1 s1 ((hr.up x1).set r1 i)
end
def defF (N np : Nat) (B : SS) : FS := fun ds st => if ds.length = np then (B (ds.map some ++ List.replicate (N - ds.length) none) st).bind fun p => match p.1 with
  | .nx _ => some (.non, p.2)
  | .rt d => some (d, p.2)
  | _ => none
  else none
theorem repR_start {K : PySem.W.Frag} {H : Hp} {μ : Nat → Addr} {n : Nat} {vs : List V} {ds : List D} {N : List Str} (r : RepL K H μ n vs ds) : RepR K H μ n (L2.start N vs) (ds.map some ++ List.replicate (N.length - ds.length) none) := by
  unfold L2.start
  have hl := r.length
  refine ⟨by simp [hl], fun i d e => ?_⟩
  by_cases hi : i < ds.length
  · rw [List.getElem?_append_left (by simpa using hi), List.getElem?_map] at e
    obtain ⟨d', e1, e2⟩ := Option.map_eq_some_iff.mp e
    cases e2
    obtain ⟨v, q1, q2⟩ := r.get e1
    exact ⟨v, by rw [List.getElem?_append_left (by simpa [hl] using hi), List.getElem?_map, q1]; rfl, q2⟩
  · rw [List.getElem?_append_right (by simpa using hi), List.getElem?_replicate] at e
    split at e <;> cases e
theorem fn_ev {P : Program} {w : World} {K : PySem.W.Frag} {mg : Str → Option Value} {base : Heap} {x qual : Str} {st : Stmt} {f : Addr} {fd : FuncData} {N ps : List Str} {k : Nat} {B : SS} (F : Fun K x qual st f fd) (S : FnScope N ps (defScope st))
    (h : ∀ (cdv : Value) (A : Around) (outer : List Env) (s : Shared) (H : Hp) (E : XK), Room k (A.deeper (envOfC qual (defScope st) s.heap.objs.size f cdv)) → PSsv (cxOf CX0 P w K mg base N qual (defScope st) f cdv A outer s H E).nox (defBody st) B) :
    FnOk P w K mg base CX0 (k + 1) f fd ps (spOf K (defF N.length ps.length B)) := by
  refine F.ok S (fun vs H Q E q => ?_) (fun cdv A outer s H vs Q E hr q => ?_)
  · obtain ⟨μ, ds, st, d, st', r, s, e, _⟩ := q
    unfold defF at e
    split at e
    · rename_i hl; rw [r.length]; exact hl
    · cases e
  · obtain ⟨μ, ds, sto, d, st', r, s', e, q⟩ := q
    unfold defF at e
    split at e
    · obtain ⟨⟨p1, p2⟩, e1, e⟩ := Option.bind_eq_some_iff.mp e
      refine ⟨_, h cdv A outer s H E hr, μ, _, sto, p1, p2, repR_start r, s', e1, ?_⟩
      cases p1 with
      | nx ρ => cases e; exact fun σ' μ' H' x1 s1 _ => q _ μ' H' x1 s1 .non
      | rt d => cases e; exact q
      | bk ρ => cases e
      | ct ρ => cases e
    · cases e
end Ev
namespace Ev
open PySem PySem.Spec L2
abbrev F2 := D → D → Store → Option (D × Store)
section
variable {X : Cx}
theorem OpR.or {f : Value → Value → Sem Value} {r r' : R2} (h : OpR X f r) (h' : OpR X f r') : OpR X f (fun x y H Q => r x y H Q ∨ r' x y H Q) := by
  intro pins s σ H x y v u Q I rx ry q
  rcases q with q | q
  · exact h pins s σ H x y v u Q I rx ry q
  · exact h' pins s σ H x y v u Q I rx ry q
theorem CallR.or {f : Value} {r r' : List V → Hp → VK → Prop} (h : CallR X f r) (h' : CallR X f r') : CallR X f (fun xs H Q => r xs H Q ∨ r' xs H Q) := by
  intro pins s σ H xs us Q I rs q
  rcases q with q | q
  · exact h pins s σ H xs us Q I rs q
  · exact h' pins s σ H xs us Q I rs q
end
section
variable {K : PySem.W.Frag}
def fOr (f g : F2) : F2 := fun x y st => (f x y st).or (g x y st)
theorem Prim2.or {r r' : R2} {f g : F2} (hf : Prim2 K r f) (hg : Prim2 K r' g) : Prim2 K (fun x y H Q => r x y H Q ∨ r' x y H Q) (fOr f g) := by
  intro H μ st x y dx dy d st' Q s rx ry e q
  unfold fOr at e
  cases ef : f dx dy st with
  | some z =>
    rw [ef] at e
    cases e
    exact .inl (hf H μ st x y dx dy d st' Q s rx ry ef q)
  | none =>
    rw [ef] at e
    exact .inr (hg H μ st x y dx dy d st' Q s rx ry e q)
theorem rep_int {H : Hp} {μ : Nat → Addr} {n : Nat} {v : V} {i : Int} (r : Rep K H μ n v (.int i)) : v = .int i := by cases r; rfl
open Classical in
noncomputable def fI (C : Int → Int → Prop) (g : Int → Int → D) : F2 := fun x y st => match x, y with
  | .int i, .int j => if C i j then some (g i j, st) else none
  | _, _ => none
theorem fI_some {C : Int → Int → Prop} {g : Int → Int → D} {x y d : D} {st st' : Store} (e : fI C g x y st = some (d, st')) : ∃ i j, x = .int i ∧ y = .int j ∧ C i j ∧ d = g i j ∧ st' = st := by
  unfold fI at e
  split at e
  · split at e
    · cases e; exact ⟨_, _, rfl, rfl, by assumption, rfl, rfl⟩
    · cases e
  · cases e
theorem prim_I {C : Int → Int → Prop} {g : Int → Int → V} {g' : Int → Int → D} (hg : ∀ i j K H μ n, Rep K H μ n (g i j) (g' i j)) : Prim2 K (rI C g) (fI C g') := by
  intro H μ st x y dx dy d st' Q s rx ry e q
  obtain ⟨i, j, rfl, rfl, c, rfl, rfl⟩ := fI_some e
  exact ⟨i, j, rep_int rx, rep_int ry, c, q _ μ H Ext.refl s (hg i j _ _ _ _)⟩
theorem prim_I0 {g : Int → Int → V} {g' : Int → Int → D} (hg : ∀ i j K H μ n, Rep K H μ n (g i j) (g' i j)) : Prim2 K (rI0 g) (fI (fun _ _ => True) g') := by
  intro H μ st x y dx dy d st' Q s rx ry e q
  obtain ⟨i, j, rfl, rfl, c, rfl, rfl⟩ := fI_some e
  exact ⟨i, j, rep_int rx, rep_int ry, q _ μ H Ext.refl s (hg i j _ _ _ _)⟩
noncomputable abbrev fAddI : F2 := fI (fun _ _ => True) fun i j => .int (i + j)
noncomputable abbrev fSub : F2 := fI (fun _ _ => True) fun i j => .int (i - j)
noncomputable abbrev fMulI : F2 := fI CMul fun i j => .int (i * j)
noncomputable abbrev fMod : F2 := fI (fun _ j => j ≠ 0) fun i j => .int (i.fmod j)
noncomputable abbrev fDiv : F2 := fI CDivN fun i j => .int (i.fdiv j)
noncomputable abbrev fPow : F2 := fI CPow fun i j => .int (i ^ j.toNat)
noncomputable abbrev fLt : F2 := fI (fun _ _ => True) fun i j => .bl (decide (i < j))
noncomputable abbrev fLe : F2 := fI (fun _ _ => True) fun i j => .bl (decide (i ≤ j))
noncomputable abbrev fGt : F2 := fI (fun _ _ => True) fun i j => .bl (decide (j < i))
noncomputable abbrev fGe : F2 := fI (fun _ _ => True) fun i j => .bl (decide (j ≤ i))
def newL (xs : List D) (st : Store) : Option (D × Store) := if xs.length ≤ sizeLine then some (.lst st.length, st ++ [xs]) else none
theorem newL_ok {H : Hp} {μ : Nat → Addr} {st st' : Store} {d : D} {xs : List D} {vs : List V} {Q : VK} (s : StOk K H μ st) (r : RepL K H μ st.length vs xs) (e : newL xs st = some (d, st')) (q : Post K H μ st.length d st' Q) :
    xs.length ≤ sizeLine ∧ ∀ p, H p = none → Q (.ref p) (upd H p (.lst vs)) := by
  unfold newL at e
  split at e
  · rename_i hz
    cases e
    refine ⟨hz, fun p hp => ?_⟩
    have z : Rep K (upd H p (.lst vs)) (grow μ st.length p) (st ++ [xs]).length (.ref (grow μ st.length p st.length)) (.lst st.length) := .lst (by rw [List.length_append]; exact Nat.lt_succ_self _)
    rw [grow_at] at z
    exact q _ _ _ (by rw [List.length_append]; exact Ext.grow hp) (s.grow hp r) z
  · cases e
theorem newT_ok {H : Hp} {μ : Nat → Addr} {st : Store} {xs : List D} {vs : List V} {Q : VK} (s : StOk K H μ st) (r : RepL K H μ st.length vs xs) (q : Post K H μ st.length (.tup xs) st Q) (p : Addr) (hp : H p = none) : Q (.ref p) (upd H p (.tup vs)) :=
  q _ μ _ (Ext.new hp) (s.new hp) (.tup (SqT.of upd_same) (r.up (Ext.new hp)))
def fAddL : F2 := fun x y st => match x, y with
  | .lst a, .lst b => if 0 < a ∧ 0 < b then (st[a]?).bind fun xs => (st[b]?).bind fun ys => newL (xs ++ ys) st else none
  | _, _ => none
theorem prim_addL : Prim2 K rCat fAddL := by
  intro H μ st x y dx dy d st' Q s rx ry e q
  unfold fAddL at e
  split at e
  · split at e
    · rename_i h0
      obtain ⟨xs, e1, e⟩ := Option.bind_eq_some_iff.mp e
      obtain ⟨ys, e2, e⟩ := Option.bind_eq_some_iff.mp e
      obtain ⟨rfl, _⟩ := rep_lst rx
      obtain ⟨rfl, _⟩ := rep_lst ry
      obtain ⟨vs, h1, r1⟩ := s.at h0.1 e1
      obtain ⟨ws, h2, r2⟩ := s.at h0.2 e2
      obtain ⟨z, q'⟩ := newL_ok s (r1.append r2) e q
      exact ⟨_, _, vs, ws, rfl, rfl, h1, h2, by rw [r1.length, r2.length, ← List.length_append]; exact z, q'⟩
    · cases e
  · cases e
def fAddT : F2 := fun x y st => match x, y with
  | .tup xs, .tup ys => if xs ≠ [] ∧ xs.length + ys.length ≤ sizeLine then some (.tup (xs ++ ys), st) else none
  | _, _ => none
theorem prim_addT : Prim2 K (rCatT K) fAddT := by
  intro H μ st x y dx dy d st' Q s rx ry e q
  unfold fAddT at e
  split at e
  · split at e
    · rename_i h0
      cases e
      cases rx with
      | tup h1 r1 =>
        cases ry with
        | tup h2 r2 =>
          refine ⟨_, _, _, _, rfl, rfl, h1, h2, fun z => h0.1 (r1.nil_iff.mp z), by rw [r1.length, r2.length]; exact h0.2, fun z => ?_, fun z p hp => ?_⟩
          · have z' := r2.nil_iff.mp z
            subst z'
            rw [List.append_nil] at q
            exact q _ μ H Ext.refl s (.tup h1 r1)
          · exact newT_ok s (r1.append r2) q p hp
    · cases e
  · cases e
noncomputable def fAdd : F2 := fOr fAddI (fOr fAddL fAddT)
def fRepL : F2 := fun x y st => match x, y with
  | .lst a, .int k => if 0 < a ∧ -(2 ^ 63) ≤ k ∧ k < 2 ^ 63 then (st[a]?).bind fun xs => newL (List.replicate k.toNat xs).flatten st else none
  | _, _ => none
theorem RepL.rep {H : Hp} {μ : Nat → Addr} {n : Nat} {vs : List V} {xs : List D} (r : RepL K H μ n vs xs) : ∀ k : Nat, RepL K H μ n (List.replicate k vs).flatten (List.replicate k xs).flatten
  | 0 => .nil
  | k + 1 => by rw [List.replicate_succ, List.replicate_succ, List.flatten_cons, List.flatten_cons]; exact r.append (RepL.rep r k)
theorem prim_repL : Prim2 K rRep fRepL := by
  intro H μ st x y dx dy d st' Q s rx ry e q
  unfold fRepL at e
  split at e
  · split at e
    · rename_i h0
      obtain ⟨xs, e1, e⟩ := Option.bind_eq_some_iff.mp e
      obtain ⟨rfl, _⟩ := rep_lst rx
      obtain ⟨vs, h1, r1⟩ := s.at h0.1 e1
      obtain ⟨z, q'⟩ := newL_ok s (r1.rep _) e q
      rw [len_rep] at z
      exact ⟨_, _, vs, rfl, rep_int ry, h1, h0.2.1, h0.2.2, by rw [r1.length, Nat.mul_comm]; exact z, q'⟩
    · cases e
  · cases e
noncomputable def fMul : F2 := fOr fMulI fRepL
def itemsOf (st : Store) : D → Option (List D)
  | .lst h => st[h]?
  | .tup xs => some xs
  | _ => none
theorem items_ok {H : Hp} {μ : Nat → Addr} {st : Store} {v : V} {d : D} {xs : List D} (s : StOk K H μ st) (r : Rep K H μ st.length v d) (e : itemsOf st d = some xs) : ∃ p vs, v = .ref p ∧ (SqL K H p vs ∨ SqT K H p vs) ∧ RepL K H μ st.length vs xs := by
  cases r with
  | tup h1 h2 => cases e; exact ⟨_, _, rfl, .inr h1, h2⟩
  | lst hk => obtain ⟨vs, a, b⟩ := s.sq e; exact ⟨_, vs, rfl, .inl a, b⟩
  | _ => cases e
def fIx : F2 := fun x y st => match y with
  | .int i => (itemsOf st x).bind fun xs => (atI xs i).bind fun d => some (d, st)
  | _ => none
theorem atI_rep {H : Hp} {μ : Nat → Addr} {n : Nat} {vs : List V} {xs : List D} {i : Int} {d : D} (r : RepL K H μ n vs xs) (e : atI xs i = some d) : ∃ v, atI vs i = some v ∧ Rep K H μ n v d := by
  unfold atI at e ⊢
  obtain ⟨j, e1, e2⟩ := Option.bind_eq_some_iff.mp e
  obtain ⟨v, a, b⟩ := r.get e2
  exact ⟨v, by rw [r.length, e1]; exact a, b⟩
theorem prim_ix : Prim2 K (rIx K) fIx := by
  intro H μ st x y dx dy d st' Q s rx ry e q
  unfold fIx at e
  split at e
  · obtain ⟨xs, e1, e⟩ := Option.bind_eq_some_iff.mp e
    obtain ⟨d', e2, e⟩ := Option.bind_eq_some_iff.mp e
    cases e
    obtain ⟨p, vs, rfl, hp, r⟩ := items_ok s rx e1
    obtain ⟨v, a, b⟩ := atI_rep r e2
    rcases hp with hp | hp
    · exact .inl ⟨p, vs, _, v, rfl, rep_int ry, hp, a, q v μ H Ext.refl s b⟩
    · exact .inr (.inl ⟨p, vs, _, v, rfl, rep_int ry, hp, a, q v μ H Ext.refl s b⟩)
  · cases e
def flat : D → Option V
  | .non => some .non
  | .bl b => some (.bl b)
  | .int i => some (.int i)
  | .str x => some (.str x)
  | _ => none
theorem flat_rep {H : Hp} {μ : Nat → Addr} {n : Nat} {v w : V} {d : D} (r : Rep K H μ n v d) (e : flat d = some w) : v = w ∧ flatV v = true := by
  cases r <;> first | (cases e; exact ⟨rfl, rfl⟩) | cases e
def mapO {α β : Type} (f : α → Option β) : List α → Option (List β)
  | [] => some []
  | x :: r => (f x).bind fun y => (mapO f r).bind fun ys => some (y :: ys)
theorem flat_all {H : Hp} {μ : Nat → Addr} {n : Nat} : ∀ {xs : List D} {vs ws : List V}, RepL K H μ n vs xs → mapO flat xs = some ws → vs = ws ∧ vs.all flatV = true
  | [], _, _, r, e => by cases r; cases e; exact ⟨rfl, rfl⟩
  | x :: xs, _, _, r, e => by
    cases r with
    | cons r1 r2 =>
      unfold mapO at e
      obtain ⟨w, e1, e⟩ := Option.bind_eq_some_iff.mp e
      obtain ⟨ws, e2, e⟩ := Option.bind_eq_some_iff.mp e
      cases e
      obtain ⟨rfl, a⟩ := flat_rep r1 e1
      obtain ⟨rfl, b⟩ := flat_all r2 e2
      exact ⟨rfl, by rw [List.all_cons, a, b]; rfl⟩
def fIn (neg : Bool) : F2 := fun x y st => (flat x).bind fun v => (itemsOf st y).bind fun ys => (mapO flat ys).bind fun vs => some (.bl (if neg then !inV v vs else inV v vs), st)
theorem prim_in (neg : Bool) : Prim2 K (rIn K neg) (fIn neg) := by
  intro H μ st x y dx dy d st' Q s rx ry e q
  unfold fIn at e
  obtain ⟨v, e1, e⟩ := Option.bind_eq_some_iff.mp e
  obtain ⟨ys, e2, e⟩ := Option.bind_eq_some_iff.mp e
  obtain ⟨vs, e3, e⟩ := Option.bind_eq_some_iff.mp e
  cases e
  obtain ⟨rfl, a⟩ := flat_rep rx e1
  obtain ⟨p, ws, rfl, hp, r⟩ := items_ok s ry e2
  obtain ⟨rfl, b⟩ := flat_all r e3
  exact ⟨p, ws, rfl, hp, a, b, q _ μ H Ext.refl s (.bl _)⟩
def fEqS (neg : Bool) : F2 := fun x y st => (flat x).bind fun v => (flat y).bind fun w => if scal v w = true then some (.bl (if neg then !decide (v = w) else decide (v = w)), st) else none
theorem prim_eqS : Prim2 K rEq (fEqS false) := by
  intro H μ st x y dx dy d st' Q s rx ry e q
  unfold fEqS at e
  obtain ⟨v, e1, e⟩ := Option.bind_eq_some_iff.mp e
  obtain ⟨w, e2, e⟩ := Option.bind_eq_some_iff.mp e
  split at e
  · rename_i hs
    cases e
    obtain ⟨rfl, _⟩ := flat_rep rx e1
    obtain ⟨rfl, _⟩ := flat_rep ry e2
    exact ⟨hs, q _ μ H Ext.refl s (.bl _)⟩
  · cases e
theorem prim_neS : Prim2 K rNe (fEqS true) := by
  intro H μ st x y dx dy d st' Q s rx ry e q
  unfold fEqS at e
  obtain ⟨v, e1, e⟩ := Option.bind_eq_some_iff.mp e
  obtain ⟨w, e2, e⟩ := Option.bind_eq_some_iff.mp e
  split at e
  · rename_i hs
    cases e
    obtain ⟨rfl, _⟩ := flat_rep rx e1
    obtain ⟨rfl, _⟩ := flat_rep ry e2
    exact ⟨hs, q _ μ H Ext.refl s (.bl _)⟩
  · cases e
def toPy : Nat → Store → D → Option PyData
  | 0, _, _ => none
  | _ + 1, _, .non => some .none
  | _ + 1, _, .bl b => some (.bool b)
  | _ + 1, _, .int i => some (.int i)
  | _ + 1, _, .str x => some (.str x)
  | k + 1, st, .tup xs => (mapO (toPy k st) xs).map .tuple
  | k + 1, st, .lst h => (st[h]?).bind fun xs => (mapO (toPy k st) xs).map .list
theorem dpAll_of {H : Hp} {μ : Nat → Addr} {st : Store} {f : D → Option PyData} (hf : ∀ (d : D) (v : V) (p : PyData), Rep K H μ st.length v d → f d = some p → Dp K H v p) : ∀ {xs : List D} {vs : List V} {ps : List PyData}, RepL K H μ st.length vs xs → mapO f xs = some ps → DpAll K H vs ps
  | [], _, _, r, e => by cases r; cases e; exact .nil
  | x :: xs, _, _, r, e => by
    cases r with
    | cons r1 r2 =>
      unfold mapO at e
      obtain ⟨w, e1, e⟩ := Option.bind_eq_some_iff.mp e
      obtain ⟨ws, e2, e⟩ := Option.bind_eq_some_iff.mp e
      cases e
      exact .cons (hf x _ w r1 e1) (dpAll_of hf r2 e2)
theorem toPy_ok {H : Hp} {μ : Nat → Addr} {st : Store} (s : StOk K H μ st) : ∀ (k : Nat) (d : D) (v : V) (p : PyData), Rep K H μ st.length v d → toPy k st d = some p → Dp K H v p
  | 0, _, _, _, _, e => by cases e
  | k + 1, .non, _, _, r, e => by cases r; cases e; exact .non
  | k + 1, .bl b, _, _, r, e => by cases r; cases e; exact .bl b
  | k + 1, .int i, _, _, r, e => by cases r; cases e; exact .int i
  | k + 1, .str x, _, _, r, e => by cases r; cases e; exact .str x
  | k + 1, .tup xs, _, _, r, e => by
    cases r with
    | tup h1 h2 =>
      obtain ⟨ps, e1, e2⟩ := Option.map_eq_some_iff.mp (show (mapO (toPy k st) xs).map PyData.tuple = _ from e)
      cases e2
      exact .tup h1 (dpAll_of (toPy_ok s k) h2 e1)
  | k + 1, .lst h, _, _, r, e => by
    obtain ⟨xs, e0, e⟩ := Option.bind_eq_some_iff.mp (show ((st[h]?).bind fun xs => (mapO (toPy k st) xs).map PyData.list) = _ from e)
    obtain ⟨ps, e1, e2⟩ := Option.map_eq_some_iff.mp e
    cases e2
    obtain ⟨rfl, _⟩ := rep_lst r
    obtain ⟨vs, a, b⟩ := s.sq e0
    exact .lst a (dpAll_of (toPy_ok s k) b e1)
def fEqD (neg : Bool) : F2 := fun x y st => (toPy 70 st x).bind fun p => (toPy 70 st y).bind fun q => if SeqAt.shaped p = true ∧ SeqAt.shaped q = true then some (.bl (if neg then !PyData.eqv p q else PyData.eqv p q), st) else none
theorem prim_eqD : Prim2 K (rEqD K) (fEqD false) := by
  intro H μ st x y dx dy d st' Q s rx ry e q
  unfold fEqD at e
  obtain ⟨v, e1, e⟩ := Option.bind_eq_some_iff.mp e
  obtain ⟨w, e2, e⟩ := Option.bind_eq_some_iff.mp e
  split at e
  · rename_i hs
    cases e
    exact ⟨v, w, toPy_ok s _ _ _ _ rx e1, toPy_ok s _ _ _ _ ry e2, hs.1, hs.2, q _ μ H Ext.refl s (.bl _)⟩
  · cases e
theorem prim_neD : Prim2 K (rNeD K) (fEqD true) := by
  intro H μ st x y dx dy d st' Q s rx ry e q
  unfold fEqD at e
  obtain ⟨v, e1, e⟩ := Option.bind_eq_some_iff.mp e
  obtain ⟨w, e2, e⟩ := Option.bind_eq_some_iff.mp e
  split at e
  · rename_i hs
    cases e
    exact ⟨v, w, toPy_ok s _ _ _ _ rx e1, toPy_ok s _ _ _ _ ry e2, hs.1, hs.2, q _ μ H Ext.refl s (.bl _)⟩
  · cases e
def fEq : F2 := fOr (fEqS false) (fEqD false)
def fNe : F2 := fOr (fEqS true) (fEqD true)
end
section
variable {X : Cx} {pos : Pos} {a b : Expr} {A B : SE}
theorem ev_sub (ha : PEv X a A) (hb : PEv X b B) : PEv X (.BinOp a .Sub b pos) (sOp2 fSub A B) := ev_op op_sub (prim_I0 fun _ _ _ _ _ _ => .int _) ha hb
theorem ev_mod (ha : PEv X a A) (hb : PEv X b B) : PEv X (.BinOp a .Mod b pos) (sOp2 fMod A B) := ev_op op_modN (prim_I fun _ _ _ _ _ _ => .int _) ha hb
theorem ev_div (ha : PEv X a A) (hb : PEv X b B) : PEv X (.BinOp a .FloorDiv b pos) (sOp2 fDiv A B) := ev_op op_fdivN (prim_I fun _ _ _ _ _ _ => .int _) ha hb
theorem ev_pow (ha : PEv X a A) (hb : PEv X b B) : PEv X (.BinOp a .Pow b pos) (sOp2 fPow A B) := ev_op op_pow (prim_I fun _ _ _ _ _ _ => .int _) ha hb
theorem ev_sb (ha : PEv X a A) (hb : PEv X b B) (hs : PlainIx b := by exact fun _ _ => rfl) : PEv X (.Subscript a b pos) (sOp2 fIx A B) := ev_ix ix_seq prim_ix ha hb hs
theorem ev_lt (ha : PEv X a A) (hb : PEv X b B) : PEv X (.Compare a [.Lt] [b] pos) (sOp2 fLt A B) := ev_cmp op_lt (prim_I0 fun _ _ _ _ _ _ => .bl _) ha hb (nomark _)
theorem ev_gt (ha : PEv X a A) (hb : PEv X b B) : PEv X (.Compare a [.Gt] [b] pos) (sOp2 fGt A B) := ev_cmp op_gt (prim_I0 fun _ _ _ _ _ _ => .bl _) ha hb (nomark _)
theorem ev_eq {k : Nat} (hr : Room k X.A) (ha : PEv X a A) (hb : PEv X b B) : PEv X (.Compare a [.Eq] [b] pos) (sOp2 fEq A B) := ev_cmp (OpR.or op_eq (op_eqD hr.units)) (Prim2.or prim_eqS prim_eqD) ha hb (nomark _)
theorem et_lt (ha : PEv X a A) (hb : PEv X b B) : PTv X (.Compare a [.Lt] [b] pos) (sVal (sOp2 fLt A B)) := et_cmp op_lt (prim_I0 fun _ _ _ _ _ _ => .bl _) ha hb (nomark _)
theorem et_le (ha : PEv X a A) (hb : PEv X b B) : PTv X (.Compare a [.LtE] [b] pos) (sVal (sOp2 fLe A B)) := et_cmp op_le (prim_I0 fun _ _ _ _ _ _ => .bl _) ha hb (nomark _)
theorem et_eq {k : Nat} (hr : Room k X.A) (ha : PEv X a A) (hb : PEv X b B) : PTv X (.Compare a [.Eq] [b] pos) (sVal (sOp2 fEq A B)) := et_cmp (OpR.or op_eq (op_eqD hr.units)) (Prim2.or prim_eqS prim_eqD) ha hb (nomark _)
theorem et_ne {k : Nat} (hr : Room k X.A) (ha : PEv X a A) (hb : PEv X b B) : PTv X (.Compare a [.NotEq] [b] pos) (sVal (sOp2 fNe A B)) := et_cmp (OpR.or op_ne (op_neD hr.units)) (Prim2.or prim_neS prim_neD) ha hb (nomark _)
end
end Ev
namespace Ev
open PySem PySem.Spec L2
section
variable {K : PySem.W.Frag}
theorem repL_one {H : Hp} {μ : Nat → Addr} {n : Nat} {vs : List V} {d : D} (r : RepL K H μ n vs [d]) : ∃ v, vs = [v] ∧ Rep K H μ n v d := by
  cases r with
  | cons r1 r2 => cases r2; exact ⟨_, rfl, r1⟩
theorem repL_two {H : Hp} {μ : Nat → Addr} {n : Nat} {vs : List V} {d e : D} (r : RepL K H μ n vs [d, e]) : ∃ v w, vs = [v, w] ∧ Rep K H μ n v d ∧ Rep K H μ n w e := by
  cases r with
  | cons r1 r2 => obtain ⟨w, rfl, r3⟩ := repL_one r2; exact ⟨_, w, rfl, r1, r3⟩
def fLen : FS := fun ds st => match ds with | [d] => (itemsOf st d).bind fun xs => some (.int xs.length, st) | _ => none
theorem prim_len : Prim K (fun xs H Q => ∃ p ys, xs = [.ref p] ∧ (SqL K H p ys ∨ SqT K H p ys) ∧ Q (.int ys.length) H) fLen := by
  intro H μ st vs ds d st' Q s r e q
  unfold fLen at e
  split at e
  · obtain ⟨xs, e1, e⟩ := Option.bind_eq_some_iff.mp e
    cases e
    obtain ⟨v, rfl, r1⟩ := repL_one r
    obtain ⟨p, ws, rfl, hp, rl⟩ := items_ok s r1 e1
    exact ⟨p, ws, rfl, hp, by rw [rl.length]; exact q _ μ H Ext.refl s (.int _)⟩
  · cases e
def fTuple : FS := fun ds st => match ds with | [d] => (itemsOf st d).bind fun xs => some (.tup xs, st) | _ => none
theorem prim_tuple : Prim K (fun xs H Q => ∃ p ys, xs = [.ref p] ∧ ((SqL K H p ys ∧ ∀ l, H l = none → Q (.ref l) (upd H l (.tup ys))) ∨ (SqT K H p ys ∧ Q (.ref p) H))) fTuple := by
  intro H μ st vs ds d st' Q s r e q
  unfold fTuple at e
  split at e
  · obtain ⟨xs, e1, e⟩ := Option.bind_eq_some_iff.mp e
    cases e
    obtain ⟨v, rfl, r1⟩ := repL_one r
    obtain ⟨p, ws, rfl, hp, rl⟩ := items_ok s r1 e1
    rcases hp with hp | hp
    · exact ⟨p, ws, rfl, .inl ⟨hp, fun l hl => newT_ok s rl q l hl⟩⟩
    · exact ⟨p, ws, rfl, .inr ⟨hp, q _ μ H Ext.refl s (.tup hp rl)⟩⟩
  · cases e
def fList : FS := fun ds st => match ds with | [d] => (itemsOf st d).bind fun xs => newL xs st | _ => none
theorem prim_list : Prim K (fun xs H Q => ∃ p ys, xs = [.ref p] ∧ (SqL K H p ys ∨ SqT K H p ys) ∧ ∀ l, H l = none → Q (.ref l) (upd H l (.lst ys))) fList := by
  intro H μ st vs ds d st' Q s r e q
  unfold fList at e
  split at e
  · obtain ⟨xs, e1, e⟩ := Option.bind_eq_some_iff.mp e
    obtain ⟨v, rfl, r1⟩ := repL_one r
    obtain ⟨p, ws, rfl, hp, rl⟩ := items_ok s r1 e1
    exact ⟨p, ws, rfl, hp, (newL_ok s rl e q).2⟩
  · cases e
def fInt : FS := fun ds st => match ds with | [.int i] => some (.int i, st) | [.bl b] => some (.int (if b then 1 else 0), st) | _ => none
theorem prim_int : Prim K (fun xs H Q => (∃ i, xs = [.int i] ∧ Q (.int i) H) ∨ ∃ k, xs = [.bl k] ∧ Q (.int (if k then 1 else 0)) H) fInt := by
  intro H μ st vs ds d st' Q s r e q
  unfold fInt at e
  split at e
  · cases e
    obtain ⟨v, rfl, r1⟩ := repL_one r
    cases r1
    exact .inl ⟨_, rfl, q _ μ H Ext.refl s (.int _)⟩
  · cases e
    obtain ⟨v, rfl, r1⟩ := repL_one r
    cases r1
    exact .inr ⟨_, rfl, q _ μ H Ext.refl s (.int _)⟩
  · cases e
def fMin : FS := fun ds st => match ds with | [.int i, .int j] => some (.int (if j < i then j else i), st) | _ => none
def fMax : FS := fun ds st => match ds with | [.int i, .int j] => some (.int (if j > i then j else i), st) | _ => none
def isSeq : D → Bool
  | .tup _ => true
  | .lst _ => true
  | _ => false
def fRepr : FS := fun ds st => match ds with
  | [d] => if isSeq d = true then (toPy 70 st d).bind fun p => if p.showable = true ∧ p.hasDict = false ∧ p.depth ≤ 60 ∧ p.shown.length ≤ sizeLine then some (.str p.shown, st) else none else none
  | _ => none
def rRepr (K : PySem.W.Frag) : List V → Hp → VK → Prop := fun xs H Q => ∃ a p, xs = [.ref a] ∧ Dp K H (.ref a) p ∧ p.showable = true ∧ p.hasDict = false ∧ p.depth ≤ 60 ∧ p.shown.length ≤ sizeLine ∧ Q (.str p.shown) H
theorem prim_repr : Prim K (rRepr K) fRepr := by
  intro H μ st vs ds d st' Q s r e q
  unfold fRepr at e
  split at e
  · split at e
    · rename_i hq
      obtain ⟨p, e1, e⟩ := Option.bind_eq_some_iff.mp e
      split at e
      · rename_i hp
        cases e
        obtain ⟨v, rfl, r1⟩ := repL_one r
        have hv : ∃ a, v = .ref a := by
          cases r1 <;> first | exact ⟨_, rfl⟩ | cases hq
        obtain ⟨a, rfl⟩ := hv
        exact ⟨a, p, rfl, toPy_ok s _ _ _ _ r1 e1, hp.1, hp.2.1, hp.2.2.1, hp.2.2.2, q _ μ H Ext.refl s (.str _)⟩
      · cases e
    · cases e
  · cases e
theorem call_repr {X : Cx} {k : Nat} (hr : Room k X.A) : CallR X (.builtin "repr") (rRepr X.K) := by
  intro pins s σ H xs us Q I r h
  obtain ⟨a, p, rfl, hd, h1, h2, h3, h4, q⟩ := h
  obtain ⟨u, rfl, ru⟩ := vals1 r
  obtain ⟨as, rd⟩ := Dp.reads I p (.ref a) u hd ru
  cases ru
  have hu := hr.units
  refine repr_of_reads' rd h1 (fun z => by rw [h2] at z; cases z) hr.gd (by omega) (fun _ _ e => e) (fun h' u tk hk => ?_) h4
  exact ⟨.str p.shown, H, I.kept (t' := tk) hk, ⟨u, rfl⟩, q⟩
def mAppend : D → List D → Store → Option (D × Store) := fun x ds st => match x, ds with
  | .lst h, [d] => (st[h]?).bind fun xs => if 0 < h ∧ xs.length < sizeLine then some (.non, st.set h (xs ++ [d])) else none
  | _, _ => none
theorem primM_append : PrimM K rAppend mAppend := by
  intro H μ st x vs dx ds d st' Q s rx r e q
  unfold mAppend at e
  split at e
  · rename_i h d'
    obtain ⟨xs, e1, e⟩ := Option.bind_eq_some_iff.mp e
    split at e
    · rename_i h0
      cases e
      obtain ⟨v, rfl, r1⟩ := repL_one r
      obtain ⟨rfl, _⟩ := rep_lst rx
      obtain ⟨ws, a, b⟩ := s.at h0.1 e1
      refine ⟨_, ws, v, rfl, rfl, a, by rw [b.length]; exact h0.2, ?_⟩
      refine q _ μ _ (by rw [List.length_set]; exact Ext.put (vs := ws) s h0.1 e1) (s.put h0.1 e1 (b.append (.cons r1 .nil))) .non
    · cases e
  · cases e
def mPop : D → List D → Store → Option (D × Store) := fun x ds st => match x, ds with
  | .lst h, [] => (st[h]?).bind fun xs => (xs[xs.length - 1]?).bind fun d => if 0 < h then some (d, st.set h xs.dropLast) else none
  | _, _ => none
theorem RepL.dropLast {H : Hp} {μ : Nat → Addr} {n : Nat} {vs : List V} {xs : List D} (r : RepL K H μ n vs xs) : RepL K H μ n vs.dropLast xs.dropLast := by
  rw [List.dropLast_eq_take, List.dropLast_eq_take, r.length]
  exact r.take _
end
abbrev SO := Rho → Store → Option (Option Int × Store)
def sNo : SO := fun _ st => some (none, st)
def sPart (A : SE) : SO := fun ρ st => (A ρ st).bind fun p => match p.1 with | .int i => some (some i, p.2) | _ => none
def cutD (xs : List D) (lo hi : Option Int) : List D := (xs.drop (HT.sIx xs.length 0 lo)).take (HT.sIx xs.length xs.length hi - HT.sIx xs.length 0 lo)
def fCut (x : D) (lo hi : Option Int) (st : Store) : Option (D × Store) := match x with
  | .lst h => (st[h]?).bind fun xs => newL (cutD xs lo hi) st
  | .tup xs => if ¬ (HT.sIx xs.length 0 lo = 0 ∧ HT.sIx xs.length xs.length hi = xs.length) then some (.tup (cutD xs lo hi), st) else none
  | _ => none
def sSl (A : SE) (L U : SO) : SE := fun ρ st => (A ρ st).bind fun p => (L ρ p.2).bind fun l => (U ρ l.2).bind fun u => fCut p.1 l.1 u.1 u.2
def tEvO (K : PySem.W.Frag) (A : SO) : TO := fun σ H Q => ∃ μ ρ st o st', RepR K H μ st.length σ ρ ∧ StOk K H μ st ∧ A ρ st = some (o, st') ∧ ∀ μ' H', Ext K H μ st.length H' μ' st'.length → StOk K H' μ' st' → Q o H'
def POv (X : Cx) (e : Option Expr) (A : SO) : Prop := PO X e (tEvO X.K A)
section
variable {X : Cx} {e : Expr} {A : SE} {lo hi : Option Expr} {L U : SO} {pos p2 : Pos}
theorem eo_none : POv X none sNo := fun pins s σ H Q I h => po_none pins s σ H Q I (by
  obtain ⟨μ, ρ, st, o, st', hr, s, e, q⟩ := h
  cases e
  exact q μ H Ext.refl s)
theorem eo_some (h : PEv X e A) : POv X (some e) (sPart A) := fun pins s σ H Q I h2 => po_some h pins s σ H Q I (by
  obtain ⟨μ, ρ, st, o, st', hr, s, e, q⟩ := h2
  unfold sPart at e
  obtain ⟨⟨p1, p2⟩, e1, e⟩ := Option.bind_eq_some_iff.mp e
  dsimp only at e
  split at e
  · cases e
    refine ⟨μ, ρ, st, _, _, hr, s, e1, fun v μ1 H1 x1 s1 r1 => ?_⟩
    cases r1
    exact ⟨_, rfl, q μ1 H1 x1 s1⟩
  · cases e)
theorem cut_rep {K : PySem.W.Frag} {H : Hp} {μ : Nat → Addr} {n : Nat} {vs : List V} {xs : List D} (r : RepL K H μ n vs xs) (lo hi : Option Int) : RepL K H μ n (cutV vs lo hi) (cutD xs lo hi) := by
  unfold cutV cutD
  rw [r.length]
  exact (r.drop _).take _
end
section
variable {X : Cx} {p pos apos : Pos} {a b o : Expr} {A B : SE} {R : SA}
theorem ev_len (hm : X.mg "len" = none) (ha : PAv X [a] R) (hg : Gl X "len" := by rfl) (he : starEach [a] X.env = [(false, eval a X.env)] := by rfl) : PEv X (.Call (.Name "len" p) [a] [] pos) (sCall fLen R) := ev_callB call_len_seq prim_len hm PySem.boot_len ha hg (by decide) (by decide) he rfl
theorem ev_tupleC (hm : X.mg "tuple" = none) (ha : PAv X [a] R) (hg : Gl X "tuple" := by rfl) (he : starEach [a] X.env = [(false, eval a X.env)] := by rfl) : PEv X (.Call (.Name "tuple" p) [a] [] pos) (sCall fTuple R) := ev_callTy call_tuple_of prim_tuple hm (by decide +kernel) ha hg (by decide) (by decide) he rfl
theorem ev_listC (hm : X.mg "list" = none) (ha : PAv X [a] R) (hg : Gl X "list" := by rfl) (he : starEach [a] X.env = [(false, eval a X.env)] := by rfl) : PEv X (.Call (.Name "list" p) [a] [] pos) (sCall fList R) := ev_callTy call_list_of prim_list hm (by decide +kernel) ha hg (by decide) (by decide) he rfl
theorem ev_intC (hm : X.mg "int" = none) (ha : PAv X [a] R) (hg : Gl X "int" := by rfl) (he : starEach [a] X.env = [(false, eval a X.env)] := by rfl) : PEv X (.Call (.Name "int" p) [a] [] pos) (sCall fInt R) := ev_callTy call_int1 prim_int hm (by decide +kernel) ha hg (by decide) (by decide) he rfl
theorem ev_repr {k : Nat} (hr : Room k X.A) (hm : X.mg "repr" = none) (ha : PAv X [a] R) (hg : Gl X "repr" := by rfl) (he : starEach [a] X.env = [(false, eval a X.env)] := by rfl) : PEv X (.Call (.Name "repr" p) [a] [] pos) (sCall fRepr R) := ev_callB (call_repr hr) prim_repr hm (by decide +kernel) ha hg (by decide) (by decide) he rfl
theorem ev_append (ho : PEv X o A) (ha : PAv X [a] R) (hbase : attributeBase o "append" X.env (eval o X.env) = eval o X.env := by rfl) (hs : starEach [a] X.env = [(false, eval a X.env)] := by rfl) (hline : (apos.endLine == pos.line) = true := by rfl)
    (hfew : ((backTo pos (starEach [a] X.env)).all (fun x => !x.1) && (backToKw pos (keywordEach [] X.env)).all (fun x => x.1.isSome)
      && decide (([a] : List Expr).length + ([] : List Keyword).length + (if ([] : List Keyword).isEmpty then 0 else 1) < 30)) = true := by rfl) :
    PEv X (.Call (.Attribute o "append" apos) [a] [] pos) (sMeth mAppend A R) := ev_meth PySem.F.slot_list_append PySem.F.type_list_append mt_append primM_append ho ha hbase hfew hline hs rfl
end
end Ev
namespace Ev
open PySem PySem.Spec L2
open AutoSeq1 (wpAny_loadPart')
abbrev tupIt (l : Addr) : Obj := { cls := .type "tuple_iterator", data := .fields #[.ref l, .int 0 0] }
abbrev enumOf (it : Addr) : Obj := { cls := .type "enumerate", data := .fields #[.none, .bool false, .ref it, rawInt 0, .none, .none] }
theorem enumT_new (l : Addr) (its : Array Value) (m : Nat) (dd : Option Addr) (zz : Array (Option Value)) :
    Meets (Builtin.«enumerate.__new__» ⟨[.type "enumerate", .ref l], []⟩) (fun _ R s => s.heap.get? l = some { cls := .type "tuple", dict := dd, data := .seq its m, slots := zz } ∧ R (.ok (.ret (.ref (s.heap.push (tupIt l)).objs.size))) { s with heap := (s.heap.push (tupIt l)).push (enumOf s.heap.objs.size) }) :=
  .of_wp fun prog w A R s h => by
    obtain ⟨s1, s2, s3, s4, s5⟩ := s
    obtain ⟨lk, fin⟩ := h
    have sub := sub_enumerate
    have isT : Heap.IsTuple (Shared.heap ⟨s1, s2, s3, s4, s5⟩) l its := ⟨_, lk, rfl, m, rfl⟩
    wp_walk using wpAny_loadPart' lk
    refine wpAny_stack_any fun _ => wpAny_pure ?_
    split
    case' h_1 => rename_i c _ _ _ _ _; cases (c == Value.type "enumerate")
    all_goals (wp_walk using wpAny_loadPart' lk, wpAny_pyIter_tuple isT; exact ⟨_, rfl, fin⟩)
section
variable {prog : Program} {w : World} {A : Around} {E : Value → Shared → Prop} {s : Shared} {it l : Addr} {i : Nat} {its : Array Value}
theorem enumT_call {Q : Value → Shared → Prop} (isT : s.heap.IsTuple l its)
    (k : ∀ g, IsEnum g (s.heap.objs.size + 1) s.heap.objs.size 0 .none → g.IsTupleIter s.heap.objs.size l 0 → (∀ b o, s.heap.get? b = some o → g.get? b = some o) → Q (.ref (s.heap.objs.size + 1)) { s with heap := g }) :
    wpAny (model prog w) A (call (.type "enumerate") [.ref l]) Q E s := by
  obtain ⟨⟨c, dd, dt, zz⟩, lk, hc, m, hd⟩ := isT
  cases (show c = .type "tuple" from hc)
  cases (show dt = .seq its m from hd)
  refine callType_new F.called_enumerate (by decide) (F.typeCall_enumerate_1 _) (F.newCall_enumerate_1 _) (fun z => F.args_object_init_2 z _) F.entry_enumerate_new (enumT_new l its m dd zz) ⟨lk, ?_⟩
  have sz : (s.heap.push (tupIt l)).objs.size = s.heap.objs.size + 1 := Heap.size_push ..
  have en : IsEnum ((s.heap.push (tupIt l)).push (enumOf s.heap.objs.size)) (s.heap.objs.size + 1) s.heap.objs.size 0 .none := by
    have q := Heap.get?_push_size (s.heap.push (tupIt l)) (o := enumOf s.heap.objs.size) rfl
    rwa [sz] at q
  show _ ∧ _
  rw [sz]
  exact ⟨⟨_, en, rfl⟩, k _ en ⟨_, Heap.get?_push_of_some _ (Heap.get?_push_size _ rfl), rfl, rfl⟩ fun b o z => Heap.get?_push_of_some _ (Heap.get?_push_of_some _ z)⟩
theorem drawT {Q : Value → Shared → Prop} (hit : s.heap.IsTupleIter it l i) (hl : s.heap.IsTuple l its) {x : Value} (hx : its[i]? = some x)
    (k : ∀ g, g.IsTupleIter it l (i + 1) → Heap.SameBut it s.heap g → Q x { s with heap := g }) : wpAny (model prog w) A (Builtin.SmallTypes.nextOf (.ref it)) Q E s := by
  have ⟨o, ho, hc, hd⟩ := hit
  have ⟨q, hq, _, m, hm⟩ := hl
  unfold Builtin.SmallTypes.nextOf
  refine wpAny_bind (wpAny_callSpecial?_slot (name := Str.ofString "__next__") hit.typeIs F.slot_tuple_iterator_next (wpAny_call_entry F.slot_tuple_iterator_next hit.typeIs F.entry_tuple_iterator_next ?_ (F.args_tuple_iterator_next_1 _)))
  refine wpAny_bind (m := field (.ref it) 0) (wpAny_field ho hd (x := .ref l) rfl ?_)
  show wpAny _ _ (ite ((Value.ref l == Value.none) = true) _ _) _ _ s
  rw [if_neg (by exact Bool.false_ne_true)]
  refine wpAny_bind (m := field (.ref it) 1) (wpAny_field ho hd (x := .int i 0) rfl (wpAny_bind (m := seqItems? (.ref l)) (wpAny_seqItems hq hm ?_)))
  simp only [Int.toNat_natCast, hx]
  refine wpAny_bind (wpAny_setField ho hd (by simp) (wpAny_pure ⟨x, rfl, wpAny_pure (k _ ⟨_, Heap.get?_update_self _ ho (Obj.isFreed_of_fields (Obj.data_mapFields hd _)), (Obj.cls_mapFields ..).trans hc, ?_⟩ (Heap.SameBut.update ..))⟩))
  rw [Obj.data_mapFields hd]; simp [rawInt]
theorem drawT_end {Q : Value → Shared → Prop} (hh : A.handled = none) (hit : s.heap.IsTupleIter it l i) (hl : s.heap.IsTuple l its) (hx : its[i]? = none)
    (k : ∀ g e, Heap.ExtBut it s.heap g → (∃ o, g.get? e = some o ∧ o.cls = .type "StopIteration") → E (.ref e) { s with heap := g }) : wpAny (model prog w) A (Builtin.SmallTypes.nextOf (.ref it)) Q E s := by
  have ⟨o, ho, hc, hd⟩ := hit
  have ⟨q, hq, _, m, hm⟩ := hl
  unfold Builtin.SmallTypes.nextOf
  refine wpAny_bind (wpAny_callSpecial?_slot (name := Str.ofString "__next__") hit.typeIs F.slot_tuple_iterator_next (wpAny_call_entry F.slot_tuple_iterator_next hit.typeIs F.entry_tuple_iterator_next ?_ (F.args_tuple_iterator_next_1 _)))
  refine wpAny_bind (m := field (.ref it) 0) (wpAny_field ho hd (x := .ref l) rfl ?_)
  show wpAny _ _ (ite ((Value.ref l == Value.none) = true) _ _) _ _ s
  rw [if_neg (by exact Bool.false_ne_true)]
  refine wpAny_bind (m := field (.ref it) 1) (wpAny_field ho hd (x := .int i 0) rfl (wpAny_bind (m := seqItems? (.ref l)) (wpAny_seqItems hq hm ?_)))
  simp only [Int.toNat_natCast, hx]
  refine wpAny_bind (wpAny_rule (wpAny_bind (wpAny_setField ho hd (by simp) (wpAny_bind (m := newExc (.type "StopIteration") []) ?_))))
  simp only [newExc, newTuple]
  refine wpAny_bind (wpAny_newObj_type (wpAny_bind (m := firstArgMember _ _) (wpAny_of_eq (a := Value.none) (by first | rfl | (simp only [firstArgMember]; rfl)) (wpAny_newObj_type ?_ (by size_fits)))) (by size_fits))
  exact wpAny_raiseNew_none hh (k _ _ (((Heap.SameBut.update ..).extBut.push _).push _) ⟨_, Heap.get?_push_size _ rfl, rfl⟩)
theorem drawsT (hh : A.handled = none) (ne : l ≠ it) : Draws prog w A it [it, l] its.size (fun i x => its[i]? = some x) (fun i h => h.IsTupleIter it l i ∧ h.IsTuple l its) where
  live := fun i h z => let ⟨⟨o, e, _⟩, _⟩ := z; ⟨o, e⟩
  frame := fun i h h' z k => ⟨let ⟨o, e, r⟩ := z.1; ⟨o, k it (by simp) o e, r⟩, let ⟨o, e, r⟩ := z.2; ⟨o, k l (by simp) o e, r⟩⟩
  item := fun i s Q E hi z k => drawT z.1 z.2 (Array.getElem?_eq_getElem hi) fun g g1 g2 => k _ g s.toks (Array.getElem?_eq_getElem hi) ⟨g1, let ⟨o, e, r⟩ := z.2; ⟨o, (g2.2 l ne).trans e, r⟩⟩ g2
  done := fun s Q E z k => drawT_end hh z.1 z.2 (by simp) k
end
def IteT (K : PySem.W.Frag) (a : Addr) : It :=
  ⟨fun i H => ∃ (xs : List V) (x : V), SqT K H a xs ∧ xs[i]? = some x, fun i H v H' => ∃ T x, v = .ref T ∧ H T = none ∧ H' = upd H T (.tup [.int (i : Nat), x]) ∧ ∀ xs, SqT K H a xs → xs[i]? = some x, fun i H => ∃ xs : List V, SqT K H a xs ∧ xs.length = i⟩
theorem turn_enumT {P : Program} {w : World} {K : PySem.W.Frag} {elts : List Expr} {kk : Nat} {tpos : Pos} (a e it : Addr) :
    Turn P w K (.Tuple elts kk tpos) (IteT K a) [e, it] e (fun i h => (∃ old, IsEnum h e it ((i : Nat) : Int) old) ∧ h.IsTupleIter it a i ∧ e ≠ it ∧ a ≠ it ∧ a ≠ e) where
  mem := by simp
  obj := fun i h z b hb => by
    obtain ⟨⟨old, he⟩, ⟨o, ho, hc, hd⟩, _⟩ := z
    rcases (show b = e ∨ b = it by simpa using hb) with y | y
    · subst y; exact ⟨_, he, fun v q => nomatch q⟩
    · exact ⟨o, by rw [y]; exact ho, fun v q => by rw [hd] at q; cases q⟩
  keep := fun i h h' z k => let ⟨⟨old, he⟩, ⟨o, ho, r⟩, n1⟩ := z; ⟨⟨old, k e (by simp) _ he⟩, ⟨o, k it (by simp) o ho, r⟩, n1⟩
  item := by
    intro X hP hw hK hc i pins s σ H E I hf z hg
    subst hP hw hK
    obtain ⟨⟨old, he⟩, hit, n1, n2, n3⟩ := z
    obtain ⟨xs, x, hq, hx⟩ := hg
    obtain ⟨us, rv, tp, hz⟩ := I.tuple hq
    obtain ⟨u, hu, ru⟩ := rv.get hx
    have el : e < s.heap.objs.size := Heap.lt_size he
    have il : it < s.heap.objs.size := by obtain ⟨_, q, _⟩ := hit; exact Heap.lt_size q
    have hlt : i < us.toArray.size := by
      rw [List.size_toArray]; exact (List.getElem?_eq_some_iff.mp hu).1
    have dr := drawsT (prog := X.prog) (w := X.w) (A := X.A.in1) (it := it) (l := a) (its := us.toArray) (I.ok.hd hc) n2
    refine wpAny_pyNext_enum_itemD dr he ⟨hit, tp⟩ hlt n1 (by simp only [List.mem_cons, List.not_mem_nil, or_false, not_or]; exact ⟨n1, Ne.symm n3⟩) fun y g tk py o1 st1 t1 _ kp => ?_
    have yu : y = u := by
      have q : us[i]? = some y := by simpa using py
      rw [hu] at q; cases q; rfl
    subst yu
    refine ⟨_, rfl, wpAny_letOwnedTupleGo_enum (s := { s with heap := g, toks := tk + 1 }) o1 fun g2 e2 sb => ?_⟩
    have t2 : g2.get? s.heap.objs.size = some { cls := .type "tuple", data := .seq #[.int i tk, y] } := (sb.2 _ (Nat.ne_of_gt el)).trans t1
    have new : ObjOk X.prog X.w (upd H s.heap.objs.size (.tup [.int (i : Nat), x])) g2 s.heap.objs.size (.tup [.int (i : Nat), x]) := ⟨by show 2 ≤ sizeLine; decide, [.int i tk, y], .cons ⟨_, rfl⟩ (.cons ru .nil), ⟨_, t2, rfl, _, rfl⟩⟩
    have I1 : Inv X pins σ (upd H s.heap.objs.size (.tup [.int (i : Nat), x])) { s with heap := g2, toks := tk + 1 } :=
      I.turnedNew (ch := [e, it]) (fun b ob hb q => (sb.2 b (fun z => hb (by simp [z]))).trans (kp b ob (fun z => hb (by simp [z])) (fun z => hb (by simp [z])) q)) hf (Nat.le_refl _) new
    refine ⟨.ref s.heap.objs.size, _, I1, rfl, ⟨_, x, rfl, I.hok.fresh (Nat.le_refl _), rfl, fun ys hy => by rw [I.tuple_inj hy hq]; exact hx⟩, ⟨⟨y, ?_⟩, ?_, n1, n2, n3⟩, fun b hb => ?_⟩
    · rw [show ((i + 1 : Nat) : Int) = (i : Int) + 1 by omega]; exact e2
    · obtain ⟨o, ho, r⟩ := st1.1
      exact ⟨o, (sb.2 it (Ne.symm n1)).trans ho, r⟩
    · have lt : b < s.heap.objs.size := by
        rcases (show b = e ∨ b = it by simpa using hb) with y | y <;> rw [y] <;> assumption
      rw [upd_ne (Nat.ne_of_lt lt)]
      exact (hf b hb).1
  done := by
    intro X hP hw hK hc i pins s σ H E I hf z hg
    subst hP hw hK
    obtain ⟨⟨old, he⟩, hit, n1, n2, n3⟩ := z
    obtain ⟨xs, hq, hx⟩ := hg
    obtain ⟨us, rv, tp, hz⟩ := I.tuple hq
    obtain ⟨f0, f1, f2, f3, f4, f5⟩ := hf it (by simp)
    have dr := drawsT (prog := X.prog) (w := X.w) (A := X.A.in1) (it := it) (l := a) (its := us.toArray) (I.ok.hd hc) n2
    have sz : us.toArray.size = i := by rw [List.size_toArray, ← rv.length, hx]
    exact wpAny_pyNext_enum_endD dr he ⟨by rw [sz]; exact hit, tp⟩ fun g eb => ⟨rfl, I.turned (t' := s.toks) (fun b o hb q => eb b o hb q) f0 f1 f3 f4 f5⟩
  self := fun A i s Q E z h => let ⟨⟨_, he⟩, _⟩ := z; wpAny_pyIter_enum he h
def iEnumT (K : PySem.W.Frag) (ta : TA) : TI := fun σ H R => ta σ H fun vs H1 => ∃ a xs, vs = [.ref a] ∧ SqT K H1 a xs ∧ R (IteT K a) H1
theorem pi_enumT {X : Cx} {e : Expr} {ta : TA} {p pos tpos : Pos} {elts : List Expr} {kk : Nat} (hg : Gl X "enumerate") (hm : X.mg "enumerate" = none) (ha : PA X [e] ta) (hs : starEach [e] X.env = [(false, eval e X.env)]) :
    PI X (.Tuple elts kk tpos) (.Call (.Name "enumerate" p) [e] [] pos) (iEnumT X.K ta) := by
  intro pins s σ H R I h
  refine PyProof.Rows.Call_ (ld_blt I hg hm PyProof.Rows.boot_enumerate (PyProof.Rows.callWith_type1 (thn (ha pos pins s σ H _ I h) fun us s1 ⟨vs, H1, I1, r1, q1⟩ => ?_) hs rfl))
  obtain ⟨a, xs, ex, hq, q⟩ := q1
  subst ex
  obtain ⟨u, rfl, ru⟩ := vals1 r1
  cases ru
  obtain ⟨its, rv, tp, hz⟩ := I1.tuple hq
  have al : a < s1.heap.objs.size := by obtain ⟨o, ho, _⟩ := tp; exact Heap.lt_size ho
  refine enumT_call (show s1.heap.IsTuple a its.toArray from tp) fun g en ti kp => wpAny_pyIter_enum en ?_
  refine ⟨s1.heap.objs.size + 1, [s1.heap.objs.size + 1, s1.heap.objs.size], _, _, H1, rfl, I1.kept (t' := s1.toks) kp, turn_enumT a (s1.heap.objs.size + 1) s1.heap.objs.size, ⟨⟨.none, en⟩, ti, Nat.succ_ne_self _, Nat.ne_of_lt al, Nat.ne_of_lt (Nat.lt_succ_of_lt al)⟩, fun b hb => ?_, q⟩
  have ge : s1.heap.objs.size ≤ b := by
    rcases (show b = s1.heap.objs.size + 1 ∨ b = s1.heap.objs.size by simpa using hb) with z | z
    · rw [z]; exact Nat.le_succ _
    · rw [z]; exact Nat.le_refl _
  exact I1.fpOk ge (I1.hok.fresh ge)
def enumD (i : Nat) : List D → List D
  | [] => []
  | x :: r => .tup [.int (i : Int), x] :: enumD (i + 1) r
theorem enumD_length : ∀ (xs : List D) (k : Nat), (enumD k xs).length = xs.length
  | [], _ => rfl
  | x :: r, k => by simp [enumD, enumD_length r]
theorem enumD_get : ∀ (xs : List D) (k i : Nat) (d : D), (enumD k xs)[i]? = some d → ∃ x, xs[i]? = some x ∧ d = .tup [.int ((k + i : Nat) : Int), x]
  | [], _, _, _, h => by simp [enumD] at h
  | x :: r, k, 0, d, h => by simp [enumD] at h; exact ⟨x, rfl, by rw [← h]; simp⟩
  | x :: r, k, i + 1, d, h => by
    obtain ⟨y, a, b⟩ := enumD_get r (k + 1) i d (by simpa [enumD] using h)
    exact ⟨y, by simpa using a, by rw [b, show k + 1 + i = k + (i + 1) by omega]⟩
theorem itOk_enumT {K : PySem.W.Frag} {H : Hp} {μ : Nat → Addr} {n : Nat} {a : Addr} {vs : List V} {xs : List D} (h : SqT K H a vs) (r : RepL K H μ n vs xs) : ItOk K H μ n (IteT K a) (enumD 0 xs) none where
  go := fun i H' μ' st x s _ hi => by
    rw [enumD_length] at hi
    have hl := r.length
    exact ⟨vs, vs[i], x.tup _ _ h, List.getElem?_eq_getElem (by omega)⟩
  yld := fun i d H' μ' st v H'' x s _ e y => by
    obtain ⟨T, w, rfl, hT, rfl, y⟩ := y
    obtain ⟨z, e1, rfl⟩ := enumD_get _ _ _ _ e
    obtain ⟨v', e', rv⟩ := r.get e1
    have q := y vs (x.tup _ _ h)
    rw [e'] at q
    cases q
    rw [Nat.zero_add]
    exact ⟨Ext.new hT, s.new hT, .tup (SqT.of upd_same) (.cons (.int _) (.cons ((rv.up x).up (Ext.new hT)) .nil))⟩
  stop := fun i H' μ' st x s _ hi => ⟨vs, x.tup _ _ h, by rw [enumD_length] at hi; rw [r.length]; exact hi⟩
def iEnum (R : SA) : SI := fun ρ st => (R ρ st).bind fun p => match p.1 with | [.tup xs] => some ((enumD 0 xs, none), p.2) | _ => none
theorem ei_enum {X : Cx} {e : Expr} {R : SA} {p pos tpos : Pos} {elts : List Expr} {kk : Nat} (hm : X.mg "enumerate" = none) (ha : PAv X [e] R) (hg : Gl X "enumerate" := by rfl) (hs : starEach [e] X.env = [(false, eval e X.env)] := by rfl) : PIv X (.Tuple elts kk tpos) (.Call (.Name "enumerate" p) [e] [] pos) (iEnum R) := by
  refine PI.imp (pi_enumT hg hm ha hs) fun σ H R h => ?_
  obtain ⟨μ, ρ, st, xs, chk, st', hr, s, e, c, q⟩ := h
  unfold iEnum at e
  obtain ⟨⟨p1, p2⟩, e1, e⟩ := Option.bind_eq_some_iff.mp e
  dsimp only at e
  split at e
  · cases e
    refine ⟨μ, ρ, st, _, st', hr, s, e1, fun v μ1 H1 x1 s1 r1 => ?_⟩
    obtain ⟨w, rfl, r2⟩ := repL_one r1
    cases r2 with
    | tup h1 h2 => exact ⟨_, _, rfl, h1, q _ μ1 H1 x1 s1 (itOk_enumT h1 h2)⟩
  · cases e
end Ev
namespace Ev
open PySem PySem.Spec L2
def iSeq (A : SE) : SI := fun ρ st => (A ρ st).bind fun p => match p.1 with
  | .lst h => (p.2[h]?).bind fun xs => some ((xs, some (h, xs)), p.2)
  | .tup xs => some ((xs, none), p.2)
  | _ => none
def sNeg (A : SE) : SE := fun ρ st => (A ρ st).bind fun p => match p.1 with | .int i => some (.int (-i), p.2) | _ => none
section
variable {X : Cx} {tg l : Expr} {A : SE} {pos : Pos}
theorem ei_seq (hl : PEv X l A) : PIv X tg l (iSeq A) := by
  intro pins s σ H R I h
  obtain ⟨μ, ρ, st, xs, chk, st', hr, so, e, c, q⟩ := h
  unfold iSeq at e
  obtain ⟨⟨p1, p2⟩, e1, e⟩ := Option.bind_eq_some_iff.mp e
  dsimp only at e
  split at e
  · refine ei_list (tg := tg) hl pins s σ H R I ⟨μ, ρ, st, xs, chk, st', hr, so, ?_, c, q⟩
    unfold iSeqL
    rw [e1]
    exact e
  · refine ei_tup (tg := tg) hl pins s σ H R I ⟨μ, ρ, st, xs, chk, st', hr, so, ?_, c, q⟩
    unfold iSeqT
    rw [e1]
    exact e
  · cases e
theorem ev_neg (ha : PEv X l A) : PEv X (.UnaryOp .USub l pos) (sNeg A) := by
  refine PE.imp (pe_un un_neg ha) fun σ H Q h => ?_
  obtain ⟨μ, ρ, st, d, st', hr, s, e, q⟩ := h
  unfold sNeg at e
  obtain ⟨⟨p1, p2⟩, e1, e⟩ := Option.bind_eq_some_iff.mp e
  dsimp only at e
  split at e
  · cases e
    refine ⟨μ, ρ, st, _, _, hr, s, e1, fun v μ1 H1 x1 s1 r1 => ?_⟩
    exact ⟨_, rep_int r1, q _ μ1 H1 x1 s1 (.int _)⟩
  · cases e
end
def OnlyT (H : Hp) : Prop := ∀ b, H b = none ∨ (∃ o xs, H b = some (.frz o (.lst xs))) ∨ ∃ ps, H b = some (.tbl ps)
theorem frL_of {K : PySem.W.Frag} {H : Hp} {a : Addr} {xs : List V} (hO : OnlyT H) (h : SqL K H a xs) : FrL K H a xs := by
  rcases h with (h | h) | h
  · rcases hO a with z | ⟨o, ys, z⟩ | ⟨ps, z⟩
    · rw [h] at z; cases z
    · rw [h] at z; cases z
    · rw [h] at z; cases z
  · exact .inl h
  · exact .inr h
theorem repL_ints {K : PySem.W.Frag} {H : Hp} {μ : Nat → Addr} {n : Nat} : ∀ ns : List Int, RepL K H μ n (ns.map V.int) (ns.map D.int)
  | [] => .nil
  | i :: r => .cons (.int i) (repL_ints r)
theorem sp_law {K : PySem.W.Frag} {H : Hp} {a : Addr} {ns : List Int} {F : FS} {st' : Store} (hO : OnlyT H) (hT : Gx.Tabs K H) (hS : SqL K H a (ns.map V.int)) (e : F [.lst 0] [ns.map D.int] = some (.bl true, st')) :
    spOf K F [.ref a] H (fun v _ => v = .bl true) fun _ _ _ => False := by
  refine ⟨fun _ => a, [.lst 0], [ns.map D.int], .bl true, st', .cons (.lst (by simp)) .nil, ⟨by simp, fun i j h1 h2 h3 h4 _ => ?_, hT, fun i xs q => ?_⟩, e, fun v μ' H' _ _ r => ?_⟩
  · simp at h3 h4; omega
  · have hi : i = 0 := by
      have := (List.getElem?_eq_some_iff.mp q).1
      simpa using this
    subst hi
    have qx : ns.map D.int = xs := by simpa using q
    subst qx
    exact ⟨ns.map V.int, fun _ => frL_of hO hS, fun z => absurd z (Nat.lt_irrefl _), repL_ints ns⟩
  · cases r; rfl
end Ev
namespace Ev
open PySem L2
theorem fAdd_int (i j : Int) (st : Store) : fAdd (.int i) (.int j) st = some (.int (i + j), st) := by simp [fAdd, fOr, fI]
theorem fSub_int (i j : Int) (st : Store) : fSub (.int i) (.int j) st = some (.int (i - j), st) := by simp [fI]
theorem fMul_int {i j : Int} (h : CMul i j) (st : Store) : fMul (.int i) (.int j) st = some (.int (i * j), st) := by simp [fMul, fOr, fI, h]
theorem fMod_int {i j : Int} (h : j ≠ 0) (st : Store) : fMod (.int i) (.int j) st = some (.int (i.fmod j), st) := by simp [fI, h]
theorem fDiv_int {i j : Int} (h : CDivN i j) (st : Store) : fDiv (.int i) (.int j) st = some (.int (i.fdiv j), st) := by simp [fI, h]
theorem fPow_int {i j : Int} (h : CPow i j) (st : Store) : fPow (.int i) (.int j) st = some (.int (i ^ j.toNat), st) := by simp [fI, h]
theorem fLt_int (i j : Int) (st : Store) : fLt (.int i) (.int j) st = some (.bl (decide (i < j)), st) := by simp [fI]
theorem fLe_int (i j : Int) (st : Store) : fLe (.int i) (.int j) st = some (.bl (decide (i ≤ j)), st) := by simp [fI]
theorem fGt_int (i j : Int) (st : Store) : fGt (.int i) (.int j) st = some (.bl (decide (j < i)), st) := by simp [fI]
theorem fGe_int (i j : Int) (st : Store) : fGe (.int i) (.int j) st = some (.bl (decide (j ≤ i)), st) := by simp [fI]
theorem fEq_int (i j : Int) (st : Store) : fEq (.int i) (.int j) st = some (.bl (decide (i = j)), st) := by simp [fEq, fOr, fEqS, flat, scal]
theorem fNe_int (i j : Int) (st : Store) : fNe (.int i) (.int j) st = some (.bl (!decide (i = j)), st) := by simp [fNe, fOr, fEqS, flat, scal]
theorem fEq_str (i j : Str) (st : Store) : fEq (.str i) (.str j) st = some (.bl (decide (i = j)), st) := by simp [fEq, fOr, fEqS, flat, scal]
theorem fNe_str (i j : Str) (st : Store) : fNe (.str i) (.str j) st = some (.bl (!decide (i = j)), st) := by simp [fNe, fOr, fEqS, flat, scal]
theorem fIx_tup {xs : List D} {i : Int} {d : D} (h : atI xs i = some d) (st : Store) : fIx (.tup xs) (.int i) st = some (d, st) := by simp [fIx, itemsOf, h]
theorem fIx_lst {xs : List D} {k : Nat} {i : Int} {d : D} {st : Store} (hs : st[k]? = some xs) (h : atI xs i = some d) : fIx (.lst k) (.int i) st = some (d, st) := by simp [fIx, itemsOf, hs, h]
theorem fLen_tup (xs : List D) (st : Store) : fLen [.tup xs] st = some (.int xs.length, st) := by simp [fLen, itemsOf]
theorem fLen_lst {xs : List D} {k : Nat} {st : Store} (hs : st[k]? = some xs) : fLen [.lst k] st = some (.int xs.length, st) := by simp [fLen, itemsOf, hs]
theorem fTuple_lst {xs : List D} {k : Nat} {st : Store} (hs : st[k]? = some xs) : fTuple [.lst k] st = some (.tup xs, st) := by simp [fTuple, itemsOf, hs]
theorem fTuple_tup (xs : List D) (st : Store) : fTuple [.tup xs] st = some (.tup xs, st) := by simp [fTuple, itemsOf]
theorem fAdd_lst {xs ys : List D} {a b : Nat} {st : Store} (ha : st[a]? = some xs) (hb : st[b]? = some ys) (a0 : 0 < a) (b0 : 0 < b) (hz : (xs ++ ys).length ≤ sizeLine) : fAdd (.lst a) (.lst b) st = some (.lst st.length, st ++ [xs ++ ys]) := by
  simp only [fAdd, fOr, fI, fAddL, ha, hb, a0, b0, newL, hz, Option.none_or, and_self, if_true, Option.bind_some, Option.some_or]
theorem fAdd_tup {xs ys : List D} {st : Store} (h : xs ≠ []) (hz : xs.length + ys.length ≤ sizeLine) : fAdd (.tup xs) (.tup ys) st = some (.tup (xs ++ ys), st) := by
  simp only [fAdd, fOr, fI, fAddL, fAddT, Option.none_or, h, hz, ne_eq, not_false_eq_true, and_self, if_true]
structure Kp (h : Nat) (st st' : Store) : Prop where
  le : st.length ≤ st'.length
  eq : ∀ k, k < st.length → k ≠ h → st'[k]? = st[k]?
theorem Kp.refl {h : Nat} {st : Store} : Kp h st st := ⟨Nat.le_refl _, fun _ _ _ => rfl⟩
theorem Kp.trans {h : Nat} {a b c : Store} (x : Kp h a b) (y : Kp h b c) : Kp h a c := ⟨Nat.le_trans x.le y.le, fun k k1 k2 => (y.eq k (Nat.lt_of_lt_of_le k1 x.le) k2).trans (x.eq k k1 k2)⟩
theorem Kp.push {h : Nat} {st : Store} {xs : List D} : Kp h st (st ++ [xs]) := ⟨by simp, fun k k1 _ => List.getElem?_append_left k1⟩
theorem Kp.set {h : Nat} {st : Store} {xs : List D} : Kp h st (st.set h xs) := ⟨by simp, fun k _ k2 => List.getElem?_set_ne (Ne.symm k2)⟩
theorem Kp.fresh {h k : Nat} {st st' : Store} {xs : List D} (x : Kp h st st') (hk : st.length ≤ k) : Kp h st (st'.set k xs) := ⟨by simp; exact x.le, fun j j1 j2 => by rw [List.getElem?_set_ne (by omega)]; exact x.eq j j1 j2⟩
theorem Kp.get {h k : Nat} {st st' : Store} {xs : List D} (x : Kp h st st') (e : st[k]? = some xs) (hk : k ≠ h) : st'[k]? = some xs := by
  rw [x.eq k (List.getElem?_eq_some_iff.mp e).1 hk]; exact e
theorem get_set {st : Store} {k : Nat} {xs ys : List D} (e : st[k]? = some ys) : (st.set k xs)[k]? = some xs := List.getElem?_set_self (List.getElem?_eq_some_iff.mp e).1
theorem small (n : Nat) (h : n ≤ 1000000) : n ≤ sizeLine := Nat.le_trans h (by rw [sizeLine_eq]; decide)
theorem small' (n : Nat) (h : n < 1000000) : n < sizeLine := Nat.lt_of_lt_of_le h (by rw [sizeLine_eq]; decide)
end Ev
namespace Ev
open PySem L2
structure Dat (n w : Nat) (d : D) (p : PyData) : Prop where
  py : ∀ (st : Store) (k : Nat), n < k → toPy k st d = some p
  sh : p.showable = true
  nd : p.hasDict = false
  dp : p.depth ≤ n
  len : p.shown.length ≤ w
  ok : PyData.strOk p.shown = true
structure DatL (n w : Nat) (ds : List D) (ps : List PyData) : Prop where
  py : ∀ (st : Store) (k : Nat), n < k → mapO (toPy k st) ds = some ps
  sh : PyData.showableAll ps = true
  nd : PyData.hasDictAll ps = false
  dp : PyData.depthAll ps ≤ n
  len : piled (PyData.shownAll ps) ≤ w
  ok : (PyData.shownAll ps).all PyData.strOk = true
def Da (n w : Nat) (d : D) : Prop := ∃ p, Dat n w d p
def DaL (n w : Nat) (ds : List D) : Prop := ∃ ps, DatL n w ds ps
theorem Da.up {n w n' w' : Nat} {d : D} (h : Da n w d) (a : n ≤ n') (b : w ≤ w') : Da n' w' d := by
  obtain ⟨p, h⟩ := h
  exact ⟨p, fun st k hk => h.py st k (by omega), h.sh, h.nd, Nat.le_trans h.dp a, Nat.le_trans h.len b, h.ok⟩
theorem DaL.up {n w n' w' : Nat} {d : List D} (h : DaL n w d) (a : n ≤ n') (b : w ≤ w') : DaL n' w' d := by
  obtain ⟨p, h⟩ := h
  exact ⟨p, fun st k hk => h.py st k (by omega), h.sh, h.nd, Nat.le_trans h.dp a, Nat.le_trans h.len b, h.ok⟩
theorem DaL.nil {n : Nat} : DaL n 0 [] := ⟨[], fun _ _ _ => rfl, rfl, rfl, Nat.zero_le _, Nat.le_refl _, rfl⟩
theorem DaL.cons {n w w' : Nat} {d : D} {ds : List D} (h : Da n w d) (r : DaL n w' ds) : DaL n (w + 2 + w') (d :: ds) := by
  obtain ⟨p, h⟩ := h
  obtain ⟨ps, r⟩ := r
  refine ⟨p :: ps, fun st k hk => ?_, ?_, ?_, ?_, ?_, ?_⟩
  · unfold mapO; rw [h.py st k hk, r.py st k hk]; rfl
  · show (p.showable && PyData.showableAll ps) = true; rw [h.sh, r.sh]; rfl
  · show (p.hasDict || PyData.hasDictAll ps) = false; rw [h.nd, r.nd]; rfl
  · show max p.depth (PyData.depthAll ps) ≤ n; exact Nat.max_le.mpr ⟨h.dp, r.dp⟩
  · show piled (p.shown :: PyData.shownAll ps) ≤ _; rw [piled_cons]; have := h.len; have := r.len; omega
  · show ((p.shown :: PyData.shownAll ps).all PyData.strOk) = true; rw [List.all_cons, h.ok, r.ok]; rfl
theorem strOk_app (x y : Str) : PyData.strOk (x ++ y) = (PyData.strOk x && PyData.strOk y) := by
  show (x.cps ++ y.cps).all _ = _
  rw [Array.all_append]
  rfl
theorem strOk_of (s : String) : PyData.strOk (Str.ofString s) = true := by
  unfold PyData.strOk
  rw [Str.ofString_eq_toList]
  rw [List.all_toArray, List.all_eq_true]
  intro c hc
  obtain ⟨a, _, rfl⟩ := List.mem_map.mp hc
  rw [decide_eq_true_eq]
  have q := a.valid
  show a.val.toNat < 0x110000
  rcases q with q | q
  · exact Nat.lt_trans (by simpa using q) (by decide)
  · simpa using q.2
theorem strOk_join : ∀ ts : List Str, ts.all PyData.strOk = true → PyData.strOk (Str.join ", " ts) = true
  | [], _ => by decide +kernel
  | [x], h => by
    show PyData.strOk x = true
    rw [List.all_cons, Bool.and_eq_true] at h
    exact h.1
  | x :: y :: r, h => by
    rw [List.all_cons, Bool.and_eq_true] at h
    show PyData.strOk (x ++ ", " ++ Str.join ", " (y :: r)) = true
    rw [strOk_app, strOk_app, h.1, strOk_join (y :: r) h.2]
    decide +kernel
theorem Da.tup {n w : Nat} {ds : List D} (h : DaL n w ds) : Da (n + 1) (w + 3) (.tup ds) := by
  obtain ⟨ps, h⟩ := h
  refine ⟨.tuple ps, fun st k hk => ?_, h.sh, h.nd, Nat.succ_le_succ h.dp, ?_, ?_⟩
  · cases k with
    | zero => omega
    | succ k =>
      show (mapO (toPy k st) ds).map PyData.tuple = _
      rw [h.py st k (by omega)]; rfl
  · show (tupleText (PyData.shownAll ps)).length ≤ w + 3
    have hl := h.len
    unfold tupleText
    rw [strLen_append, strLen_append]
    have e1 : ((("(" : String) : Str)).length = 1 := by decide +kernel
    have e2 : (((if (PyData.shownAll ps).length == 1 then ",)" else ")" : String)) : Str).length ≤ 2 := by
      split <;> decide +kernel
    rw [e1]
    by_cases z : PyData.shownAll ps = []
    · rw [z] at e2 ⊢
      have e3 : (Str.join ", " ([] : List Str)).length = 0 := by decide +kernel
      rw [e3]
      omega
    · have q := join_length_add _ z
      omega
  · show PyData.strOk (tupleText (PyData.shownAll ps)) = true
    unfold tupleText
    rw [strOk_app, strOk_app, strOk_join _ h.ok, strOk_of, strOk_of]
    rfl
theorem ofString_len (s : String) : (Str.ofString s).length = s.length := by
  unfold Str.length
  rw [Str.ofString_eq_toList]
  rw [List.size_toArray, List.length_map]
  first | exact String.length_toList | exact String.length_toList s | rfl | exact (String.length_toList).symm
theorem Da.int {i : Int} (h : i.natAbs < 10 ^ 9) : Da 0 10 (.int i) := by
  refine ⟨.int i, fun st k hk => ?_, ?_, rfl, Nat.le_refl _, ?_, strOk_of _⟩
  · cases k with
    | zero => omega
    | succ k => rfl
  · show decide (i.natAbs.log2 < 1920) = true
    rw [decide_eq_true_eq]
    by_cases z : i.natAbs = 0
    · rw [z]; decide
    · exact (Nat.log2_lt z).mpr (Nat.lt_trans h (by decide +kernel))
  · show (Str.ofString (toString i)).length ≤ 10
    rw [ofString_len]
    exact int_text_length_le10 (by decide) h
theorem Da.str {x : Str} {w : Nat} (h : (reprText x).length ≤ w) (g : PyData.strOk (reprText x) = true) : Da 0 w (.str x) := by
  refine ⟨.str x, fun st k hk => ?_, rfl, rfl, Nat.le_refl _, h, g⟩
  cases k with
  | zero => omega
  | succ k => rfl
theorem repr_ok {n w : Nat} {d : D} (h : Da n w d) (hn : n ≤ 60) (hw : w ≤ 16000000) (hq : isSeq d = true) : ∃ x, PyData.strOk x = true ∧ ∀ st, fRepr [d] st = some (.str x, st) := by
  obtain ⟨p, h⟩ := h
  refine ⟨p.shown, h.ok, fun st => ?_⟩
  have hz : p.shown.length ≤ sizeLine := Nat.le_trans h.len (Nat.le_trans hw (by rw [sizeLine_eq]; decide))
  simp only [fRepr, hq, if_true, h.py st 70 (by omega), Option.bind_some, h.sh, h.nd, Nat.le_trans h.dp hn, hz, and_self]
end Ev
namespace Ev
open PySem PySem.Spec L2
section
variable {prog : Program} {w : World} {A : Around} {E : Value → Shared → Prop} {s : Shared} {it l : Addr} {i : Int}
end
def fRev : FS := fun ds st => match ds with | [.lst k] => (st[k]?).bind fun xs => newL xs.reverse st | _ => none
theorem RepL.reverse {K : PySem.W.Frag} {H : Hp} {μ : Nat → Addr} {n : Nat} : ∀ {vs : List V} {ds : List D}, RepL K H μ n vs ds → RepL K H μ n vs.reverse ds.reverse
  | _, [], h => by cases h; exact .nil
  | _, d :: ds, h => by
    cases h with
    | cons h1 h2 => rw [List.reverse_cons, List.reverse_cons]; exact (RepL.reverse h2).append (.cons h1 .nil)
end Ev
namespace Ev
open PySem PySem.Spec PySem.W PyProof.Rows L2
def runT {α : Type} (ans : Nat → Nat → Bool) : KasT α → α
  | .ret a => a
  | .ask i j k => runT ans (k (ans i j))
def okT (n : Nat) (good : Array Nat → Bool) : KasT (Array Nat) → Bool
  | .ret p => good p
  | .ask i j k => decide (i < n) && (decide (j < n) && (okT n good (k true) && okT n good (k false)))
def perm6 (n : Nat) (p : Array Nat) : Bool := p.toList.isPerm (List.range n)
theorem ok2 : okT 2 (perm6 2) (kas_sort 2) = true := by decide +kernel
theorem ok3 : okT 3 (perm6 3) (kas_sort 3) = true := by decide +kernel
theorem ok4 : okT 4 (perm6 4) (kas_sort 4) = true := by decide +kernel
theorem ok5 : okT 5 (perm6 5) (kas_sort 5) = true := by decide +kernel
theorem ok6 : okT 6 (perm6 6) (kas_sort 6) = true := by decide +kernel
theorem okAll {n : Nat} (h2 : 2 ≤ n) (h6 : n ≤ 6) : okT n (perm6 n) (kas_sort n) = true := by
  have : n = 2 ∨ n = 3 ∨ n = 4 ∨ n = 5 ∨ n = 6 := by omega
  rcases this with rfl | rfl | rfl | rfl | rfl
  · exact ok2
  · exact ok3
  · exact ok4
  · exact ok5
  · exact ok6
theorem runT_good {n : Nat} {good : Array Nat → Bool} {ans : Nat → Nat → Bool} : ∀ {t : KasT (Array Nat)}, okT n good t = true → good (runT ans t) = true
  | .ret p, h => h
  | .ask i j k, h => by
    unfold okT at h
    simp only [Bool.and_eq_true, decide_eq_true_eq] at h
    unfold runT
    cases ans i j
    · exact runT_good h.2.2.2
    · exact runT_good h.2.2.1
theorem runT_wp {n : Nat} {good : Array Nat → Bool} {ans : Nat → Nat → Bool} {cmp : Nat → Nat → (Bool → Shared → Prop) → Shared → Prop} {s : Shared} (hc : ∀ i j C, i < n → j < n → C (ans i j) s → cmp i j C s) {Q : Array Nat → Shared → Prop} :
    ∀ {t : KasT (Array Nat)}, okT n good t = true → Q (runT ans t) s → t.kasWp cmp Q s
  | .ret p, _, q => q
  | .ask i j k, h, q => by
    unfold okT at h
    simp only [Bool.and_eq_true, decide_eq_true_eq] at h
    unfold KasT.kasWp
    refine hc i j _ h.1 h.2.1 ?_
    unfold runT at q
    cases hb : ans i j
    · rw [hb] at q; exact runT_wp hc h.2.2.2 q
    · rw [hb] at q; exact runT_wp hc h.2.2.1 q
section
variable {prog : Program} {w : World} {A : Around} {E : Value → Shared → Prop} {s : Shared}
theorem sort_pairs {κ : SortKind} {ans : Nat → Nat → Bool} {a : Addr} {vs : List Value} {n : Nat} {P : PySem.Fin → Shared → Prop} (ho : s.heap.get? a = some (seqObj "list" vs.toArray n)) (h2 : 2 ≤ vs.length) (h6 : vs.length ≤ 6)
    (hk : ∀ (h' : Heap) (Q : SortKind → Shared → Prop), (∀ b o, b ≠ a → s.heap.get? b = some o → h'.get? b = some o) → Q κ { s with heap := h' } → wpAny (model prog w) A (keyKind' vs.toArray) Q (fun _ _ => False) { s with heap := h' })
    (hc : ∀ (h' : Heap) i j C, (∀ b o, b ≠ a → s.heap.get? b = some o → h'.get? b = some o) → i < vs.length → j < vs.length → C (ans i j) { s with heap := h' } → kas_ask prog w A κ vs i j C { s with heap := h' })
    (h : P (.done (.ret .none)) { s with heap := sortedHeap s.heap a vs (List.toArray ((runT ans (kas_sort vs.length)).toList.map fun i => vs.getD i Value.none)) }) :
    wpAny (model prog w) A (Builtin.«list.sort» ⟨[.ref a], []⟩) P E s := by
  rw [list_sort_plain]
  have ha : a < s.heap.objs.size := Heap.lt_size ho
  refine wpAny_bind (listItems_at ho rfl ?_)
  refine wpAny_bind (listUpdate_at ho rfl ?_ (by rw [List.size_toArray, sizeLine_eq]; omega) (Nat.zero_le _))
  obtain ⟨e1, ho1⟩ : ∃ e1, (s.heap.update a (Obj.mapSeq fun _ => (#[] : Array Value))).get? a = some (seqObj "list" #[] e1) := ⟨_, get?_update_seq ho (fun _ => #[])⟩
  refine wpAny_bind (seqEpoch_at ho1 rfl ?_)
  refine wpAny_bind (wpAny_newTuple ?_ (by show vs.length ≤ _; rw [sizeLine_eq]; omega))
  refine wpAny_bind (wpAny_newList ?_ (Nat.zero_le _))
  refine wpAny_holding ?_
  have keep : ∀ b o, b ≠ a → s.heap.get? b = some o → (((s.heap.update a (Obj.mapSeq fun _ => (#[] : Array Value))).push (seqObj "tuple" vs.toArray 0)).push (seqObj "list" #[] 0)).get? b = some o := fun b o nb hb => by
    refine Heap.get?_push_of_some _ (Heap.get?_push_of_some _ ?_)
    rw [Heap.get?_update_ne _ _ _ _ nb]; exact hb
  have ho6 : (((s.heap.update a (Obj.mapSeq fun _ => (#[] : Array Value))).push (seqObj "tuple" vs.toArray 0)).push (seqObj "list" #[] 0)).get? a = some (seqObj "list" #[] e1) :=
    Heap.get?_push_of_some _ (Heap.get?_push_of_some _ ho1)
  show wpAny (model prog w) A _ P E { s with heap := ((s.heap.update a (Obj.mapSeq fun _ => (#[] : Array Value))).push (seqObj "tuple" vs.toArray 0)).push (seqObj "list" #[] 0) }
  dsimp only
  have hn2 : ¬ vs.toArray.size < 2 := by rw [List.size_toArray]; omega
  rw [if_neg hn2, if_neg hn2]
  refine wpAny_bind (wpAny_mono (hk _ (fun κ' s' => κ' = κ ∧ s' = _) keep ⟨rfl, rfl⟩) (fun κ' s0 hk' => ?_) fun _ _ x => x.elim)
  obtain ⟨rfl, rfl⟩ := hk'
  have run := runT_wp (n := vs.length) (good := perm6 vs.length) (ans := ans) (cmp := kas_ask prog w A κ' vs) (s := { s with heap := ((s.heap.update a (Obj.mapSeq fun _ => (#[] : Array Value))).push (seqObj "tuple" vs.toArray 0)).push (seqObj "list" #[] 0) })
    (fun i j C hi hj q => hc _ i j C keep hi hj q) (Q := fun p s' => p = runT ans (kas_sort vs.length) ∧ s' = { s with heap := ((s.heap.update a (Obj.mapSeq fun _ => (#[] : Array Value))).push (seqObj "tuple" vs.toArray 0)).push (seqObj "list" #[] 0) }) (okAll h2 h6) ⟨rfl, rfl⟩
  refine wpAny_bind (wpAny_mono (kat_run (Q := fun st' s' => ∃ p : Array Nat, p.size = vs.length ∧ arrOf st' = p.map (kas_item (vs.toArray.zip vs.toArray)) ∧ failedOf st' = none ∧ p = runT ans (kas_sort vs.length) ∧ s' = { s with heap := ((s.heap.update a (Obj.mapSeq fun _ => (#[] : Array Value))).push (seqObj "tuple" vs.toArray 0)).push (seqObj "list" #[] 0) })
    rfl h2 (by omega) (fun p' st' s' a1 a2 a3 a4 => ⟨p', a1, a2, a3, a4⟩) run) ?_ fun _ _ e => e)
  rintro ⟨⟨⟩, st'⟩ s' ⟨p, hp, har, hf, ep, rfl⟩
  dsimp only
  have hout := kat_snds rfl har
  refine wpAny_bind (seqEpoch_at ho6 rfl ?_)
  refine wpAny_bind (listUpdate_at ho6 rfl ?_ (Nat.zero_le _) (by rw [hout, List.size_toArray, List.length_map, Array.length_toList, hp, sizeLine_eq]; omega))
  rw [hf]
  simp only [bne_self_eq_false, Bool.false_eq_true, if_false]
  rw [hout, ep]
  exact wpAny_pure h
theorem sorted_pairs {κ : SortKind} {ans : Nat → Nat → Bool} {l : Addr} {vs : List Value} {Q : Value → Shared → Prop} (hl : s.heap.IsList l vs.toArray) (h2 : 2 ≤ vs.length) (h6 : vs.length ≤ 6)
    (hk : ∀ (A : Around) (h' : Heap) (Q : SortKind → Shared → Prop), (∀ b o, s.heap.get? b = some o → h'.get? b = some o) → Q κ { s with heap := h' } → wpAny (model prog w) A (keyKind' vs.toArray) Q (fun _ _ => False) { s with heap := h' })
    (hc : ∀ (A : Around) (h' : Heap) i j C, (∀ b o, s.heap.get? b = some o → h'.get? b = some o) → i < vs.length → j < vs.length → C (ans i j) { s with heap := h' } → kas_ask prog w A κ vs i j C { s with heap := h' })
    (h : Q (.ref (s.heap.objs.size + 1)) { s with heap := sortedAll s.heap vs (List.toArray ((runT ans (kas_sort vs.length)).toList.map fun i => vs.getD i Value.none)) }) :
    wpAny (model prog w) A (call (.builtin "sorted") [.ref l]) Q E s := by
  refine Calls.call_function_entry kind_sorted plain_sorted entry_sorted (args_sorted1 _) ?_
  unfold Builtin.«sorted»
  refine wpAny_bind (m := checkCount "sorted" 1 1 _) (wpAny_pure ?_)
  refine wpAny_bind (collect_list hl ?_ (by rw [sizeLine_eq]; omega))
  refine wpAny_bind (wpAny_newList ?_ (by rw [sizeLine_eq]; omega))
  have hsz : ((s.heap.push (seqObj "list" #[] 0)).update s.heap.objs.size (Obj.mapSeq (· ++ vs.toArray))).objs.size = s.heap.objs.size + 1 := by
    rw [Heap.size_update, size_push']
  have hoL : (((s.heap.push (seqObj "list" #[] 0)).update s.heap.objs.size (Obj.mapSeq (· ++ vs.toArray))).push (seqObj "list" vs.toArray 0)).get? (s.heap.objs.size + 1) = some (seqObj "list" vs.toArray 0) := by
    rw [← hsz]; exact Heap.get?_push_size _ rfl
  have keep : ∀ b o, s.heap.get? b = some o → (((s.heap.push (seqObj "list" #[] 0)).update s.heap.objs.size (Obj.mapSeq (· ++ vs.toArray))).push (seqObj "list" vs.toArray 0)).get? b = some o := fun b o q => by
    have hlt : b < s.heap.objs.size := Heap.lt_size q
    rw [Heap.get?_push_ne _ _ _ (by rw [hsz]; exact Nat.ne_of_lt (Nat.lt_succ_of_lt hlt)), Heap.get?_update_ne _ _ _ _ (Nat.ne_of_lt hlt), Heap.get?_push_ne _ _ _ (Nat.ne_of_lt hlt)]
    exact q
  show wpAny _ _ _ _ _ { s with heap := ((s.heap.push (seqObj "list" #[] 0)).update s.heap.objs.size (Obj.mapSeq (· ++ vs.toArray))).push (seqObj "list" vs.toArray 0) }
  rw [hsz]
  have old : ∀ b o, s.heap.get? b = some o → b ≠ s.heap.objs.size + 1 := fun b o q => Nat.ne_of_lt (Nat.lt_succ_of_lt (Heap.lt_size q))
  refine wpAny_bind (wpAny_holding (wpAny_call_entry slot_list_sort ⟨_, hoL, rfl⟩ entry_list_sort (sort_pairs (κ := κ) (ans := ans) hoL h2 h6 (fun h' Q kp q => ?_) (fun h' i j C kp hi hj q => ?_) ⟨_, rfl, ?_⟩) (args_list_sort _)))
  · exact hk _ h' Q (fun b o z => kp b o (old b o z) (keep b o z)) q
  · exact hc _ h' i j C (fun b o z => kp b o (old b o z) (keep b o z)) hi hj q
  · exact wpAny_pure ⟨_, rfl, h⟩
end
def pr : D → Option (Int × Int)
  | .tup [.int a, .int b] => some (a, b)
  | _ => none
theorem pr_some {d : D} {p : Int × Int} (h : pr d = some p) : d = .tup [.int p.1, .int p.2] := by
  unfold pr at h
  split at h
  · cases h; rfl
  · cases h
def lexLt (p q : Int × Int) : Bool := if p.1 = q.1 then decide (p.2 < q.2) else decide (p.1 < q.1)
def ansOf (ps : List (Int × Int)) (i j : Nat) : Bool := lexLt (ps.getD i (0, 0)) (ps.getD j (0, 0))
def sortD (xs : List D) (ps : List (Int × Int)) : List D := (runT (ansOf ps) (kas_sort xs.length)).toList.map fun i => xs.getD i .non
def fSort : FS := fun ds st => match ds with
  | [.lst k] => (st[k]?).bind fun xs => (mapO pr xs).bind fun ps => if 2 ≤ xs.length ∧ xs.length ≤ 6 then newL (sortD xs ps) st else none
  | _ => none
theorem mapO_get {α β : Type} {f : α → Option β} : ∀ {xs : List α} {ys : List β}, mapO f xs = some ys → xs.length = ys.length ∧ ∀ (i : Nat) x, xs[i]? = some x → ∃ y, ys[i]? = some y ∧ f x = some y
  | [], ys, h => by
    unfold mapO at h
    cases h
    exact ⟨rfl, fun i x z => by simp at z⟩
  | a :: r, ys, h => by
    unfold mapO at h
    obtain ⟨b, h1, h⟩ := Option.bind_eq_some_iff.mp h
    obtain ⟨bs, h2, h⟩ := Option.bind_eq_some_iff.mp h
    cases h
    obtain ⟨l, g⟩ := mapO_get h2
    refine ⟨by simp [l], fun i x z => ?_⟩
    cases i with
    | zero => simp at z; subst z; exact ⟨b, rfl, h1⟩
    | succ i => simp at z; exact g i x (by simpa using z)
def PairAt (h : Heap) (v : Value) (p : Int × Int) : Prop := ∃ (a : Addr) (o : Obj) (t u : Tok) (n : Nat), v = .ref a ∧ h.get? a = some o ∧ o.cls = .type "tuple" ∧ o.data = .seq #[.int p.1 t, .int p.2 u] n
theorem PairAt.keep {h h' : Heap} {v : Value} {p : Int × Int} (x : PairAt h v p) (k : ∀ b o, h.get? b = some o → h'.get? b = some o) : PairAt h' v p := by
  obtain ⟨a, o, t, u, n, e1, e2, e3, e4⟩ := x
  exact ⟨a, o, t, u, n, e1, k _ _ e2, e3, e4⟩
section
variable {prog : Program} {w : World} {A : Around} {E : Value → Shared → Prop} {s : Shared}
theorem pair_lt {x y : Value} {p q : Int × Int} {C : Bool → Shared → Prop} (hx : PairAt s.heap x p) (hy : PairAt s.heap y q) (h : C (lexLt p q) s) : wpAny (model prog w) A (keyLt' (tuples' true) x y) C E s := by
  obtain ⟨a, o, t, u, n, rfl, e2, e3, e4⟩ := hx
  obtain ⟨a', o', t', u', n', rfl, f2, f3, f4⟩ := hy
  refine kat_lt e2 e4 f2 f4 (kat_cons ?_)
  refine wpAny_eqBool_int ?_
  refine kat_go (fun he => ?_) (fun he => ?_)
  · have he : p.1 = q.1 := by simpa using he
    refine kat_yes (kat_cons (wpAny_eqBool_int (kat_go (fun hf => ?_) (fun hf => ?_))))
    · have hf : p.2 = q.2 := by simpa using hf
      refine kat_yes (kat_nil ?_)
      have : lexLt p q = false := by unfold lexLt; rw [if_pos he, hf]; simp
      rw [this] at h
      simpa using h
    · refine kat_no ?_
      show wpAny _ _ (oneLt' false _ _) _ _ _
      refine kat_one _ _ (lt_int ?_)
      have : lexLt p q = decide (p.2 < q.2) := by unfold lexLt; rw [if_pos he]
      rw [this] at h
      exact h
  · have he : p.1 ≠ q.1 := by simpa using he
    refine kat_no ?_
    show wpAny _ _ (oneLt' true _ _) _ _ _
    refine oneLt_int ?_
    have : lexLt p q = decide (p.1 < q.1) := by unfold lexLt; rw [if_neg he]
    rw [this] at h
    exact h
end
theorem firsts_ok {h : Heap} : ∀ {vs : List Value} {ps : List (Int × Int)}, vs.length = ps.length → (∀ (i : Nat) v, vs[i]? = some v → ∃ p, ps[i]? = some p ∧ PairAt h v p) → ∃ fs : List Value, fs.length = vs.length ∧ KatTups h vs fs ∧ ∀ v ∈ fs, ∃ i t, v = .int i t
  | [], [], _, _ => ⟨[], rfl, trivial, fun _ z => by cases z⟩
  | [], _ :: _, l, _ => by cases l
  | _ :: _, [], l, _ => by cases l
  | v :: vs, p :: ps, l, g => by
    obtain ⟨fs, l', k, t⟩ := firsts_ok (vs := vs) (ps := ps) (by simpa using l) fun i v z => g (i + 1) v (by simpa using z)
    obtain ⟨p', e, a, o, t1, u, n, rfl, e2, e3, e4⟩ := g 0 v rfl
    cases e
    refine ⟨.int p.1 t1 :: fs, by simp [l'], KatTups.cons e2 e3 e4 rfl k, fun v z => ?_⟩
    rcases List.mem_cons.mp z with rfl | z
    · exact ⟨_, _, rfl⟩
    · exact t v z
theorem getD_rep {K : PySem.W.Frag} {H : Hp} {μ : Nat → Addr} {n : Nat} {vs : List V} {xs : List D} (r : RepL K H μ n vs xs) : ∀ is : List Nat, (∀ i ∈ is, i < xs.length) → RepL K H μ n (is.map fun i => vs.getD i .non) (is.map fun i => xs.getD i .non)
  | [], _ => .nil
  | i :: is, h => by
    have hi := h i List.mem_cons_self
    obtain ⟨v, e, rv⟩ := r.get (List.getElem?_eq_getElem hi)
    refine .cons ?_ (getD_rep r is fun j hj => h j (List.mem_cons_of_mem _ hj))
    dsimp only
    rw [List.getD_eq_getElem?_getD, List.getD_eq_getElem?_getD, e, List.getElem?_eq_getElem hi]
    exact rv
theorem getD_vals {vs : List V} {us : List Value} (r : Vals vs us) : ∀ is : List Nat, (∀ i ∈ is, i < vs.length) → Vals (is.map fun i => vs.getD i .non) (is.map fun i => us.getD i Value.none)
  | [], _ => .nil
  | i :: is, h => by
    have hi := h i List.mem_cons_self
    obtain ⟨v, e, rv⟩ := r.get (List.getElem?_eq_getElem hi)
    refine .cons ?_ (getD_vals r is fun j hj => h j (List.mem_cons_of_mem _ hj))
    dsimp only
    rw [List.getD_eq_getElem?_getD, List.getD_eq_getElem?_getD, e, List.getElem?_eq_getElem hi]
    exact rv
theorem perm6_is {n : Nat} {p : Array Nat} (h : perm6 n p = true) : p.toList.Perm (List.range n) := List.isPerm_iff.mp h
theorem idx_lt {n : Nat} {ans : Nat → Nat → Bool} (h2 : 2 ≤ n) (h6 : n ≤ 6) : ∀ i ∈ (runT ans (kas_sort n)).toList, i < n := fun i hi => by
  have g := perm6_is (runT_good (ans := ans) (okAll h2 h6))
  exact List.mem_range.mp (g.mem_iff.mp hi)
def rSortP (K : PySem.W.Frag) : List V → Hp → VK → Prop := fun vs H Q => ∃ (a : Addr) (ws : List V) (ps : List (Int × Int)), vs = [V.ref a] ∧ SqL K H a ws ∧ 2 ≤ ws.length ∧ ws.length ≤ 6 ∧ ws.length = ps.length ∧
  (∀ (i : Nat) v, ws[i]? = some v → ∃ p b, ps[i]? = some p ∧ v = .ref b ∧ SqT K H b [.int p.1, .int p.2]) ∧
  ∀ q : Addr, H q = none → Q (.ref q) (upd H q (.lst ((runT (ansOf ps) (kas_sort ws.length)).toList.map fun i => ws.getD i .non)))
theorem call_sortP {X : Cx} : CallR X (.builtin "sorted") (rSortP X.K) := by
  intro pins s σ H vs us Q I r h
  obtain ⟨a, ws, ps, rfl, hs, h2, h6, hl, hp, q⟩ := h
  obtain ⟨its, rv, pl, hz⟩ := I.list hs
  rw [Vals.ref1 r]
  have el : its.length = ws.length := rv.length.symm
  have each : ∀ (i : Nat) v, its[i]? = some v → ∃ p, ps[i]? = some p ∧ PairAt s.heap v p := fun i v e => by
    have hi : i < ws.length := by rw [← el]; exact (List.getElem?_eq_some_iff.mp e).1
    obtain ⟨u, e1, r1⟩ := rv.get (List.getElem?_eq_getElem hi)
    rw [e] at e1
    cases e1
    obtain ⟨p, b, e2, e3, e4⟩ := hp i _ (List.getElem?_eq_getElem hi)
    rw [e3] at r1
    cases r1
    obtain ⟨ys, r2, ⟨o, ho, hc, n, hd⟩, _⟩ := I.tuple e4
    obtain ⟨x, y, rfl, rx, ry⟩ := Vals.two r2
    obtain ⟨t, rfl⟩ := rx
    obtain ⟨u, rfl⟩ := ry
    exact ⟨p, e2, b, o, t, u, n, rfl, ho, hc, hd⟩
  refine sorted_pairs (κ := tuples' true) (ans := ansOf ps) pl.isList (by rw [el]; exact h2) (by rw [el]; exact h6) (fun A h' Q kp q => ?_) (fun A h' i j C kp hi hj q => ?_) ?_
  · obtain ⟨fs, l1, kt, fi⟩ := firsts_ok (h := h') (vs := its) (ps := ps) (by rw [el, hl]) fun i v e => by
      obtain ⟨p, e1, e2⟩ := each i v e
      exact ⟨p, e1, e2.keep kp⟩
    refine kat_kind (s := { s with heap := h' }) (T := .type "int") kt (by rw [l1, el]; omega) (fun v hv => ?_) (by decide +kernel) q
    obtain ⟨i, t, rfl⟩ := fi v hv
    intro A' Q' E' s' _ q'
    exact wpAny_pure q'
  · obtain ⟨p, e1, e2⟩ := each i _ (List.getElem?_eq_getElem hi)
    obtain ⟨p', f1, f2⟩ := each j _ (List.getElem?_eq_getElem hj)
    have g1 : its.getD i Value.none = its[i] := by simp [hi]
    have g2 : its.getD j Value.none = its[j] := by simp [hj]
    unfold kas_ask
    rw [g1, g2]
    refine pair_lt (s := { s with heap := h' }) (e2.keep kp) (f2.keep kp) ?_
    have a1 : ansOf ps i j = lexLt p p' := by
      unfold ansOf
      rw [List.getD_eq_getElem?_getD, List.getD_eq_getElem?_getD, e1, f1]
      rfl
    rw [a1] at q
    exact q
  · rw [el]
    obtain ⟨ep, he'⟩ := PyProof.Rows.sortedAll_at s.heap its (List.toArray ((runT (ansOf ps) (kas_sort ws.length)).toList.map fun i => its.getD i Value.none))
    have ix := idx_lt (n := ws.length) (ans := ansOf ps) h2 h6
    have gv := getD_vals rv _ ix
    have hlen : ((runT (ansOf ps) (kas_sort ws.length)).toList.map fun i => ws.getD i V.non).length ≤ sizeLine := by
      have g := (perm6_is (runT_good (ans := ansOf ps) (okAll h2 h6))).length_eq
      rw [List.length_map, g, List.length_range]
      exact small _ (by omega)
    exact ⟨.ref _, upd H (s.heap.objs.size + 1) (.lst _), I.laid (t' := s.toks) (fun _ _ => PyProof.Rows.sortedAll_old) (Nat.le_succ _) ⟨hlen, _, ep, gv, he'⟩, rfl, q _ (I.hok.fresh (Nat.le_succ _))⟩
theorem prim_sort {K : PySem.W.Frag} : Prim K (rSortP K) fSort := by
  intro H μ st vs ds d st' Q s r e q
  unfold fSort at e
  split at e
  case h_2 => cases e
  rename_i k
  obtain ⟨v, rfl, r1⟩ := repL_one r
  obtain ⟨rfl, hk⟩ := rep_lst r1
  obtain ⟨xs, e1, e⟩ := Option.bind_eq_some_iff.mp e
  obtain ⟨ps, e2, e⟩ := Option.bind_eq_some_iff.mp e
  split at e
  case isFalse => cases e
  rename_i hn
  obtain ⟨ws, a, b⟩ := s.sq e1
  obtain ⟨l1, g⟩ := mapO_get e2
  have lw : ws.length = xs.length := b.length
  refine ⟨_, ws, ps, rfl, a, by omega, by omega, by omega, fun i v ev => ?_, fun p hp => ?_⟩
  · obtain ⟨x, ex, rx⟩ := b.got ev
    obtain ⟨p, e3, e4⟩ := g i x ex
    rw [pr_some e4] at rx
    cases rx with
    | tup h1 h2 =>
      obtain ⟨v1, v2, rfl, w1, w2⟩ := repL_two h2
      cases w1
      cases w2
      exact ⟨p, _, e3, rfl, h1⟩
  · rw [lw]
    exact (newL_ok s (getD_rep b _ (idx_lt hn.1 hn.2)) e q).2 p hp
end Ev
namespace Ev
open PySem PySem.Spec PyProof.Rows L2
def intOf : D → Option Int
  | .int i => some i
  | _ => none
def fSum : FS := fun ds st => match ds with
  | [.lst k] => (st[k]?).bind fun xs => (mapO intOf xs).bind fun ns => some (.int ns.sum, st)
  | _ => none
theorem ints_rep {K : PySem.W.Frag} {H : Hp} {μ : Nat → Addr} {n : Nat} : ∀ {xs : List D} {vs : List V} {ns : List Int}, RepL K H μ n vs xs → mapO intOf xs = some ns → vs = ns.map V.int
  | [], _, _, r, e => by cases r; unfold mapO at e; cases e; rfl
  | x :: xs, _, _, r, e => by
    unfold mapO at e
    obtain ⟨b, h1, e⟩ := Option.bind_eq_some_iff.mp e
    obtain ⟨bs, h2, e⟩ := Option.bind_eq_some_iff.mp e
    cases e
    cases r with
    | cons r1 r2 =>
      rw [ints_rep r2 h2]
      unfold intOf at h1
      split at h1
      · cases h1; cases r1; rfl
      · cases h1
theorem prim_sum {K : PySem.W.Frag} : Prim K (rSum K) fSum := by
  intro H μ st vs ds d st' Q s r e q
  unfold fSum at e
  split at e
  case h_2 => cases e
  obtain ⟨v, rfl, r1⟩ := repL_one r
  obtain ⟨rfl, hk⟩ := rep_lst r1
  obtain ⟨xs, e1, e⟩ := Option.bind_eq_some_iff.mp e
  obtain ⟨ns, e2, e⟩ := Option.bind_eq_some_iff.mp e
  cases e
  obtain ⟨ws, a, b⟩ := s.sq e1
  rw [ints_rep b e2] at a
  exact ⟨_, ns, rfl, a, q _ μ H Ext.refl s (.int _)⟩
theorem ev_sum {X : Cx} {a : Expr} {R : SA} {p pos : Pos} (hc : X.calm = true) (hm : X.mg "sum" = none) (ha : PAv X [a] R) (hg : Gl X "sum" := by rfl) (he : starEach [a] X.env = [(false, eval a X.env)] := by rfl) : PEv X (.Call (.Name "sum" p) [a] [] pos) (sCall fSum R) := ev_callB (cr_sum hc) prim_sum hm (by decide +kernel) ha hg (by decide) (by decide) he rfl
section
variable {prog : Program} {w : World} {A : Around} {E : Value → Shared → Prop} {s : Shared}
theorem cat_nil {t b : Addr} {ws : List Value} {Q : Value → Shared → Prop} (ht : IsTup s.heap t (#[] : Array Value)) (hb : IsTup s.heap b ws.toArray) (h : Q (.ref b) s) : wpAny (model prog w) A (binaryOp .Add (.ref t) (.ref b)) Q E s := by
  obtain ⟨⟨cls, dd, data, sl⟩, ho, hc, n, hd⟩ := id ht
  obtain ⟨⟨cls2, dd2, data2, sl2⟩, ho2, hc2, n2, hd2⟩ := id hb
  simp only at hc hd hc2 hd2
  subst hc hd hc2 hd2
  exact concat_meets ⟨_, ho, rfl⟩ ⟨_, ho2, rfl⟩ noFill_tuple_add seq_tuple_add PySem.F.slot_tuple_add PySem.F.entry_tuple_add (PySem.F.args_tuple_add_2 _ _)
    (tuple_addW0 t b #[] ws.toArray n n2 dd dd2 sl sl2 rfl) ⟨ho, ho2, h⟩
end
def rCat0 (K : PySem.W.Frag) : R2 := fun x y H Q => ∃ a b ys, x = .ref a ∧ y = .ref b ∧ SqT K H a [] ∧ SqT K H b ys ∧ Q (.ref b) H
theorem op_cat0 {X : Cx} : OpR X (binaryOp .Add) (rCat0 X.K) := by
  intro pins s σ H x y v u Q I rx ry h
  obtain ⟨a, b, ys, rfl, rfl, ha, hb, q⟩ := h
  cases rx
  cases ry
  obtain ⟨its, r1, p1, _⟩ := I.tuple ha
  obtain ⟨its2, r2, p2, _⟩ := I.tuple hb
  cases r1
  exact cat_nil p1 p2 ⟨.ref b, H, I, rfl, q⟩
def fAdd0 : F2 := fun x y st => match x, y with
  | .tup [], .tup ys => some (.tup ys, st)
  | _, _ => none
theorem prim_add0 {K : PySem.W.Frag} : Prim2 K (rCat0 K) fAdd0 := by
  intro H μ st x y dx dy d st' Q s rx ry e q
  unfold fAdd0 at e
  split at e
  · cases e
    cases rx with
    | tup h1 r1 =>
      cases r1
      cases ry with
      | tup h2 r2 => exact ⟨_, _, _, rfl, rfl, h1, h2, q _ μ H Ext.refl s (.tup h2 r2)⟩
  · cases e
noncomputable def fAddA : F2 := fOr fAdd fAdd0
theorem ev_addA {X : Cx} {pos : Pos} {a b : Expr} {A B : SE} (ha : PEv X a A) (hb : PEv X b B) : PEv X (.BinOp a .Add b pos) (sOp2 fAddA A B) :=
  ev_op (OpR.or (OpR.or op_add (OpR.or op_cat op_catT)) op_cat0) (Prim2.or (Prim2.or (prim_I0 fun _ _ _ _ _ _ => .int _) (Prim2.or prim_addL prim_addT)) prim_add0) ha hb
section
variable {prog : Program} {w : World} {A : Around} {E : Value → Shared → Prop} {s : Shared}
open HT in
theorem slice_whole {t sl : Addr} {items : Array Value} {vl vu : Value} {lo hi : Option Int} {Q : Value → Shared → Prop} (ht : IsTup s.heap t items) (hs : s.heap.IsSliceOf sl vl vu .none) (pl : IsPart vl lo) (pu : IsPart vu hi)
    (hw : sIx items.size 0 lo = 0 ∧ sIx items.size items.size hi = items.size)
    (h : Q (.ref t) s) : wpAny (model prog w) A (getItem (.ref t) (.ref sl)) Q E s := by
  obtain ⟨os, hos, hcs, hds⟩ := id hs
  have hTs : s.TypeIs (.ref sl) "slice" := ⟨os, hos, hcs⟩
  obtain ⟨ot, hot, hct, nt, hdt⟩ := id ht
  unfold getItem
  try with_reducible refine wpAny_holding ?_
  first | refine wpAny_bind (wpAny_pure ?_) | skip
  refine wpAny_bind (wpAny_sequenceKey ht.typeIs (by decide) ?_)
  refine wpAny_bind (wpAny_callSpecial?_slot (name := Str.ofString "__getitem__") ht.typeIs PyProof.Rows.slot_tuple_getitem
    (wpAny_call_entry PyProof.Rows.slot_tuple_getitem ht.typeIs entry_tuple_getitem ?_ (args_tuple_getitem _ _)))
  show wpAny _ _ (Builtin.Tuple.tupleItemsOf (.ref t) >>= _) _ _ s
  refine wpAny_bind (tupleItemsOf_ ht ?_)
  refine wpAny_bind (wpAny_typeOf hTs ?_)
  rw [if_pos (by decide)]
  refine wpAny_bind (sliceApplied_gen hs pl pu ?_)
  have hyes : (((sIx items.size 0 lo : Nat) : Int) == 0 && (1 : Int) == 1 && (sIx items.size items.size hi - sIx items.size 0 lo) == items.size) = true := by
    rw [hw.1, hw.2]; simp
  show wpAny _ _ (if (((sIx items.size 0 lo : Nat) : Int) == 0 && (1 : Int) == 1 && (sIx items.size items.size hi - sIx items.size 0 lo) == items.size) = true then _ else _) _ _ s
  rw [if_pos hyes]
  unfold Builtin.Tuple.tupleIsExact
  refine wpAny_bind (wpAny_bind (wpAny_typeOf ht.typeIs (wpAny_pure ?_)))
  have hb : (Value.type "tuple" == Value.type "tuple") = true := by decide
  rw [hb]
  simp only [if_true]
  refine wpAny_bind (wpAny_rule ?_)
  exact wpAny_pure ⟨_, rfl, wpAny_pure h⟩
end
def rSlW (K : PySem.W.Frag) : V → Option Int → Option Int → Hp → VK → Prop := fun x lo hi H Q => ∃ a xs, x = .ref a ∧ SqT K H a xs ∧ (HT.sIx xs.length 0 lo = 0 ∧ HT.sIx xs.length xs.length hi = xs.length) ∧ Q (.ref a) H
theorem sl_whole {X : Cx} : SlR X (rSlW X.K) := by
  intro pins s σ H x v vl vu lo hi sl Q I rx hs pl pu h
  obtain ⟨a, xs, rfl, hx, hw, q⟩ := h
  cases rx
  obtain ⟨its, r, ht, hz⟩ := I.tuple hx
  have hlen : its.toArray.size = xs.length := by rw [List.size_toArray]; exact r.length.symm
  exact ⟨"tuple", _, PyProof.Rows.slot_tuple_getitem.lookup, ht.typeIs, slice_whole ht hs pl pu (by rw [hlen]; exact hw) ⟨.ref a, H, I, rfl, q⟩⟩
def fCutA (x : D) (lo hi : Option Int) (st : Store) : Option (D × Store) := match x with
  | .lst h => (st[h]?).bind fun xs => newL (cutD xs lo hi) st
  | .tup xs => some (.tup (cutD xs lo hi), st)
  | _ => none
def sSlA (A : SE) (L U : SO) : SE := fun ρ st => (A ρ st).bind fun p => (L ρ p.2).bind fun l => (U ρ l.2).bind fun u => fCutA p.1 l.1 u.1 u.2
theorem ev_slA {X : Cx} {e : Expr} {A : SE} {lo hi : Option Expr} {L U : SO} {pos p2 : Pos} (he : PEv X e A) (hl : POv X lo L) (hu : POv X hi U) : PEv X (.Subscript e (.Slice lo hi none p2) pos) (sSlA A L U) := by
  refine PE.imp (pe_slice (SlR.or sl_list (SlR.or sl_tup sl_whole)) he hl hu) fun σ H Q h => ?_
  obtain ⟨μ, ρ, st, d, st', hr, s, e, q⟩ := h
  unfold sSlA at e
  obtain ⟨p, e1, e⟩ := Option.bind_eq_some_iff.mp e
  obtain ⟨l, e2, e⟩ := Option.bind_eq_some_iff.mp e
  obtain ⟨u, e3, e⟩ := Option.bind_eq_some_iff.mp e
  refine ⟨μ, ρ, st, p.1, p.2, hr, s, e1, fun v μ1 H1 x1 s1 r1 => ?_⟩
  refine ⟨μ1, ρ, p.2, l.1, l.2, hr.up x1, s1, e2, fun μ2 H2 x2 s2 => ?_⟩
  refine ⟨μ2, ρ, l.2, u.1, u.2, (hr.up x1).up x2, s2, e3, fun μ3 H3 x3 s3 => ?_⟩
  have r3 := (r1.up x2).up x3
  have q3 : Post X.K H3 μ3 u.2.length d st' Q := fun v μ4 H4 x4 s4 r4 => q v μ4 H4 (((x1.trans x2).trans x3).trans x4) s4 r4
  unfold fCutA at e
  split at e
  · rename_i h heq
    obtain ⟨xs, e4, e⟩ := Option.bind_eq_some_iff.mp e
    rw [heq] at r3
    obtain ⟨rfl, _⟩ := rep_lst r3
    obtain ⟨ws, a, b⟩ := s3.sq e4
    exact .inl ⟨_, ws, rfl, a, (newL_ok s3 (cut_rep b _ _) e q3).2⟩
  · rename_i xs heq
    cases e
    rw [heq] at r3
    cases r3 with
    | tup h1 h2 =>
      by_cases hw : HT.sIx xs.length 0 l.1 = 0 ∧ HT.sIx xs.length xs.length u.1 = xs.length
      · have ec : cutD xs l.1 u.1 = xs := by
          unfold cutD
          rw [hw.1, hw.2]
          simp
        rw [ec] at q3
        exact .inr (.inr ⟨_, _, rfl, h1, by rw [h2.length]; exact hw, q3 _ μ3 H3 Ext.refl s3 (.tup h1 h2)⟩)
      · exact .inr (.inl ⟨_, _, rfl, h1, by rw [h2.length]; exact hw, fun t ht => newT_ok s3 (cut_rep h2 _ _) q3 t ht⟩)
  · cases e
end Ev
namespace Ev
open PySem L2
open Classical in
noncomputable def lc2Go (chk : Option (Nat × List D)) (all : List D) (G : SG) (T : SB) (I1 : SI) (G1 : SG) (T1 : SB) (A : SE) (vs1 : List Nat) (k : Nat) (ρ : Rho) : List D → Store → Option Store
  | [], st => if Still chk all st then some st else none
  | x :: r, st => if Still chk all st then (G x ρ).bind fun ρ1 => (T ρ1 st).bind fun p => if p.1 = true then (I1 ρ1 p.2).bind fun c => if Still c.1.2 c.1.1 c.2 then (lcGo c.1.2 c.1.1 G1 T1 A k (wipeD ρ1 vs1) c.1.1 c.2).bind fun st2 => lc2Go chk all G T I1 G1 T1 A vs1 k ρ r st2 else none
      else lc2Go chk all G T I1 G1 T1 A vs1 k ρ r p.2
    else none
open Classical in
noncomputable def sLc2 (I : SI) (G : SG) (T : SB) (I1 : SI) (G1 : SG) (T1 : SB) (A : SE) (vs vs1 : List Nat) : SE := fun ρ st => (I ρ st).bind fun p => if Still p.1.2 p.1.1 p.2 then (lc2Go p.1.2 p.1.1 G T I1 G1 T1 A vs1 p.2.length (wipeD ρ vs) p.1.1 (p.2 ++ [[]])).bind fun st' => some (.lst p.2.length, st') else none
section
variable {X : Cx}
theorem tLc2_ok {I I1 : SI} {g g1 : TG} {G G1 : SG} {T T1 : SB} {A : SE} {vs vs1 : List Nat} (hG : GOk X.K g G vs) (hG1 : GOk X.K g1 G1 vs1) (σ : L2.St) (H : Hp) (Q : VK) (h : tEv X.K (sLc2 I G T I1 G1 T1 A vs vs1) σ H Q) :
    tLc2 (tEvI X.K I) g (tEvT X.K T) (tEvI X.K I1) g1 (tEvT X.K T1) (tEv X.K A) vs vs1 σ H Q := by
  obtain ⟨μ, ρ, st, d, st', hr, s, e, q⟩ := h
  unfold sLc2 at e
  obtain ⟨⟨⟨xs, chk⟩, st1⟩, e1, e⟩ := Option.bind_eq_some_iff.mp e
  dsimp only at e
  split at e
  case isFalse => cases e
  rename_i still
  obtain ⟨st2, e2, e⟩ := Option.bind_eq_some_iff.mp e
  cases e
  refine ⟨μ, ρ, st, xs, chk, st1, hr, s, e1, still, fun J μ1 H1 x1 s1 J1 L hL => ?_⟩
  have k0 : 0 < st1.length := s1.pos
  have sD : StOk X.K (upd H1 L (.lst [])) (grow μ1 st1.length L) (st1 ++ [[]]) := s1.grow hL .nil
  have xD : Ext X.K H1 μ1 st1.length (upd H1 L (.lst [])) (grow μ1 st1.length L) (st1 ++ [[]]).length := by
    rw [List.length_append]; exact Ext.grow hL
  have kl : st1.length < (st1 ++ [[]] : Store).length := by rw [List.length_append]; exact Nat.lt_succ_self _
  have atL : ∀ {H' : Hp} {μ' : Nat → Addr} {n' : Nat}, Ext X.K (upd H1 L (.lst [])) (grow μ1 st1.length L) (st1 ++ [[]]).length H' μ' n' → μ' st1.length = L := fun x => (x.eq _ kl).trans grow_at
  let At : Nat → Hp → Prop := fun i H' => ∃ μ' sti, StOk X.K H' μ' sti ∧ Ext X.K (upd H1 L (.lst [])) (grow μ1 st1.length L) (st1 ++ [[]]).length H' μ' sti.length ∧ lc2Go chk xs G T I1 G1 T1 A vs1 st1.length (wipeD ρ vs) (xs.drop i) sti = some st'
  refine ⟨fun i m H' => m = xs.length - i ∧ i ≤ xs.length ∧ At i H', ⟨xs.length, by simp, Nat.zero_le _, _, _, sD, Ext.refl, by simpa using e2⟩, ?_⟩
  rintro i m H' ⟨rfl, hi', μ', sti, s', x', e'⟩
  by_cases hlt : i < xs.length
  · rw [List.drop_eq_getElem_cons hlt] at e'
    unfold lc2Go at e'
    split at e'
    · rename_i sti'
      obtain ⟨ρ1, eG, e'⟩ := Option.bind_eq_some_iff.mp e'
      obtain ⟨p, eT, e'⟩ := Option.bind_eq_some_iff.mp e'
      refine .inr ⟨J1.go i H' μ' sti (xD.trans x') s' sti' hlt, At (i + 1), fun H2 n2 => ⟨xs.length - (i + 1), by omega, rfl, hlt, n2⟩, fun v H2 y => ?_⟩
      obtain ⟨x2, s2, rv⟩ := J1.yld i _ H' μ' sti v H2 (xD.trans x') s' sti' (List.getElem?_eq_getElem hlt) y
      refine hG v _ (wipe σ vs) (wipeD ρ vs) ρ1 H2 μ' sti.length _ (((((hr.up x1).up xD).up x').up x2).wipe vs) rv eG fun σ2 w2 rr => ⟨w2.trans (wipe_wipe vs), ?_⟩
      refine ⟨μ', ρ1, sti, p.1, p.2, rr, s2, eT, fun μ3 H3 x3 s3 => ?_⟩
      split at e'
      · rename_i hp
        rw [if_pos hp]
        obtain ⟨⟨⟨ys, chk1⟩, st4⟩, e4, e'⟩ := Option.bind_eq_some_iff.mp e'
        dsimp only at e'
        split at e'
        case isFalse => cases e'
        rename_i still1
        obtain ⟨st5, e5, e'⟩ := Option.bind_eq_some_iff.mp e'
        refine ⟨μ3, ρ1, p.2, ys, chk1, st4, rr.up x3, s3, e4, still1, fun J2 μ4 H4 x4 s4 J3 => ?_⟩
        refine ⟨fun j kk Hc => kk = ys.length - j ∧ j ≤ ys.length ∧ ∃ μc stc, StOk X.K Hc μc stc ∧ Ext X.K H4 μ4 st4.length Hc μc stc.length ∧ lcGo chk1 ys G1 T1 A st1.length (wipeD ρ1 vs1) (ys.drop j) stc = some st5,
          ⟨ys.length, by simp, Nat.zero_le _, μ4, st4, s4, Ext.refl, by simpa using e5⟩, ?_⟩
        rintro j kk Hc ⟨rfl, hj, μc, stc, sc, xc, ec⟩
        by_cases hjt : j < ys.length
        · rw [List.drop_eq_getElem_cons hjt] at ec
          unfold lcGo at ec
          split at ec
          · rename_i stc'
            obtain ⟨ρ3, eG1, ec⟩ := Option.bind_eq_some_iff.mp ec
            obtain ⟨p1, eT1, ec⟩ := Option.bind_eq_some_iff.mp ec
            refine .inr ⟨J3.go j Hc μc stc xc sc stc' hjt, _, fun H2 n2 => ⟨ys.length - (j + 1), by omega, rfl, hjt, n2⟩, fun v1 H6 y1 => ?_⟩
            obtain ⟨x6, s6, rv1⟩ := J3.yld j _ Hc μc stc v1 H6 xc sc stc' (List.getElem?_eq_getElem hjt) y1
            refine hG1 v1 _ (wipe σ2 vs1) (wipeD ρ1 vs1) ρ3 H6 μc stc.length _ (((((rr.up x3).up x4).up xc).up x6).wipe vs1) rv1 eG1 fun σ3 w3 rr3 => ⟨w3.trans (wipe_wipe vs1), ?_⟩
            refine ⟨μc, ρ3, stc, p1.1, p1.2, rr3, s6, eT1, fun μ7 H7 x7 s7 => ?_⟩
            split at ec
            · rename_i hp1
              rw [if_pos hp1]
              obtain ⟨q1, eA, ec⟩ := Option.bind_eq_some_iff.mp ec
              obtain ⟨acc, eK, ec⟩ := Option.bind_eq_some_iff.mp ec
              split at ec
              · rename_i hz
                refine ⟨μ7, ρ3, p1.2, q1.1, q1.2, rr3.up x7, s7, eA, fun w μ8 H8 x8 s8 r8 => ?_⟩
                obtain ⟨ws, hw, rw'⟩ := s8.at k0 eK
                have aL : μ8 st1.length = L := atL ((((((x'.trans x2).trans x3).trans x4).trans xc).trans x6).trans (x7.trans x8))
                have sP := s8.put k0 eK (rw'.append (.cons r8 .nil))
                have xP : Ext X.K H8 μ8 q1.2.length (upd H8 (μ8 st1.length) (.lst (ws ++ [w]))) μ8 q1.2.length := Ext.put (vs := ws) s8 k0 eK
                rw [aL] at hw sP xP
                refine ⟨ws, hw, by rw [rw'.length]; exact hz, μ8, _, sP, ?_, ec⟩
                rw [List.length_set]
                exact ((xc.trans x6).trans (x7.trans x8)).trans xP
              · cases ec
            · rename_i hp1
              rw [if_neg hp1]
              exact ⟨μ7, p1.2, s7, (xc.trans x6).trans x7, ec⟩
          · cases ec
        · have ej : j = ys.length := by omega
          subst ej
          rw [List.drop_length] at ec
          unfold lcGo at ec
          split at ec
          · rename_i stc'
            cases ec
            exact .inl ⟨J3.stop _ Hc μc _ xc sc stc' rfl, μc, _, sc, (((x'.trans x2).trans x3).trans x4).trans xc, e'⟩
          · cases ec
      · rename_i hp
        rw [if_neg hp]
        exact ⟨μ3, p.2, s3, (x'.trans x2).trans x3, e'⟩
    · cases e'
  · have ei : i = xs.length := by omega
    subst ei
    rw [List.drop_length] at e'
    unfold lc2Go at e'
    split at e'
    · rename_i sti'
      cases e'
      refine .inl ⟨J1.stop _ H' μ' _ (xD.trans x') s' sti' rfl, ?_⟩
      refine q _ μ' H' ((x1.trans xD).trans x') s' ?_
      have z : Rep X.K H' μ' st'.length (.ref (μ' st1.length)) (.lst st1.length) := .lst (Nat.lt_of_lt_of_le kl x'.le)
      rw [atL x'] at z
      exact z
    · cases e'
theorem ev_lc2 {elt tg iter tg1 iter1 : Expr} {ifs ifs1 : List Expr} {scope : Scope} {own : List (Str × Nat)} {pos : Pos} {I I1 : SI} {g g1 : TG} {G G1 : SG} {T T1 : SB} {A : SE} {vs vs1 : List Nat} (hc : X.calm = true) (hN : X.N.Nodup) (hi : PIv X tg iter I) (ok : BlkOk X.N X.env.scope scope own) (hv : own.map (·.2) = vs) (hv1 : ∀ i ∈ vs1, i ∈ vs) (hG : GOk X.K g G vs) (hG1 : GOk X.K g1 G1 vs1)
    (hg : ∀ (s : Shared) (H : Hp) (C : Addr) (cl : List (Str × Addr)) (fp : List Addr), PG (X.blk s H scope (compEnvC scope cl C X.env) fp) tg g) (ht : ∀ (s : Shared) (H : Hp) (C : Addr) (cl : List (Str × Addr)) (fp : List Addr), PTsv (X.blk s H scope (compEnvC scope cl C X.env) fp) ifs T)
    (hi1 : ∀ (s : Shared) (H : Hp) (C : Addr) (cl : List (Str × Addr)) (fp : List Addr), PIv (X.blk s H scope (compEnvC scope cl C X.env) fp) tg1 iter1 I1)
    (hg1 : ∀ (s : Shared) (H : Hp) (C : Addr) (cl : List (Str × Addr)) (fp : List Addr), PG (X.blk s H scope (compEnvC scope cl C X.env) fp) tg1 g1) (ht1 : ∀ (s : Shared) (H : Hp) (C : Addr) (cl : List (Str × Addr)) (fp : List Addr), PTsv (X.blk s H scope (compEnvC scope cl C X.env) fp) ifs1 T1)
    (he : ∀ (s : Shared) (H : Hp) (C : Addr) (cl : List (Str × Addr)) (fp : List Addr), PEv (X.blk s H scope (compEnvC scope cl C X.env) fp) elt A) (hs : ∀ x, foldedSetIterable iter X.env x = pure x := by intro _; rfl) (hs1 : ∀ env x, foldedSetIterable iter1 env x = pure x := by intro _ _; rfl) :
    PEv X (.ListComp elt [⟨tg, iter, ifs, 0⟩, ⟨tg1, iter1, ifs1, 0⟩] scope pos) (sLc2 I G T I1 G1 T1 A vs vs1) := by
  subst hv
  exact PE.imp (pe_lc2 (tt := tEvT X.K T) (tt1 := tEvT X.K T1) (te := tEv X.K A) (wi1 := tEvI X.K I1) (vs1 := vs1) hc hN hi ok hv1 hg ht hi1 hg1 ht1 he hs hs1) (tLc2_ok hG hG1)
end
end Ev
namespace Ev
open PySem L2
theorem fmod_b (a : Int) {b : Int} (h : 0 < b) : 0 ≤ a.fmod b ∧ a.fmod b < b := by
  rw [Int.fmod_eq_emod_of_nonneg a (Int.le_of_lt h)]
  exact ⟨Int.emod_nonneg a (by omega), Int.emod_lt_of_pos a h⟩
theorem cmulL {i j : Int} (h1 : -10000000000000000000 ≤ i) (h2 : i ≤ 10000000000000000000) : CMul i j := .inl ⟨by omega, by omega⟩
theorem cmulR {i j : Int} (h1 : -10000000000000000000 ≤ j) (h2 : j ≤ 10000000000000000000) : CMul i j := .inr ⟨by omega, by omega⟩
abbrev Kall (st st' : Store) : Prop := ∀ h, Kp h st st'
theorem Kall.get {st st' : Store} {k : Nat} {xs : List D} (x : Kall st st') (e : st[k]? = some xs) : st'[k]? = some xs := (x (k + 1)).get e (Nat.ne_of_lt (Nat.lt_succ_self _))
theorem Kall.trans {a b c : Store} (x : Kall a b) (y : Kall b c) : Kall a c := fun h => (x h).trans (y h)
theorem Kall.refl {a : Store} : Kall a a := fun _ => Kp.refl
theorem Kall.push {a : Store} {xs : List D} : Kall a (a ++ [xs]) := fun _ => Kp.push
theorem still_of {chk : Option (Nat × List D)} {xs : List D} {st st' : Store} (h : Still chk xs st) (x : Kall st st') : Still chk xs st' := fun k ys hk => x.get (h k ys hk)
theorem iRange_is {R : SA} {ρ : Rho} {st st1 : Store} {j : Int} (h : R ρ st = some ([.int j], st1)) (h0 : -1000000 ≤ j) (h1 : j ≤ 1000000) : iRange R ρ st = some ((rngD 0 j.toNat, none), st1) := by
  unfold iRange
  rw [h]
  simp only [Option.bind_some]
  rw [if_pos ⟨by omega, by omega⟩]
theorem at_ints {ns : List Int} {i : Nat} {x : Int} (h : ns[i]? = some x) : atI (ns.map D.int) (i : Int) = some (.int x) := atI_nat (by rw [List.getElem?_map, h]; rfl)
theorem ints_of {R : Nat → Int → Prop} : ∀ (acc : List D) (_ : ∀ i d, acc[i]? = some d → ∃ n, d = .int n ∧ R i n), ∃ ns : List Int, acc = ns.map D.int ∧ ns.length = acc.length ∧ ∀ i n, ns[i]? = some n → R i n := by
  intro acc
  induction acc generalizing R with
  | nil => exact fun _ => ⟨[], rfl, rfl, fun i n e => by simp at e⟩
  | cons d r ih =>
    intro h
    obtain ⟨n, rfl, rn⟩ := h 0 d rfl
    obtain ⟨ns, e1, e2, e3⟩ := ih (R := fun i n => R (i + 1) n) fun i d e => h (i + 1) d (by simpa using e)
    refine ⟨n :: ns, by rw [e1]; rfl, by simp [e2], fun i m e => ?_⟩
    cases i with
    | zero => simp at e; subst e; exact rn
    | succ i => exact e3 i m (by simpa using e)
theorem DaL.all {n w : Nat} : ∀ (ds : List D), (∀ d ∈ ds, Da n w d) → DaL n (ds.length * (w + 2)) ds
  | [], _ => DaL.nil.up (Nat.le_refl _) (Nat.zero_le _)
  | d :: r, h => by
    have q := DaL.all r fun d hd => h d (List.mem_cons_of_mem _ hd)
    refine (DaL.cons (h d List.mem_cons_self) q).up (Nat.le_refl _) ?_
    rw [List.length_cons, Nat.succ_mul]
    omega
abbrev di (ss : List Int) : D := .tup (ss.map D.int)
theorem fAddA_int (i j : Int) (st : Store) : fAddA (.int i) (.int j) st = some (.int (i + j), st) := by simp [fAddA, fOr, fAdd_int]
theorem fAddA_lst {xs ys : List D} {a b : Nat} {st : Store} (ha : st[a]? = some xs) (hb : st[b]? = some ys) (a0 : 0 < a) (b0 : 0 < b) (hz : (xs ++ ys).length ≤ sizeLine) : fAddA (.lst a) (.lst b) st = some (.lst st.length, st ++ [xs ++ ys]) := by
  unfold fAddA fOr
  rw [fAdd_lst ha hb a0 b0 hz]
  rfl
theorem fAddA_tup {xs ys : List D} {st : Store} (hz : xs.length + ys.length ≤ sizeLine) : fAddA (.tup xs) (.tup ys) st = some (.tup (xs ++ ys), st) := by
  unfold fAddA fOr
  cases xs with
  | nil => simp [fAdd, fOr, fI, fAddL, fAddT, fAdd0]
  | cons a r => rw [fAdd_tup (by simp) hz]; rfl
structure Dk (h : Nat) (st : Store) : Prop where
  pos : 0 < h
  is : ∃ ns : List Int, st[h]? = some (ns.map D.int)
theorem Dk.kp {h : Nat} {st st' : Store} (s : Dk h st) (e : st'[h]? = st[h]?) : Dk h st' := ⟨s.pos, by obtain ⟨c, a⟩ := s.is; exact ⟨c, e.trans a⟩⟩
theorem Dk.lt {h : Nat} {st : Store} (s : Dk h st) : h < st.length := by obtain ⟨_, e⟩ := s.is; exact (List.getElem?_eq_some_iff.mp e).1
theorem Dk.push {h : Nat} {st : Store} (s : Dk h st) (xs : List D) : Dk h (st ++ [xs]) := s.kp (List.getElem?_append_left s.lt)
theorem Dk.set {h k : Nat} {st : Store} (s : Dk h st) (hk : k ≠ h) (xs : List D) : Dk h (st.set k xs) := s.kp (List.getElem?_set_ne hk)
theorem Dk.all {h : Nat} {st st' : Store} (s : Dk h st) (x : Kall st st') : Dk h st' := by obtain ⟨p, c, e⟩ := s; exact ⟨p, c, x.get e⟩
end Ev
namespace L2
open PySem PySem.Spec PyProof.Rows
section
variable {prog : Program} {w : World} {A : Around} {R : Result → Shared → Prop} {s : Shared} {elt t0 i0 t1 i1 t2 i2 : Expr} {ifs0 ifs1 ifs2 : List Expr} {scope : Scope} {pos : Pos} {it acc : Value} {env : Env}
end
section
variable {X : Cx}
def tLc3 (wi : TI) (g : TG) (tt : TT) (wi1 : TI) (g1 : TG) (tt1 : TT) (wi2 : TI) (g2 : TG) (tt2 : TT) (te : TE) (vs vs1 vs2 : List Nat) : TE := fun σ H Q => wi σ H fun J H1 => ∀ D, H1 D = none → ∃ W : Nat → Nat → Hp → Prop, (∃ m, W 0 m (upd H1 D (.lst []))) ∧ ∀ i m H, W i m H →
  (J.stop i H ∧ Q (.ref D) H) ∨ (J.go i H ∧ ∃ Nx : Hp → Prop, (∀ H', Nx H' → ∃ m', m' < m ∧ W (i + 1) m' H') ∧ ∀ x H', J.yld i H x H' → g x (wipe σ vs) H' fun σ2 H2 => wipe σ2 vs = wipe σ vs ∧ tt σ2 H2 fun b H3 =>
    if b = true then wi1 σ2 H3 fun J1 H4 => ∃ W1 : Nat → Nat → Hp → Prop, (∃ m, W1 0 m H4) ∧ ∀ j k H, W1 j k H →
      (J1.stop j H ∧ Nx H) ∨ (J1.go j H ∧ ∃ Nx1 : Hp → Prop, (∀ H', Nx1 H' → ∃ k', k' < k ∧ W1 (j + 1) k' H') ∧ ∀ x H', J1.yld j H x H' → g1 x (wipe σ2 vs1) H' fun σ3 H5 => wipe σ3 vs1 = wipe σ2 vs1 ∧ tt1 σ3 H5 fun b H6 =>
        if b = true then wi2 σ3 H6 fun J2 H7 => ∃ W2 : Nat → Nat → Hp → Prop, (∃ m, W2 0 m H7) ∧ ∀ l q H, W2 l q H →
          (J2.stop l H ∧ Nx1 H) ∨ (J2.go l H ∧ ∃ Nx2 : Hp → Prop, (∀ H', Nx2 H' → ∃ q', q' < q ∧ W2 (l + 1) q' H') ∧ ∀ x H', J2.yld l H x H' → g2 x (wipe σ3 vs2) H' fun σ4 H8 => wipe σ4 vs2 = wipe σ3 vs2 ∧ tt2 σ4 H8 fun b H9 =>
            if b = true then te σ4 H9 fun y H10 => ∃ acc, H10 D = some (.lst acc) ∧ acc.length < sizeLine ∧ Nx2 (upd H10 D (.lst (acc ++ [y]))) else Nx2 H9)
        else Nx1 H6)
    else Nx H3)
end
end L2
namespace Ev
open PySem L2
open Classical in
noncomputable def lc3Go (chk : Option (Nat × List D)) (all : List D) (G : SG) (T : SB) (I1 : SI) (G1 : SG) (T1 : SB) (I2 : SI) (G2 : SG) (T2 : SB) (A : SE) (vs1 vs2 : List Nat) (k : Nat) (ρ : Rho) : List D → Store → Option Store
  | [], st => if Still chk all st then some st else none
  | x :: r, st => if Still chk all st then (G x ρ).bind fun ρ1 => (T ρ1 st).bind fun p => if p.1 = true then (I1 ρ1 p.2).bind fun c => if Still c.1.2 c.1.1 c.2 then (lc2Go c.1.2 c.1.1 G1 T1 I2 G2 T2 A vs2 k (wipeD ρ1 vs1) c.1.1 c.2).bind fun st2 => lc3Go chk all G T I1 G1 T1 I2 G2 T2 A vs1 vs2 k ρ r st2 else none
      else lc3Go chk all G T I1 G1 T1 I2 G2 T2 A vs1 vs2 k ρ r p.2
    else none
open Classical in
noncomputable def sLc3 (I : SI) (G : SG) (T : SB) (I1 : SI) (G1 : SG) (T1 : SB) (I2 : SI) (G2 : SG) (T2 : SB) (A : SE) (vs vs1 vs2 : List Nat) : SE := fun ρ st => (I ρ st).bind fun p => if Still p.1.2 p.1.1 p.2 then (lc3Go p.1.2 p.1.1 G T I1 G1 T1 I2 G2 T2 A vs1 vs2 p.2.length (wipeD ρ vs) p.1.1 (p.2 ++ [[]])).bind fun st' => some (.lst p.2.length, st') else none
section
variable {X : Cx}
end
end Ev
namespace Ev
open PySem PySem.Spec PyProof.Rows L2
def fIsi (T : String) : D → Option Bool
  | .int _ => if T = "int" then some true else if T = "bool" ∨ T = "tuple" ∨ T = "str" then some false else none
  | .str _ => if T = "str" then some true else if T = "tuple" then some false else none
  | .bl _ => if T = "int" ∨ T = "bool" then some true else none
  | .tup _ => if T = "tuple" then some true else if T = "int" ∨ T = "list" then some false else none
  | _ => none
def sIsi (T : String) (A : SE) : SE := fun ρ st => (A ρ st).bind fun p => (fIsi T p.1).bind fun b => some (.bl b, p.2)
theorem isi_ok {X : Cx} {pins : List (Addr × Obj)} {σ : L2.St} {H : Hp} {s : Shared} {μ : Nat → Addr} {n : Nat} {v : V} {u : Value} {d : D} {T : String} {b : Bool} {Q : VK} (I : Inv X pins σ H s) (rv : RelV v u) (rd : Rep X.K H μ n v d) (e : fIsi T d = some b) (q : Q (.bl b) H) :
    wpAny (model X.prog X.w) X.A (call (.builtin "isinstance") [u, .type T]) (EP X pins σ Q) X.xe s := by
  have I' : ∀ tk, Inv X pins σ H { s with toks := tk } := fun tk => I.kept (t' := tk) (h' := s.heap) fun _ _ z => z
  cases rd with
  | int i =>
    obtain ⟨t, rfl⟩ := rv
    simp only [fIsi] at e
    split at e
    · rename_i h; subst h; cases e; exact PySem.IsiPair.int_int ⟨.bl true, H, I, rfl, q⟩
    · split at e
      · rename_i h
        cases e
        rcases h with rfl | rfl | rfl
        · exact PySem.IsiPair.int_bool ⟨.bl false, H, I' _, rfl, q⟩
        · exact PySem.IsiPair.int_tuple ⟨.bl false, H, I' _, rfl, q⟩
        · exact PySem.IsiPair.int_str ⟨.bl false, H, I' _, rfl, q⟩
      · cases e
  | str x =>
    obtain ⟨t, rfl⟩ := rv
    simp only [fIsi] at e
    split at e
    · rename_i h; subst h; cases e; exact PySem.IsiPair.str_str ⟨.bl true, H, I, rfl, q⟩
    · split at e
      · rename_i h; subst h; cases e; exact PySem.IsiPair.str_tuple ⟨.bl false, H, I' _, rfl, q⟩
      · cases e
  | bl x =>
    cases rv
    simp only [fIsi] at e
    split at e
    · rename_i h
      cases e
      rcases h with rfl | rfl
      · exact PySem.IsiPair.bool_int ⟨.bl true, H, I, rfl, q⟩
      · exact PySem.IsiPair.bool_bool ⟨.bl true, H, I, rfl, q⟩
    · cases e
  | tup h1 h2 =>
    cases rv
    obtain ⟨its, r, ⟨o, ho, hc, _⟩, _⟩ := I.tuple h1
    simp only [fIsi] at e
    split at e
    · rename_i h; subst h; cases e; exact PySem.IsiPair.tuple_tuple ho hc ⟨.bl true, H, I, rfl, q⟩
    · split at e
      · rename_i h
        cases e
        rcases h with rfl | rfl
        · exact PySem.IsiPair.tuple_int ho hc ⟨.bl false, H, I' _, rfl, q⟩
        · exact PySem.IsiPair.tuple_list ho hc ⟨.bl false, H, I' _, rfl, q⟩
      · cases e
  | non => cases e
  | lst h => cases e
theorem ev_isi {X : Cx} {a : Expr} {A : SE} {x : Str} {T : String} {p p2 pos : Pos} (hm : X.mg "isinstance" = none) (hmT : X.mg x = none) (ha : PEv X a A) (hb : bootBuiltins x = some (.type T)) (hn : x ≠ "__name__" := by decide) (hd : (x == ("__debug__" : Str)) = false := by decide) (hg : Gl X "isinstance" := by rfl) (hgT : Gl X x := by rfl)
    (he : starEach [a, .Name x p2] X.env = [(false, eval a X.env), (false, eval (.Name x p2) X.env)] := by rfl) (he2 : starEach [.Name x p2] X.env = [(false, eval (.Name x p2) X.env)] := by rfl) : PEv X (.Call (.Name "isinstance" p) [a, .Name x p2] [] pos) (sIsi T A) := by
  intro pins s σ H Q I h
  obtain ⟨μ, ρ, st, d, st', hr, so, e0, q⟩ := h
  unfold sIsi at e0
  obtain ⟨⟨d1, st1⟩, e1, e0⟩ := Option.bind_eq_some_iff.mp e0
  obtain ⟨b, e2, e0⟩ := Option.bind_eq_some_iff.mp e0
  cases e0
  refine wpAny_Call_Name_kw (ld_blt I hg hm (show bootBuiltins "isinstance" = some (.builtin "isinstance") by decide +kernel) ?_)
  refine PyProof.Rows.callWith_builtin1 (e := a) (rest := [.Name x p2]) ?_ (by rw [he, he2]) (by rw [he2]; rfl)
  rw [he]
  refine Calls.spliced_cons ?_
  refine thn (ha pins s σ H (fun v H1 => ∃ μ1, Ext X.K H μ st.length H1 μ1 st1.length ∧ StOk X.K H1 μ1 st1 ∧ Rep X.K H1 μ1 st1.length v d1) I ⟨μ, ρ, st, _, st1, hr, so, e1, fun v μ1 H1 x1 s1 r1 => ⟨μ1, x1, s1, r1⟩⟩) fun u s1 ⟨v, H1, I1, rv, μ1, x1, so1, rl⟩ => ?_
  have fin : ∀ s2, Inv X pins σ H1 s2 → wpAny (model X.prog X.w) X.A (call (.builtin "isinstance") [u, .type T]) (EP X pins σ Q) X.xe s2 := fun s2 I2 => isi_ok I2 rv rl e2 (q (.bl b) μ1 H1 x1 so1 (.bl b))
  first
    | exact Calls.spliced_cons (ld_blt I1 hgT hmT hb (Calls.spliced_nil (fin s1 I1)) hn hd)
    | exact Calls.spliced_cons (wpAny_bind (wpAny_standAt (ld_blt I1 hgT hmT hb (Calls.spliced_nil (fin s1 I1)) hn hd)))
    | trace_state
theorem ev_isiT {X : Cx} {a : Expr} {A : SE} {p p2 pos : Pos} (hm : X.mg "isinstance" = none) (hmT : X.mg "tuple" = none) (ha : PEv X a A) (hg : Gl X "isinstance" := by rfl) (hgT : Gl X "tuple" := by rfl)
    (he : starEach [a, .Name "tuple" p2] X.env = [(false, eval a X.env), (false, eval (.Name "tuple" p2) X.env)] := by rfl) (he2 : starEach [.Name "tuple" p2] X.env = [(false, eval (.Name "tuple" p2) X.env)] := by rfl) : PEv X (.Call (.Name "isinstance" p) [a, .Name "tuple" p2] [] pos) (sIsi "tuple" A) := ev_isi hm hmT ha (by decide +kernel) (by decide) (by decide) hg hgT he he2
theorem ev_isiI {X : Cx} {a : Expr} {A : SE} {p p2 pos : Pos} (hm : X.mg "isinstance" = none) (hmT : X.mg "int" = none) (ha : PEv X a A) (hg : Gl X "isinstance" := by rfl) (hgT : Gl X "int" := by rfl)
    (he : starEach [a, .Name "int" p2] X.env = [(false, eval a X.env), (false, eval (.Name "int" p2) X.env)] := by rfl) (he2 : starEach [.Name "int" p2] X.env = [(false, eval (.Name "int" p2) X.env)] := by rfl) : PEv X (.Call (.Name "isinstance" p) [a, .Name "int" p2] [] pos) (sIsi "int" A) := ev_isi hm hmT ha (by decide +kernel) (by decide) (by decide) hg hgT he he2
theorem ev_isiB {X : Cx} {a : Expr} {A : SE} {p p2 pos : Pos} (hm : X.mg "isinstance" = none) (hmT : X.mg "bool" = none) (ha : PEv X a A) (hg : Gl X "isinstance" := by rfl) (hgT : Gl X "bool" := by rfl)
    (he : starEach [a, .Name "bool" p2] X.env = [(false, eval a X.env), (false, eval (.Name "bool" p2) X.env)] := by rfl) (he2 : starEach [.Name "bool" p2] X.env = [(false, eval (.Name "bool" p2) X.env)] := by rfl) : PEv X (.Call (.Name "isinstance" p) [a, .Name "bool" p2] [] pos) (sIsi "bool" A) := ev_isi hm hmT ha (by decide +kernel) (by decide) (by decide) hg hgT he he2
def kAug (f : F2) (i : Nat) (A : SE) : SS := fun ρ st => match ρ[i]? with
  | some (some x) => (A ρ st).bind fun p => (f x p.1 p.2).bind fun q => some (.nx (ρ.set i (some q.1)), q.2)
  | _ => none
section
open AutoSeq1
end
def rExtT (K : PySem.W.Frag) : V → List V → Hp → VK → Prop := fun x vs H Q => ∃ l b xs zs, x = .ref l ∧ vs = [.ref b] ∧ H l = some (.lst xs) ∧ SqT K H b zs ∧ xs.length + zs.length ≤ sizeLine ∧ Q .non (upd H l (.lst (xs ++ zs)))
theorem MtM.or {X : Cx} {id : String} {r r' : V → List V → Hp → VK → Prop} (h : MtM X id r) (h' : MtM X id r') : MtM X id (fun x xs H Q => r x xs H Q ∨ r' x xs H Q) := by
  intro pins s σ H x xs v us Q I rx rv q
  rcases q with q | q
  · exact h pins s σ H x xs v us Q I rx rv q
  · exact h' pins s σ H x xs v us Q I rx rv q
def mExtend : D → List D → Store → Option (D × Store) := fun x ds st => match x, ds with
  | .lst h, [.lst k] => (st[h]?).bind fun xs => (st[k]?).bind fun ys => if 0 < h ∧ 0 < k ∧ xs.length + ys.length ≤ sizeLine then some (.non, st.set h (xs ++ ys)) else none
  | .lst h, [.tup ys] => (st[h]?).bind fun xs => if 0 < h ∧ xs.length + ys.length ≤ sizeLine then some (.non, st.set h (xs ++ ys)) else none
  | _, _ => none
def strOf : D → Option Str
  | .str x => some x
  | _ => none
def rCountS (K : PySem.W.Frag) : V → List V → Hp → VK → Prop := fun x vs H Q => ∃ (a : Addr) (ys : List Str) (k : Str), x = .ref a ∧ vs = [.str k] ∧ SqL K H a (ys.map V.str) ∧ Q (.int (countIn (.str k) (ys.map PyData.str))) H
def mCount : D → List D → Store → Option (D × Store) := fun x ds st => match x, ds with
  | .lst h, [.str k] => (st[h]?).bind fun xs => (mapO strOf xs).bind fun ys => some (.int (countIn (.str k) (ys.map PyData.str)), st)
  | _, _ => none
end Ev
namespace Ev
open PySem PySem.Spec PyProof.Rows L2
theorem noFill_tuple_mul : fillsNumberSlot (.type "tuple") "mul" = pure false :=
  PySem.fillsNumberSlot_seq (id := "tuple.__mul__") (r := some (.builtin "tuple.__rmul__")) PySem.F.slot_tuple_mul.lookup (by decide +kernel) PySem.F.slot_tuple_rmul.lookup (by decide +kernel)
theorem repeat_tuple : seqRepeat? (.type "tuple") = pure (some (.builtin "tuple.__mul__")) := by
  unfold seqRepeat?
  rw [PySem.seqSlot_of (T := "tuple") (name := "__mul__") (id := "tuple.__mul__") PySem.F.slot_tuple_mul.lookup (by decide +kernel), PySem.seqSlot_of (T := "tuple") (name := "__rmul__") (id := "tuple.__rmul__") PySem.F.slot_tuple_rmul.lookup (by decide +kernel)]
  rfl
theorem rmul_int_tuple (a : Int) (t : Tok) (l : Addr) (items : Array Value) (n : Nat) (dd : Option Addr) (sl : Array (Option Value)) :
    Meets (Builtin.«int.__rmul__» ⟨[.int a t, .ref l], []⟩) (fun _ R s => s.heap.get? l = some { cls := .type "tuple", dict := dd, data := .seq items n, slots := sl } ∧ R (.ok (.ret Value.notImplemented)) s) :=
  .of_wp fun prog w A R s h => by obtain ⟨hp, g, d, tk, os⟩ := s; obtain ⟨hl, h⟩ := h; wp_walk; exact ⟨_, rfl, h⟩
theorem tuple_mulW (l : Addr) (items : Array Value) (n : Nat) (x : Int) (u : Tok) (dd : Option Addr) (sl : Array (Option Value))
    (hc0 : ¬ (decide (x < -(2 ^ 63)) || decide (x ≥ 2 ^ 63)) = true) (hc1 : ¬ (items.isEmpty || x == 1) = true) (hc2 : ¬ (decide (x ≤ 0) || items.isEmpty) = true) (hc3 : ¬ (items.size : Int) * x > (2 ^ 63 - 1) / 8) (hc4 : ¬ Builtin.Tuple.tupleTooMany ((items.size : Int) * x) = true)
    (hz : (List.foldl (fun x1 x2 => x1 ++ x2) #[] (List.replicate x.toNat items)).size ≤ sizeLine) :
    Meets (Builtin.«tuple.__mul__» ⟨[.ref l, .int x u], []⟩) (fun _ R s => s.heap.get? l = some { cls := .type "tuple", dict := dd, data := .seq items n, slots := sl } ∧ R (.ok (.ret (Value.ref s.heap.objs.size))) { s with heap := s.heap.push { cls := Value.type "tuple", data := Data.seq (List.foldl (fun x1 x2 => x1 ++ x2) #[] (List.replicate x.toNat items)) }, toks := s.toks }) :=
  .of_wp fun prog w A R s h => by
    obtain ⟨hp, g, d, tk, os⟩ := s; obtain ⟨hl, h⟩ := h
    have f1 := AutoSeq1.idx_int; have f2 := AutoSeq1.sub_tuple_tuple
    wp_walk using AutoSeq1.wpAny_loadPart' hl
    rw [if_neg hc0]
    refine wpAny_bind (m := Builtin.Tuple.tupleItemsOf (.ref l)) (tupleItemsOf_ ⟨_, hl, rfl, _, rfl⟩ ?_)
    dsimp only
    rw [if_neg hc1, if_neg hc2, if_neg hc3, if_neg hc4]
    unfold Builtin.Tuple.tupleExact
    refine wpAny_bind (wpAny_newObj_type (wpAny_pure ⟨_, rfl, h⟩) hz)
def rMulT (K : PySem.W.Frag) : R2 := fun x y H Q => ∃ l k xs, x = .ref l ∧ y = .int k ∧ SqT K H l xs ∧ xs ≠ [] ∧ 2 ≤ k ∧ k ≤ 1000 ∧ xs.length ≤ 1000 ∧
  ∀ p, H p = none → Q (.ref p) (upd H p (.tup (List.replicate k.toNat xs).flatten))
theorem op_mulT {X : Cx} : OpR X (binaryOp .Mult) (rMulT X.K) := by
  intro pins s σ H x y v u Q I rx ry h
  obtain ⟨l, k, xs, rfl, rfl, hx, hne, k2, k3, hz, q⟩ := h
  cases rx
  obtain ⟨t, rfl⟩ := ry
  obtain ⟨its, r, ⟨⟨cls2, dd2, data2, sl2⟩, e, hc2, n2, hd2⟩, _⟩ := I.tuple hx
  simp only at hc2 hd2
  subst hc2 hd2
  have hl := r.length
  have ne' : its ≠ [] := fun z => hne (r.nil_iff.mp z)
  have hnew : List.foldl (fun x1 x2 => x1 ++ x2) #[] (List.replicate k.toNat its.toArray) = (List.replicate k.toNat its).flatten.toArray := by
    have := foldl_rep its k.toNat []
    rw [List.nil_append] at this
    exact this
  have hlen : (List.replicate k.toNat its).flatten.length ≤ 1000000 := by
    rw [len_rep]
    have a1 : k.toNat ≤ 1000 := by omega
    have a2 : its.length ≤ 1000 := by omega
    exact Nat.le_trans (Nat.mul_le_mul a1 a2) (by decide)
  have hprod : (its.toArray.size : Int) * k ≤ 1000000 := by
    have : ((List.replicate k.toNat its).flatten.length : Int) = (its.toArray.size : Int) * k := by
      rw [len_rep, List.size_toArray, Int.natCast_mul, Int.toNat_of_nonneg (by omega), Int.mul_comm]
    rw [← this]; omega
  have hc0 : ¬ (decide (k < -(2 ^ 63)) || decide (k ≥ 2 ^ 63)) = true := by
    rw [Bool.or_eq_true, decide_eq_true_eq, decide_eq_true_eq]; omega
  have hc1 : ¬ (its.toArray.isEmpty || k == 1) = true := by
    rw [Bool.or_eq_true]
    rintro (z | z)
    · exact ne' (by simpa using z)
    · have : k = 1 := eq_of_beq z
      omega
  have hc2 : ¬ (decide (k ≤ 0) || its.toArray.isEmpty) = true := by
    rw [Bool.or_eq_true, decide_eq_true_eq]
    rintro (z | z)
    · omega
    · exact ne' (by simpa using z)
  have hc3 : ¬ (its.toArray.size : Int) * k > (2 ^ 63 - 1) / 8 := by
    generalize (its.toArray.size : Int) * k = z at hprod
    omega
  have hc4 : ¬ Builtin.Tuple.tupleTooMany ((its.toArray.size : Int) * k) = true := by
    unfold Builtin.Tuple.tupleTooMany
    rw [decide_eq_true_eq, sizeLine_eq]
    generalize (its.toArray.size : Int) * k = z at hprod
    omega
  refine wpAny_binaryOp_repeat_ref (T := "tuple") (U := "int") (by decide) ⟨_, e, rfl⟩ (fun s' => typeIs_int s' k t) noFill_tuple_mul PySem.F.fills_int_mul PySem.F.slot_int_rmul repeat_tuple PySem.F.slot_int_index.lookup
    (call_meets PySem.F.slot_int_rmul (typeIs_int s k t) PySem.F.entry_int_rmul (PySem.F.args_int_rmul_2 _ _) (rmul_int_tuple k t l its.toArray n2 dd2 sl2)
      ⟨e, rfl, ⟨_, e, rfl⟩, call_meets PySem.F.slot_tuple_mul ⟨_, e, rfl⟩ PySem.F.entry_tuple_mul (PySem.F.args_tuple_mul_2 _ _) (tuple_mulW l its.toArray n2 k t dd2 sl2 hc0 hc1 hc2 hc3 hc4 (by rw [hnew]; exact small _ hlen)) ⟨e, ?_⟩⟩)
  rw [hnew]
  refine ⟨.ref s.heap.objs.size, _, I.laid (t' := s.toks) (o := .tup (List.replicate k.toNat xs).flatten) (fun b ob q => Heap.get?_push_of_some _ q) (Nat.le_refl _) ?_, rfl, q _ (I.hok.fresh (Nat.le_refl _))⟩
  exact ⟨by rw [len_rep, hl, ← len_rep]; exact small _ hlen, _, r.rep k.toNat, IsTup.new _ _⟩
def fMulT : F2 := fun x y st => match x, y with
  | .tup xs, .int k => if xs ≠ [] ∧ 2 ≤ k ∧ k ≤ 1000 ∧ xs.length ≤ 1000 then some (.tup (List.replicate k.toNat xs).flatten, st) else none
  | _, _ => none
theorem prim_mulT {K : PySem.W.Frag} : Prim2 K (rMulT K) fMulT := by
  intro H μ st x y dx dy d st' Q s rx ry e q
  unfold fMulT at e
  split at e
  · split at e
    · rename_i h0
      cases e
      cases ry
      cases rx with
      | tup h1 r1 =>
        exact ⟨_, _, _, rfl, rfl, h1, fun z => h0.1 (r1.nil_iff.mp z), h0.2.1, h0.2.2.1, by rw [r1.length]; exact h0.2.2.2, fun p hp => newT_ok s (r1.rep _) q p hp⟩
    · cases e
  · cases e
noncomputable def fMulA : F2 := fOr fMul fMulT
theorem ev_mulA {X : Cx} {pos : Pos} {a b : Expr} {A B : SE} (ha : PEv X a A) (hb : PEv X b B) : PEv X (.BinOp a .Mult b pos) (sOp2 fMulA A B) :=
  ev_op (OpR.or (OpR.or op_mul op_rep) op_mulT) (Prim2.or (Prim2.or (prim_I fun _ _ _ _ _ _ => .int _) prim_repL) prim_mulT) ha hb
end Ev
namespace Ev
open PySem L2
def W {α : Type} (x : Option (α × Store)) (Q : α → Store → Prop) : Prop := ∃ a s, x = some (a, s) ∧ Q a s
section
variable {α β : Type} {ρ : Rho} {st : Store}
theorem W.mono {x : Option (α × Store)} {Q R : α → Store → Prop} (h : W x Q) (m : ∀ a s, Q a s → R a s) : W x R := by obtain ⟨a, s, e, q⟩ := h; exact ⟨a, s, e, m a s q⟩
theorem W.of {x : Option (α × Store)} {Q : α → Store → Prop} {a : α} {s : Store} (e : x = some (a, s)) (q : Q a s) : W x Q := ⟨a, s, e, q⟩
theorem w_bind {x : Option (α × Store)} {f : α × Store → Option (β × Store)} {Q : β → Store → Prop} (h : W x fun a s => W (f (a, s)) Q) : W (x.bind f) Q := by
  obtain ⟨a, s, e, b, s', e', q⟩ := h
  exact ⟨b, s', by rw [e]; exact e', q⟩
theorem w_some {a : α} {Q : α → Store → Prop} (h : Q a st) : W (some (a, st)) Q := ⟨a, st, rfl, h⟩
section
variable {A B : SE} {R : SA} {Q : D → Store → Prop}
theorem w_var {i : Nat} {d : D} (h : ρ[i]? = some (some d)) (q : Q d st) : W (sVar i ρ st) Q := ⟨d, st, by unfold sVar; rw [h], q⟩
theorem w_c {d : D} (q : Q d st) : W (sC d ρ st) Q := ⟨d, st, rfl, q⟩
theorem w_op2 {f : F2} (h : W (A ρ st) fun x s => W (B ρ s) fun y s2 => W (f x y s2) Q) : W (sOp2 f A B ρ st) Q := w_bind (h.mono fun _ _ h => w_bind h)
theorem w_call {F : FS} (h : W (R ρ st) fun ds s => W (F ds s) Q) : W (sCall F R ρ st) Q := w_bind h
theorem w_tup (h : W (R ρ st) fun ds s => ds.length ≤ 1000000 ∧ Q (.tup ds) s) : W (sTup R ρ st) Q := w_bind (h.mono fun ds s h => by
  show W (if ds.length ≤ sizeLine then _ else _) Q
  rw [if_pos (small _ h.1)]; exact w_some h.2)
theorem w_lst (h : W (R ρ st) fun ds s => ds.length ≤ 1000000 ∧ Q (.lst s.length) (s ++ [ds])) : W (sLst R ρ st) Q := w_bind (h.mono fun ds s h => by
  show W (if ds.length ≤ sizeLine then _ else _) Q
  rw [if_pos (small _ h.1)]; exact w_some h.2)
theorem w_isi {T : String} (h : W (A ρ st) fun d s => ∃ b, fIsi T d = some b ∧ Q (.bl b) s) : W (sIsi T A ρ st) Q := w_bind (h.mono fun d s ⟨b, e, q⟩ => by
  show W ((fIsi T d).bind _) Q
  rw [e]; exact w_some q)
theorem w_neg (h : W (A ρ st) fun d s => ∃ i, d = .int i ∧ Q (.int (-i)) s) : W (sNeg A ρ st) Q := w_bind (h.mono fun d s ⟨i, e, q⟩ => by subst e; exact w_some q)
theorem w_if {C : SB} (h : W (C ρ st) fun b s => (b = true → W (A ρ s) Q) ∧ (b = false → W (B ρ s) Q)) : W (sIf C A B ρ st) Q := w_bind (h.mono fun b s h => by
  cases b with
  | true => exact h.1 rfl
  | false => exact h.2 rfl)
theorem w_andV (h : W (A ρ st) fun d s => ∃ b, d = .bl b ∧ (b = true → W (B ρ s) Q) ∧ (b = false → Q (.bl false) s)) : W (sAndV A B ρ st) Q := w_bind (h.mono fun d s ⟨b, e, h⟩ => by
  subst e
  cases b with
  | true => exact h.1 rfl
  | false => exact w_some (h.2 rfl))
theorem w_orV (h : W (A ρ st) fun d s => ∃ b, d = .bl b ∧ (b = true → Q (.bl true) s) ∧ (b = false → W (B ρ s) Q)) : W (sOrV A B ρ st) Q := w_bind (h.mono fun d s ⟨b, e, h⟩ => by
  subst e
  cases b with
  | true => exact w_some (h.1 rfl)
  | false => exact h.2 rfl)
theorem w_notV (h : W (A ρ st) fun d s => ∃ b, d = .bl b ∧ Q (.bl (!b)) s) : W (sNotV A ρ st) Q := w_bind (h.mono fun d s ⟨b, e, h⟩ => by subst e; exact w_some h)
def MethQ (f : D → List D → Store → Option (D × Store)) (R : SA) (ρ : Rho) (Q : D → Store → Prop) : D → Store → Prop := fun d s => ∃ k xs, d = .lst k ∧ s[k]? = some xs ∧ W (R ρ s) fun ds s2 => W (f (.lst k) ds s2) Q
theorem meth_is {f : D → List D → Store → Option (D × Store)} {k : Nat} {xs : List D} {s : Store} (h : s[k]? = some xs) (x : W (R ρ s) fun ds s2 => W (f (.lst k) ds s2) Q) : MethQ f R ρ Q (.lst k) s := ⟨k, xs, rfl, h, x⟩
theorem w_meth {f : D → List D → Store → Option (D × Store)} (h : W (A ρ st) (MethQ f R ρ Q)) : W (sMeth f A R ρ st) Q := w_bind (h.mono fun d s ⟨k, xs, e, g, h⟩ => by
  subst e
  show W (if s[k]?.isSome then _ else _) Q
  rw [g]
  exact w_bind h)
theorem w_sl {L U : SO} (h : W (A ρ st) fun x s => W (L ρ s) fun l s2 => W (U ρ s2) fun u s3 => W (fCutA x l u s3) Q) : W (sSlA A L U ρ st) Q := w_bind (h.mono fun _ _ h => w_bind (h.mono fun _ _ h => w_bind h))
end
theorem w_no {Q : Option Int → Store → Prop} (h : Q none st) : W (sNo ρ st) Q := w_some h
theorem w_part {A : SE} {Q : Option Int → Store → Prop} (h : W (A ρ st) fun d s => ∃ i, d = .int i ∧ Q (some i) s) : W (sPart A ρ st) Q := w_bind (h.mono fun d s ⟨i, e, q⟩ => by subst e; exact w_some q)
theorem w_nil {Q : List D → Store → Prop} (h : Q [] st) : W (sNil ρ st) Q := w_some h
theorem w_cons {A : SE} {R : SA} {Q : List D → Store → Prop} (h : W (A ρ st) fun d s => W (R ρ s) fun ds s2 => Q (d :: ds) s2) : W (sCons A R ρ st) Q := w_bind (h.mono fun _ _ h => w_bind (h.mono fun _ _ h => w_some h))
section
variable {A : SE} {B C : SB} {Q : Bool → Store → Prop}
theorem w_val (h : W (A ρ st) fun d s => ∃ b, d = .bl b ∧ Q b s) : W (sVal A ρ st) Q := w_bind (h.mono fun d s ⟨b, e, q⟩ => by subst e; exact w_some q)
theorem w_tru (h : W (A ρ st) fun d s => ∃ b, truth s d = some b ∧ Q b s) : W (sTru A ρ st) Q := w_bind (h.mono fun d s ⟨b, e, q⟩ => by
  show W ((truth s d).map _) Q
  rw [e]; exact w_some q)
theorem w_and (h : W (B ρ st) fun b s => (b = true → W (C ρ s) Q) ∧ (b = false → Q false s)) : W (bAnd B C ρ st) Q := w_bind (h.mono fun b s h => by
  cases b with
  | true => exact h.1 rfl
  | false => exact w_some (h.2 rfl))
theorem w_or (h : W (B ρ st) fun b s => (b = true → Q true s) ∧ (b = false → W (C ρ s) Q)) : W (bOr B C ρ st) Q := w_bind (h.mono fun b s h => by
  cases b with
  | true => exact w_some (h.1 rfl)
  | false => exact h.2 rfl)
theorem w_not (h : W (B ρ st) fun b s => Q (!b) s) : W (bNot B ρ st) Q := w_bind (h.mono fun b s h => w_some h)
theorem w_yes (h : Q true st) : W (bYes ρ st) Q := w_some h
end
section
variable {A : SE} {C : SB} {S T : SS} {Q : Fl → Store → Prop}
def SeqQ (T : SS) (Q : Fl → Store → Prop) : Fl → Store → Prop := fun fl s => match fl with | .nx ρ' => W (T ρ' s) Q | o => Q o s
theorem seq_nx {ρ' : Rho} {s : Store} (h : W (T ρ' s) Q) : SeqQ T Q (.nx ρ') s := h
theorem seq_rt {d : D} {s : Store} (h : Q (.rt d) s) : SeqQ T Q (.rt d) s := h
theorem seq_bk {ρ' : Rho} {s : Store} (h : Q (.bk ρ') s) : SeqQ T Q (.bk ρ') s := h
theorem seq_ct {ρ' : Rho} {s : Store} (h : Q (.ct ρ') s) : SeqQ T Q (.ct ρ') s := h
theorem w_seq (h : W (S ρ st) (SeqQ T Q)) : W (kSeq S T ρ st) Q := w_bind (h.mono fun fl s h => by
  cases fl with
  | nx ρ' => exact h
  | rt d => exact w_some h
  | bk ρ' => exact w_some h
  | ct ρ' => exact w_some h)
theorem w_next (h : Q (.nx ρ) st) : W (kNext ρ st) Q := w_some h
theorem w_drop (h : W (A ρ st) fun _ s => Q (.nx ρ) s) : W (kDrop A ρ st) Q := w_bind (h.mono fun _ _ h => w_some h)
theorem w_ret (h : W (A ρ st) fun d s => Q (.rt d) s) : W (kRet A ρ st) Q := w_bind (h.mono fun _ _ h => w_some h)
theorem w_ifS (h : W (C ρ st) fun b s => (b = true → W (S ρ s) Q) ∧ (b = false → W (T ρ s) Q)) : W (kIf C S T ρ st) Q := w_bind (h.mono fun b s h => by
  cases b with
  | true => exact h.1 rfl
  | false => exact h.2 rfl)
theorem w_asg {i : Nat} (h : W (A ρ st) fun d s => Q (.nx (ρ.set i (some d))) s) : W (kAsg A (gN i) ρ st) Q := w_bind (h.mono fun _ _ h => w_some h)
theorem w_asgT {is : List Nat} (h : W (A ρ st) fun d s => ∃ ds ρ', d = .tup ds ∧ setAll is ds ρ = some ρ' ∧ Q (.nx ρ') s) : W (kAsg A (gT is) ρ st) Q := w_bind (h.mono fun d s ⟨ds, ρ', e, e2, h⟩ => by
  subst e
  show W ((setAll is ds ρ).bind _) Q
  rw [e2]; exact w_some h)
theorem w_brk (h : Q (.bk ρ) st) : W (kBrk ρ st) Q := w_some h
theorem w_cnt (h : Q (.ct ρ) st) : W (kCnt ρ st) Q := w_some h
def PutQ (ρ : Rho) (v : D) (Q : Fl → Store → Prop) (o i : D) (s3 : Store) : Prop := ∃ k z xs j, o = .lst k ∧ i = .int z ∧ s3[k]? = some xs ∧ ixN xs.length z = some j ∧ 0 < k ∧ Q (.nx ρ) (s3.set k (xs.set j v))
theorem put_is {v : D} {k j : Nat} {z : Int} {xs : List D} {s3 : Store} (h1 : s3[k]? = some xs) (h2 : ixN xs.length z = some j) (h3 : 0 < k) (q : Q (.nx ρ) (s3.set k (xs.set j v))) : PutQ ρ v Q (.lst k) (.int z) s3 := ⟨k, z, xs, j, rfl, rfl, h1, h2, h3, q⟩
theorem w_put {O I : SE} (h : W (A ρ st) fun v s => W (O ρ s) fun o s2 => W (I ρ s2) fun i s3 => PutQ ρ v Q o i s3) : W (kPut A O I ρ st) Q :=
  w_bind (h.mono fun v s h => w_bind (h.mono fun o s2 h => w_bind (h.mono fun i s3 ⟨k, z, xs, j, e1, e2, e3, e4, e5, q⟩ => by
    subst e1 e2
    show W ((s3[k]?).bind fun xs => (ixN xs.length z).bind fun j => if 0 < k then some (Fl.nx ρ, s3.set k (xs.set j v)) else none) Q
    rw [e3]
    simp only [Option.bind_some, e4, if_pos e5]
    exact w_some q)))
theorem w_aug {f : F2} {i : Nat} {x : D} (hx : ρ[i]? = some (some x)) (h : W (A ρ st) fun y s => W (f x y s) fun d s2 => Q (.nx (ρ.set i (some d))) s2) : W (kAug f i A ρ st) Q := by
  unfold kAug
  rw [hx]
  exact w_bind (h.mono fun _ _ h => w_bind (h.mono fun _ _ h => w_some h))
end
def RetQ (Q : D → Store → Prop) : Fl → Store → Prop := fun fl s => match fl with | .rt d => Q d s | .nx _ => Q .non s | _ => False
theorem ret_rt {Q : D → Store → Prop} {d : D} {s : Store} (h : Q d s) : RetQ Q (.rt d) s := h
theorem w_def {N np : Nat} {B : SS} {ds : List D} {Q : D → Store → Prop} (hl : ds.length = np) (h : W (B (ds.map some ++ List.replicate (N - ds.length) none) st) (RetQ Q)) : W (defF N np B ds st) Q := by
  unfold defF
  rw [if_pos hl]
  refine w_bind (h.mono fun fl s h => ?_)
  cases fl with
  | nx ρ' => exact w_some h
  | rt d => exact w_some h
  | bk ρ' => exact h.elim
  | ct ρ' => exact h.elim
theorem iRange2_ok {R : SA} {ρ : Rho} {st st1 : Store} {i j : Int} (h : R ρ st = some ([.int i, .int j], st1)) (b : (-1000000 ≤ i ∧ i ≤ 1000000) ∧ -1000000 ≤ j ∧ j ≤ 1000000) : iRange2 R ρ st = some ((rngD i (j - i).toNat, none), st1) := by
  unfold iRange2
  rw [h]
  simp only [Option.bind_some]
  rw [if_pos ⟨⟨by omega, by omega⟩, by omega, by omega⟩]
def TurnQ (P : Rho → Store → Prop) (Q : Fl → Store → Prop) : Fl → Store → Prop := fun fl s => match fl with | .nx ρ' => P ρ' s | .ct ρ' => P ρ' s | .bk ρ' => Q (.nx ρ') s | .rt d => Q (.rt d) s
theorem turn_nx {P : Rho → Store → Prop} {Q : Fl → Store → Prop} {ρ' : Rho} {s : Store} (h : P ρ' s) : TurnQ P Q (.nx ρ') s := h
theorem turn_ct {P : Rho → Store → Prop} {Q : Fl → Store → Prop} {ρ' : Rho} {s : Store} (h : P ρ' s) : TurnQ P Q (.ct ρ') s := h
theorem turn_bk {P : Rho → Store → Prop} {Q : Fl → Store → Prop} {ρ' : Rho} {s : Store} (h : Q (.nx ρ') s) : TurnQ P Q (.bk ρ') s := h
theorem turn_rt {P : Rho → Store → Prop} {Q : Fl → Store → Prop} {d : D} {s : Store} (h : Q (.rt d) s) : TurnQ P Q (.rt d) s := h
theorem forW {chk : Option (Nat × List D)} {all : List D} {G : SG} {B : SS} {Q : Fl → Store → Prop} (P : Nat → Rho → Store → Prop)
    (turn : ∀ i x ρ st, all[i]? = some x → P i ρ st → Still chk all st ∧ ∃ ρ1, G x ρ = some ρ1 ∧ W (B ρ1 st) (TurnQ (P (i + 1)) Q)) (fin : ∀ ρ st, P all.length ρ st → Still chk all st ∧ Q (.nx ρ) st) :
    ∀ (xs : List D) (i : Nat) (ρ : Rho) (st : Store), all.drop i = xs → i ≤ all.length → P i ρ st → W (forGo chk all G B xs ρ st) Q
  | [], i, ρ, st, hd, hi, p => by
    have ei : i = all.length := by
      have := congrArg List.length hd
      rw [List.length_drop, List.length_nil] at this
      omega
    subst ei
    unfold forGo
    rw [if_pos (fin ρ st p).1]
    exact w_some (fin ρ st p).2
  | x :: r, i, ρ, st, hd, hi, p => by
    have hlt : i < all.length := by
      have := congrArg List.length hd
      rw [List.length_drop, List.length_cons] at this
      omega
    have hx : all[i]? = some x := by
      rw [List.drop_eq_getElem_cons hlt] at hd
      rw [List.getElem?_eq_getElem hlt]
      exact congrArg some (List.cons.inj hd).1
    have hr : all.drop (i + 1) = r := by
      rw [List.drop_eq_getElem_cons hlt] at hd
      exact (List.cons.inj hd).2
    obtain ⟨s, ρ1, e1, h⟩ := turn i x ρ st hx p
    unfold forGo
    rw [if_pos s, e1]
    simp only [Option.bind_some]
    refine w_bind (h.mono fun fl s h => ?_)
    cases fl with
    | nx ρ2 => exact forW P turn fin r (i + 1) _ _ hr hlt h
    | ct ρ2 => exact forW P turn fin r (i + 1) _ _ hr hlt h
    | bk ρ2 => exact w_some h
    | rt d => exact w_some h
theorem whileW {C : SB} {B : SS} {Q : Fl → Store → Prop} (P : Nat → Rho → Store → Prop)
    (step : ∀ m ρ st, P m ρ st → W (C ρ st) fun b s => (b = true → W (B ρ s) (TurnQ (fun ρ' s' => ∃ m', m' < m ∧ P m' ρ' s') Q)) ∧ (b = false → Q (.nx ρ) s)) :
    ∀ n m ρ st, P m ρ st → m < n → W (whGo C B n ρ st) Q
  | 0, m, ρ, st, _, h => by omega
  | n + 1, m, ρ, st, p, h => by
    unfold whGo
    refine w_bind ((step m ρ st p).mono fun b s hb => ?_)
    cases b with
    | true =>
      simp only [if_true]
      refine w_bind ((hb.1 rfl).mono fun fl s h => ?_)
      cases fl with
      | nx ρ2 => obtain ⟨m', lt, p2⟩ := h; exact whileW P step n m' ρ2 _ p2 (by omega)
      | ct ρ2 => obtain ⟨m', lt, p2⟩ := h; exact whileW P step n m' ρ2 _ p2 (by omega)
      | bk ρ2 => exact w_some h
      | rt d => exact w_some h
    | false => simp only [Bool.false_eq_true, if_false]; exact w_some (hb.2 rfl)
theorem w_while {C : SB} {B : SS} {n m : Nat} {Q : Fl → Store → Prop} (P : Nat → Rho → Store → Prop) (h0 : P m ρ st) (hm : m < n)
    (step : ∀ m ρ st, P m ρ st → W (C ρ st) fun b s => (b = true → W (B ρ s) (TurnQ (fun ρ' s' => ∃ m', m' < m ∧ P m' ρ' s') Q)) ∧ (b = false → Q (.nx ρ) s)) : W (kWhile n C B ρ st) Q := whileW P step n m ρ st h0 hm
theorem lcW {chk : Option (Nat × List D)} {all : List D} {G : SG} {T : SB} {A : SE} {k : Nat} {ρ : Rho} {Q : Unit → Store → Prop} (P : Nat → List D → Store → Prop)
    (turn : ∀ i x acc st, all[i]? = some x → P i acc st → st[k]? = some acc → Still chk all st ∧ ∃ ρ1, G x ρ = some ρ1 ∧ W (T ρ1 st) fun b s =>
      (b = true → W (A ρ1 s) fun d s2 => s2[k]? = some acc ∧ acc.length < 1000000 ∧ P (i + 1) (acc ++ [d]) (s2.set k (acc ++ [d]))) ∧ (b = false → s[k]? = some acc ∧ P (i + 1) acc s))
    (fin : ∀ acc st, P all.length acc st → st[k]? = some acc → Still chk all st ∧ Q () st) :
    ∀ (xs : List D) (i : Nat) (acc : List D) (st : Store), all.drop i = xs → i ≤ all.length → P i acc st → st[k]? = some acc → ∃ st', lcGo chk all G T A k ρ xs st = some st' ∧ Q () st'
  | [], i, acc, st, hd, hi, p, e => by
    have ei : i = all.length := by
      have := congrArg List.length hd
      rw [List.length_drop, List.length_nil] at this
      omega
    subst ei
    exact ⟨st, by unfold lcGo; rw [if_pos (fin acc st p e).1], (fin acc st p e).2⟩
  | x :: r, i, acc, st, hd, hi, p, e => by
    have hlt : i < all.length := by
      have := congrArg List.length hd
      rw [List.length_drop, List.length_cons] at this
      omega
    have hx : all[i]? = some x := by
      rw [List.drop_eq_getElem_cons hlt] at hd
      rw [List.getElem?_eq_getElem hlt]
      exact congrArg some (List.cons.inj hd).1
    have hr : all.drop (i + 1) = r := by
      rw [List.drop_eq_getElem_cons hlt] at hd
      exact (List.cons.inj hd).2
    obtain ⟨s, ρ1, e1, b, st1, e2, yes, no⟩ := turn i x acc st hx p e
    unfold lcGo
    rw [if_pos s, e1]
    simp only [Option.bind_some, e2]
    cases b with
    | true =>
      obtain ⟨d, st2, e3, e4, e5, p'⟩ := yes rfl
      simp only [if_true, e3, Option.bind_some, e4, small' _ e5]
      exact lcW P turn fin r (i + 1) _ _ hr hlt p' (get_set e4)
    | false =>
      obtain ⟨e3, p'⟩ := no rfl
      simp only [Bool.false_eq_true, if_false]
      exact lcW P turn fin r (i + 1) _ _ hr hlt p' e3
end
theorem len_and {ds : List D} {X : Prop} (h : Nat.ble ds.length 1000000 = true) (x : X) : ds.length ≤ 1000000 ∧ X := ⟨Nat.le_of_ble_eq_true h, x⟩
theorem br_dec {p : Prop} [Decidable p] {X Y : Prop} (h1 : p → X) (h2 : ¬ p → Y) : (decide p = true → X) ∧ (decide p = false → Y) := ⟨fun h => h1 (of_decide_eq_true h), fun h => h2 (of_decide_eq_false h)⟩
theorem br_ndec {p : Prop} [Decidable p] {X Y : Prop} (h1 : ¬ p → X) (h2 : p → Y) : ((!decide p) = true → X) ∧ ((!decide p) = false → Y) := ⟨fun h => h1 (by simpa using h), fun h => h2 (by simpa using h)⟩
theorem br_t {X Y : Prop} (h : X) : (true = true → X) ∧ (true = false → Y) := ⟨fun _ => h, fun h => by cases h⟩
theorem br_f {X Y : Prop} (h : Y) : (false = true → X) ∧ (false = false → Y) := ⟨fun h => (by cases h), fun _ => h⟩
theorem br_nt {X Y : Prop} (h : Y) : ((!true) = true → X) ∧ ((!true) = false → Y) := ⟨fun h => (by cases h), fun _ => h⟩
theorem br_nf {X Y : Prop} (h : X) : ((!false) = true → X) ∧ ((!false) = false → Y) := ⟨fun _ => h, fun h => (by cases h)⟩
section
variable {Q : D → Store → Prop} {st : Store} {i j : Int}
theorem p_add (q : Q (.int (i + j)) st) : W (fAddA (.int i) (.int j) st) Q := .of (fAddA_int ..) q
theorem p_sub (q : Q (.int (i - j)) st) : W (fSub (.int i) (.int j) st) Q := .of (fSub_int ..) q
theorem p_mulA (h : CMul i j) (q : Q (.int (i * j)) st) : W (fMulA (.int i) (.int j) st) Q := .of (by unfold fMulA fOr; rw [fMul_int h]; rfl) q
theorem p_mod (h : j ≠ 0) (q : Q (.int (i.fmod j)) st) : W (fMod (.int i) (.int j) st) Q := .of (fMod_int h st) q
theorem p_div (h : CDivN i j) (q : Q (.int (i.fdiv j)) st) : W (fDiv (.int i) (.int j) st) Q := .of (fDiv_int h st) q
theorem p_pow (h : CPow i j) (q : Q (.int (i ^ j.toNat)) st) : W (fPow (.int i) (.int j) st) Q := .of (fPow_int h st) q
theorem p_lt (q : Q (.bl (decide (i < j))) st) : W (fLt (.int i) (.int j) st) Q := .of (fLt_int ..) q
theorem p_le (q : Q (.bl (decide (i ≤ j))) st) : W (fLe (.int i) (.int j) st) Q := .of (fLe_int ..) q
theorem p_gt (q : Q (.bl (decide (j < i))) st) : W (fGt (.int i) (.int j) st) Q := .of (fGt_int ..) q
theorem p_ge (q : Q (.bl (decide (j ≤ i))) st) : W (fGe (.int i) (.int j) st) Q := .of (fGe_int ..) q
theorem p_eq (q : Q (.bl (decide (i = j))) st) : W (fEq (.int i) (.int j) st) Q := .of (fEq_int ..) q
theorem p_ne (q : Q (.bl (!decide (i = j))) st) : W (fNe (.int i) (.int j) st) Q := .of (fNe_int ..) q
theorem p_eqS {x y : Str} (q : Q (.bl (decide (x = y))) st) : W (fEq (.str x) (.str y) st) Q := .of (fEq_str ..) q
theorem p_neS {x y : Str} (q : Q (.bl (!decide (x = y))) st) : W (fNe (.str x) (.str y) st) Q := .of (fNe_str ..) q
theorem p_addL {a b : Nat} {xs ys : List D} (ha : st[a]? = some xs) (hb : st[b]? = some ys) (a0 : 0 < a) (b0 : 0 < b) (hz : xs.length + ys.length ≤ 1000000) (q : Q (.lst st.length) (st ++ [xs ++ ys])) : W (fAddA (.lst a) (.lst b) st) Q := .of (fAddA_lst ha hb a0 b0 (by rw [List.length_append]; exact small _ hz)) q
theorem p_addT {xs ys : List D} (hz : xs.length + ys.length ≤ 1000000) (q : Q (.tup (xs ++ ys)) st) : W (fAddA (.tup xs) (.tup ys) st) Q := .of (fAddA_tup (small _ hz)) q
theorem p_ixT {xs : List D} {d : D} (h : atI xs i = some d) (q : Q d st) : W (fIx (.tup xs) (.int i) st) Q := .of (fIx_tup h st) q
theorem p_ixL {xs : List D} {k : Nat} {d : D} (hs : st[k]? = some xs) (h : atI xs i = some d) (q : Q d st) : W (fIx (.lst k) (.int i) st) Q := .of (fIx_lst hs h) q
theorem p_lenT {xs : List D} (q : Q (.int xs.length) st) : W (fLen [.tup xs] st) Q := .of (fLen_tup ..) q
theorem p_lenL {xs : List D} {k : Nat} (hs : st[k]? = some xs) (q : Q (.int xs.length) st) : W (fLen [.lst k] st) Q := .of (fLen_lst hs) q
theorem p_tupL {xs : List D} {k : Nat} (hs : st[k]? = some xs) (q : Q (.tup xs) st) : W (fTuple [.lst k] st) Q := .of (fTuple_lst hs) q
theorem p_tupT {xs : List D} (q : Q (.tup xs) st) : W (fTuple [.tup xs] st) Q := .of (fTuple_tup ..) q
theorem newL_is {xs : List D} (hz : xs.length ≤ 1000000) : newL xs st = some (.lst st.length, st ++ [xs]) := by unfold newL; rw [if_pos (small _ hz)]
theorem p_listT {xs : List D} (hz : xs.length ≤ 1000000) (q : Q (.lst st.length) (st ++ [xs])) : W (fList [.tup xs] st) Q := .of (by simp only [fList, itemsOf, Option.bind_some]; exact newL_is hz) q
theorem p_intI (q : Q (.int i) st) : W (fInt [.int i] st) Q := .of rfl q
theorem p_intB {b : Bool} (q : Q (.int (if b then 1 else 0)) st) : W (fInt [.bl b] st) Q := .of rfl q
theorem p_min (q : Q (.int (if j < i then j else i)) st) : W (fMin [.int i, .int j] st) Q := .of rfl q
theorem p_max (q : Q (.int (if j > i then j else i)) st) : W (fMax [.int i, .int j] st) Q := .of rfl q
theorem mapO_ints (ns : List Int) : mapO intOf (ns.map D.int) = some ns := by
  induction ns with
  | nil => rfl
  | cons n r ih => unfold mapO; simp only [List.map_cons, intOf, Option.bind_some, ih]
theorem p_sum {k : Nat} {ns : List Int} (hs : st[k]? = some (ns.map D.int)) (q : Q (.int ns.sum) st) : W (fSum [.lst k] st) Q := .of (by simp only [fSum, hs, Option.bind_some, mapO_ints]) q
theorem p_append {k : Nat} {xs : List D} {d : D} (hs : st[k]? = some xs) (h0 : 0 < k) (hz : xs.length < 1000000) (q : Q .non (st.set k (xs ++ [d]))) : W (mAppend (.lst k) [d] st) Q := .of (by simp only [mAppend, hs, Option.bind_some, h0, small' _ hz, and_self, if_true]) q
theorem p_cutT {xs : List D} {lo hi : Option Int} (q : Q (.tup (cutD xs lo hi)) st) : W (fCutA (.tup xs) lo hi st) Q := .of rfl q
theorem p_cutL {xs : List D} {k : Nat} {lo hi : Option Int} (hs : st[k]? = some xs) (hz : xs.length ≤ 1000000) (q : Q (.lst st.length) (st ++ [cutD xs lo hi])) : W (fCutA (.lst k) lo hi st) Q := .of (by
  simp only [fCutA, hs, Option.bind_some]
  exact newL_is (by unfold cutD; rw [List.length_take, List.length_drop]; omega)) q
theorem p_in {neg : Bool} {x y : D} {v : V} {ys : List D} {vs : List V} (hx : flat x = some v) (hy : itemsOf st y = some ys) (hv : mapO flat ys = some vs) (q : Q (.bl (if neg then !inV v vs else inV v vs)) st) : W (fIn neg x y st) Q := .of (by simp only [fIn, hx, hy, hv, Option.bind_some]) q
end
end Ev
namespace Ev
open PySem PySem.Spec L2
def fAbs : FS := fun ds st => match ds with | [.int i] => some (.int (if i < 0 then -i else i), st) | _ => none
theorem prim_abs {K : PySem.W.Frag} : Prim K (fun xs H Q => ∃ i, xs = [.int i] ∧ Q (.int (if i < 0 then -i else i)) H) fAbs := by
  intro H μ st vs ds d st' Q s r e q
  unfold fAbs at e
  split at e
  · cases e
    obtain ⟨v, rfl, r1⟩ := repL_one r
    cases r1
    exact ⟨_, rfl, q _ μ H Ext.refl s (.int _)⟩
  · cases e
theorem ev_abs {X : Cx} {a : Expr} {R : SA} {p pos : Pos} (hm : X.mg "abs" = none) (ha : PAv X [a] R) (hg : Gl X "abs" := by rfl) (he : starEach [a] X.env = [(false, eval a X.env)] := by rfl) : PEv X (.Call (.Name "abs" p) [a] [] pos) (sCall fAbs R) := ev_callB call_abs prim_abs hm (by decide +kernel) ha hg (by decide) (by decide) he rfl
def ins (n : Int) : List Int → List Int
  | [] => [n]
  | m :: r => if n ≤ m then n :: m :: r else m :: ins n r
def sortI : List Int → List Int
  | [] => []
  | n :: r => ins n (sortI r)
theorem ins_perm (n : Int) : ∀ l, (ins n l).Perm (n :: l)
  | [] => .refl _
  | m :: r => by
    unfold ins
    split
    · exact .refl _
    · exact ((ins_perm n r).cons m).trans (.swap ..)
theorem sortI_perm : ∀ l, (sortI l).Perm l
  | [] => .refl _
  | n :: r => (ins_perm n _).trans ((sortI_perm r).cons n)
theorem ins_sorted (n : Int) : ∀ l : List Int, l.Pairwise (· ≤ ·) → (ins n l).Pairwise (· ≤ ·)
  | [], _ => by simp [ins]
  | m :: r, h => by
    unfold ins
    split
    · rename_i hn
      rw [List.pairwise_cons]
      refine ⟨fun x hx => ?_, h⟩
      rcases List.mem_cons.mp hx with rfl | hx
      · exact hn
      · exact Int.le_trans hn ((List.pairwise_cons.mp h).1 x hx)
    · rename_i hn
      rw [List.pairwise_cons] at h ⊢
      refine ⟨fun x hx => ?_, ins_sorted n r h.2⟩
      rcases List.mem_cons.mp ((ins_perm n r).mem_iff.mp hx) with rfl | hx
      · omega
      · exact h.1 x hx
theorem sortI_sorted : ∀ l, (sortI l).Pairwise (· ≤ ·)
  | [] => .nil
  | n :: r => ins_sorted n _ (sortI_sorted r)
theorem perm_sorted_eq : ∀ {a b : List Int}, a.Perm b → a.Pairwise (· ≤ ·) → b.Pairwise (· ≤ ·) → a = b := fun {a b} p ha hb =>
  List.Perm.eq_of_pairwise (le := (· ≤ ·)) (fun x y _ _ h1 h2 => Int.le_antisymm h1 h2) ha hb p
def fSortA : FS := fun ds st => match ds with
  | [.lst k] => (st[k]?).bind fun xs => match mapO intOf xs with
    | some ns => if xs.length < 64 then newL ((sortI ns).map D.int) st else none
    | none => fSort [.lst k] st
  | _ => none
theorem prim_sortA {K : PySem.W.Frag} : Prim K (fun xs H Q => rSorted K xs H Q ∨ rSortP K xs H Q) fSortA := by
  intro H μ st vs ds d st' Q s r e q
  unfold fSortA at e
  split at e
  case h_2 => cases e
  rename_i k
  obtain ⟨xs, e1, e⟩ := Option.bind_eq_some_iff.mp e
  split at e
  · rename_i ns e2
    left
    split at e
    case isFalse => cases e
    rename_i hl
    obtain ⟨v, rfl, r1⟩ := repL_one r
    obtain ⟨rfl, hk⟩ := rep_lst r1
    obtain ⟨ws, a, b⟩ := s.sq e1
    have hn := ints_rep b e2
    rw [hn] at a
    refine ⟨_, ns, rfl, a, ?_, fun ns' p hp hs hz => ?_⟩
    · have := b.length
      rw [hn, List.length_map] at this
      omega
    · have : ns' = sortI ns := perm_sorted_eq (hp.trans (sortI_perm ns).symm) hs (sortI_sorted ns)
      subst this
      exact (newL_ok s (repL_ints _) e q).2 p hz
  · right
    exact prim_sort H μ st vs [.lst k] d st' Q s r e q
theorem call_sortA {X : Cx} : CallR X (.builtin "sorted") (fun xs H Q => rSorted X.K xs H Q ∨ rSortP X.K xs H Q) := by
  intro pins s σ H xs us Q I r h
  rcases h with h | h
  · exact cr_sorted pins s σ H xs us Q I r h
  · exact call_sortP pins s σ H xs us Q I r h
theorem ev_sortedA {X : Cx} {a : Expr} {R : SA} {p pos : Pos} (hm : X.mg "sorted" = none) (ha : PAv X [a] R) (hg : Gl X "sorted" := by rfl) (he : starEach [a] X.env = [(false, eval a X.env)] := by rfl) : PEv X (.Call (.Name "sorted" p) [a] [] pos) (sCall fSortA R) := ev_callB call_sortA prim_sortA hm (by decide +kernel) ha hg (by decide) (by decide) he rfl
def fLRng1 : FS := fun ds st => match ds with
  | [.int j] => if -1000000 ≤ j ∧ j ≤ 1000000 then newL (rngD 0 j.toNat) st else none
  | _ => none
def fLRng2 : FS := fun ds st => match ds with
  | [.int i, .int j] => if (-1000000 ≤ i ∧ i ≤ 1000000) ∧ -1000000 ≤ j ∧ j ≤ 1000000 then newL (rngD i (j - i).toNat) st else none
  | _ => none
theorem rng_vals : ∀ (n : Nat) (lo : Int) (its : List Value), its.length = n → (∀ (i : Nat) v, its[i]? = some v → ∃ t, v = Value.int (lo + i) t) → ∃ vs, Vals vs its ∧ ∀ {K : PySem.W.Frag} {H : Hp} {μ : Nat → Addr} {m : Nat}, RepL K H μ m vs (rngD lo n)
  | 0, lo, its, hl, h => by
    have : its = [] := List.length_eq_zero_iff.mp hl
    subst this
    exact ⟨[], .nil, .nil⟩
  | n + 1, lo, its, hl, h => by
    cases its with
    | nil => simp at hl
    | cons v r =>
      obtain ⟨t, e⟩ := h 0 v rfl
      obtain ⟨vs, h1, h2⟩ := rng_vals n (lo + 1) r (by simpa using hl) fun i v e => by
        obtain ⟨t, e⟩ := h (i + 1) v (by simpa using e)
        exact ⟨t, by rw [e]; congr 1; omega⟩
      subst e
      refine ⟨V.int (lo + (0 : Nat)) :: vs, .cons ⟨t, rfl⟩ h1, ?_⟩
      have e0 : lo + ((0 : Nat) : Int) = lo := by simp
      rw [e0]
      exact fun {K H μ m} => .cons (.int lo) h2
theorem lrng_core {X : Cx} {pins : List (Addr × Obj)} {σ : St} {H : Hp} {s : Shared} {lo hi : Int} {t u v : Tok} {tk : Nat} {μ : Nat → Addr} {st st' : Store} {d : D} {Q : VK} {E : Value → Shared → Prop} (hc : X.calm = true) (I : Inv X pins σ H s) (so : StOk X.K H μ st)
    (b : (-1000000 ≤ lo ∧ lo ≤ 1000000) ∧ -1000000 ≤ hi ∧ hi ≤ 1000000) (e0 : newL (rngD lo (hi - lo).toNat) st = some (d, st')) (q : Post X.K H μ st.length d st' Q) :
    wpAny (model X.prog X.w) X.A (call (.type "list") [.ref s.heap.objs.size]) (EP X pins σ Q) E { s with heap := s.heap.push { cls := .type "range", data := .fields #[.int lo t, .int hi u, .int 1 v] }, toks := tk } := by
  have I1 : Inv X pins σ H { s with heap := s.heap.push { cls := .type "range", data := .fields #[.int lo t, .int hi u, .int 1 v] }, toks := tk } := I.kept fun b o e => Heap.get?_push_of_some _ e
  refine call_list_range (n := (hi - lo).toNat) (I.ok.hd hc) (IsRange.new ..) (small_one (by omega) (by omega) (by omega) (by omega)) (by rw [rangeSize_one]; split <;> omega) (by omega) fun h' tk' acc c kp eg ia => ?_
  obtain ⟨i1, i2⟩ := ia
  obtain ⟨vs, hv, hr⟩ := rng_vals (hi - lo).toNat lo acc.toList (by simpa using i1) fun i v e => by
    obtain ⟨t, e⟩ := i2 i v (by simpa using e)
    exact ⟨t, by rw [e]; simp⟩
  obtain ⟨z1, z2⟩ := newL_ok so hr e0 q
  have e1 := hv.length
  refine ⟨.ref _, upd H _ (.lst vs), I1.laid (o := .lst vs) (t' := tk') kp (Nat.le_refl _) ⟨?_, acc.toList, c, hv, by simpa using eg⟩, rfl, z2 _ (I1.hok.fresh (Nat.le_refl _))⟩
  rw [hr.length (K := X.K) (H := H) (μ := μ) (n := 0)]; exact z1
theorem ev_lrng1 {X : Cx} {e : Expr} {R : SA} {p1 p2 pos1 pos2 : Pos} (hc : X.calm = true) (hm1 : X.mg "list" = none) (hm2 : X.mg "range" = none) (ha : PAv X [e] R) (hg1 : Gl X "list" := by rfl) (hg2 : Gl X "range" := by rfl) (he : starEach [e] X.env = [(false, eval e X.env)] := by rfl)
    (he2 : starEach [.Call (.Name "range" p2) [e] [] pos2] X.env = [(false, eval (.Call (.Name "range" p2) [e] [] pos2) X.env)] := by rfl) :
    PEv X (.Call (.Name "list" p1) [.Call (.Name "range" p2) [e] [] pos2] [] pos1) (sCall fLRng1 R) := by
  intro pins s σ H Q I h
  obtain ⟨μ, ρ, st, d, st', hr, so, e0, q⟩ := h
  unfold sCall at e0
  obtain ⟨⟨ds, st1⟩, e1, e0⟩ := Option.bind_eq_some_iff.mp e0
  unfold fLRng1 at e0
  dsimp only at e0
  split at e0
  case h_2 => cases e0
  rename_i j
  split at e0
  case isFalse => cases e0
  rename_i hb
  refine wpAny_Call_Name_kw (ld_blt I hg1 hm1 (show bootBuiltins "list" = some (.type "list") by decide +kernel) ?_)
  refine PyProof.Rows.callWith_type1 (e := .Call (.Name "range" p2) [e] [] pos2) (rest := []) ?_ he2 rfl
  rw [he2]
  refine Calls.spliced_cons ?_
  refine wpAny_Call_Name_kw (ld_blt I hg2 hm2 (show bootBuiltins "range" = some (.type "range") by decide +kernel) ?_)
  refine PyProof.Rows.callWith_type1 (e := e) (rest := []) ?_ he rfl
  refine thn (ha pos2 pins s σ H (fun vs H1 => ∃ μ1, Ext X.K H μ st.length H1 μ1 st1.length ∧ StOk X.K H1 μ1 st1 ∧ RepL X.K H1 μ1 st1.length vs [.int j]) I ⟨μ, ρ, st, _, st1, hr, so, e1, fun vs μ1 H1 x1 s1 r1 => ⟨μ1, x1, s1, r1⟩⟩) fun us s1 ⟨vs, H1, I1, rv, μ1, x1, so1, rl⟩ => ?_
  obtain ⟨v, rfl, r1⟩ := repL_one rl
  cases r1
  obtain ⟨u, rfl, ru⟩ := vals1 rv
  obtain ⟨t, rfl⟩ := ru
  refine call_range_1 ?_
  refine Calls.spliced_nil ?_
  have e0' : newL (rngD 0 (j - 0).toNat) st1 = some (d, st') := by rw [show j - 0 = j by omega]; exact e0
  exact lrng_core (lo := 0) (hi := j) hc I1 so1 ⟨⟨by decide, by decide⟩, hb⟩ e0' fun v μ4 H4 x4 s4 r4 => q v μ4 H4 (x1.trans x4) s4 r4
section
variable {Q : D → Store → Prop} {st : Store} {i j : Int}
theorem p_abs (q : Q (.int (if i < 0 then -i else i)) st) : W (fAbs [.int i] st) Q := .of rfl q
theorem p_sortI {k : Nat} {ns : List Int} (hs : st[k]? = some (ns.map D.int)) (hl : ns.length < 64) (q : Q (.lst st.length) (st ++ [(sortI ns).map D.int])) : W (fSortA [.lst k] st) Q := .of (by
  have hz : (sortI ns).length = ns.length := (sortI_perm ns).length_eq
  simp only [fSortA, hs, Option.bind_some, mapO_ints, List.length_map, hl, if_true]
  exact newL_is (by rw [List.length_map]; omega)) q
theorem p_lrng1 (b : -1000000 ≤ j ∧ j ≤ 1000000) (q : Q (.lst st.length) (st ++ [rngD 0 j.toNat])) : W (fLRng1 [.int j] st) Q := .of (by
  simp only [fLRng1, b, and_self, if_true]
  exact newL_is (by rw [rngD_length]; omega)) q
end
end Ev
namespace Gx
open PySem PySem.Spec L2
open PyProof.Rows (AllBare)
theorem runs_more {M : Model} {Γ : PySem.Ctx} {p : Pos} {t : Sem Fin} {fs : List Frame} {a b : Shared} {e : End} (h : Runs M Γ p t fs a e b) : a.gens.size ≤ b.gens.size := by
  induction h <;> (try simp only [Shared.setGen, Array.size_set!, Array.size_push, Array.set!_eq_setIfInBounds, Array.size_setIfInBounds] at *) <;> omega
theorem wakes_more {M : Model} {Γ : PySem.Ctx} {p : Pos} {g : Nat} {r : Resume} {a b : Shared} {res : GenResult} (h : Wakes M Γ p g r a res b) : a.gens.size ≤ b.gens.size := by
  have sz : ∀ (z : Shared) (i : Nat) (x : GenState), (z.setGen i x).gens.size = z.gens.size := fun z i x => by simp [Shared.setGen]
  unfold Wakes at h
  split at h
  · exact h.elim
  · split at h
    · obtain ⟨e1, s1, hr, _, _, rfl⟩ := h
      have := runs_more hr
      rw [sz] at this ⊢; exact this
    · rw [h.2]; first | exact Nat.le_refl _ | (rw [sz]; exact Nat.le_refl _)
    · rw [h.2]; first | exact Nat.le_refl _ | (rw [sz]; exact Nat.le_refl _)
  · obtain ⟨e1, s1, hr, _, _, rfl⟩ := h
    have := runs_more hr
    rw [sz] at this ⊢; exact this
  · rw [h.2]; exact Nat.le_refl _
  · rw [h.2]; exact Nat.le_refl _
theorem wp_more {α : Type} (M : Model) (Γ : PySem.Ctx) (n : Nat) (t : Sem α) : ∀ (Q : α → Pos → Shared → Prop) (E : Value → Pos → Shared → Prop) (p : Pos) (s : Shared), n ≤ s.gens.size → Sem.wp M Γ t Q E p s →
    Sem.wp M Γ t (fun a q z => n ≤ z.gens.size ∧ Q a q z) (fun e q z => n ≤ z.gens.size ∧ E e q z) p s := by
  induction t with
  | pure a => exact fun Q E p s hn h => ⟨hn, h⟩
  | raise e => exact fun Q E p s hn h => ⟨hn, h⟩
  | unsupported _ => exact fun Q E p s _ h => h
  | finish _ => exact fun Q E p s _ h => h
  | rule _ k ih => exact fun Q E p s hn h => ih () Q E p s hn h
  | «at» p' k ih => exact fun Q E p s hn h => ih () Q E p' s hn h
  | load a _ k ih => exact fun Q E p s hn h => let ⟨o, ho, h⟩ := h; ⟨o, ho, ih o Q E p s hn h⟩
  | update a _ f k ih => exact fun Q E p s hn h => ⟨h.1, ih () Q E p _ hn h.2⟩
  | loadIfAlive a k ih => exact fun Q E p s hn h => ih _ Q E p s hn h
  | point _ k ih => exact fun Q E p s hn h => ih () Q E p s hn h
  | register _ _ => exact fun Q E p s _ h => h
  | alloc o k ih => exact fun Q E p s hn h => ih _ Q E p _ hn h
  | fresh k ih => exact fun Q E p s hn h => ih _ Q E p _ hn h
  | ask k ih => exact fun Q E p s hn h => ih _ Q E p s hn h
  | choose src m k ih => exact fun Q E p s hn h => ⟨h.1, ih _ Q E p _ hn h.2⟩
  | os q _ k ih => exact fun Q E p s hn h => ih _ Q E p _ hn h
  | call c hd _ _ k ih => exact fun Q E p s hn h => let ⟨r, z, hr, h⟩ := h; ⟨r, z, hr, ih r Q E p z (Nat.le_trans hn (runs_more hr)) h⟩
  | handled own k ih => exact fun Q E p s hn h => ih _ Q E p s hn h
  | genState g k ih => exact fun Q E p s hn h => let ⟨x, hs, h⟩ := h; ⟨x, hs, ih _ Q E p s hn h⟩
  | newGen c k ih => exact fun Q E p s hn h => ih _ Q E p _ (by show n ≤ (s.gens.push _).size; rw [Array.size_push]; omega) h
  | resume g r _ k ih => exact fun Q E p s hn h => let ⟨res, z, hw, h⟩ := h; ⟨res, z, hw, ih res Q E p z (Nat.le_trans hn (wakes_more hw)) h⟩
  | yield _ _ _ _ => exact fun Q E p s _ h => h
  | stack k ih => exact fun Q E p s hn h => ih _ Q E p s hn h
  | fork _ _ => exact fun Q E p s _ h => h
  | thread k ih => exact fun Q E p s hn h => ih _ Q E p s hn h
  | await _ _ _ _ _ => exact fun Q E p s _ h => h
theorem wpAny_more {α : Type} {M : Model} {A : Around} {s : Shared} {t : Sem α} {Q : α → Shared → Prop} {E : Value → Shared → Prop} {n : Nat} (hn : n ≤ s.gens.size) (h : wpAny M A t Q E s) :
    wpAny M A t (fun a z => n ≤ z.gens.size ∧ Q a z) (fun e z => n ≤ z.gens.size ∧ E e z) s := fun Γ p hΓ => wp_more M Γ n t _ _ p s hn (h Γ p hΓ)
abbrev gcx (X : Cx) (A : Around) (s : Shared) (H : Hp) (scope : Scope) (cenv : Env) (fp : List Addr) : Cx :=
  { X with A := A, s_0 := s, H_0 := H, env := cenv, outer := X.stack, stack := cenv :: X.stack, ex := fp, fn := fun x => scope.names.lookup x == some .cell, pn := [], xe := fun _ _ => False }
section
variable {X : Cx} {pins : List (Addr × Obj)} {σ : St} {H : Hp} {s : Shared}
theorem gen_start {scope : Scope} {own : List (Str × Nat)} {fp : List Addr} {A : Around} {code : Value} {h1 : Heap} {g1 : Array GenState} {tk : Nat} {m : Str → Option Value} (I : Inv X pins σ H s) (ok : BlkOk X.N X.env.scope scope own) (hN : X.N.Nodup) (hfp : ∀ b ∈ fp, FpOk X pins H b ∧ b < s.heap.objs.size)
    (nc : ∀ y ∈ scope.names, y.2 ≠ .cell) (cenv : Env) (hce : cenv = genEnv scope (cloFrom X.env.cells scope.names []) s.heap.objs.size code builtinsNs X.env)
    (hA : A.frames = some (cenv :: X.stack)) (hd : A.handled = none) (kp : ∀ b o, s.heap.get? b = some o → h1.get? b = some o) (ns : h1.Ns s.heap.objs.size m) (hb : AllBare g1) :
    Inv (gcx X A s H scope cenv fp) [] (wipe σ (own.map (·.2))) H { s with heap := h1, gens := g1, toks := tk } := by
  have hfree : ∀ y ∈ scope.names, y.2 = .free → ∃ c, X.env.cells.lookup y.1 = some c := fun y hy e => by
    rcases ok.free y hy e with k | k
    · exact I.ok.has _ (.inl k)
    · exact I.ok.has _ (.inr k)
  have hL : cenv.locals = s.heap.objs.size := by rw [hce]; rfl
  have hcl : cenv.cells = cloFrom X.env.cells scope.names [] := by rw [hce]; rfl
  have hsc : cenv.scope = scope := by rw [hce]; rfl
  have cm : ∀ {y c}, cenv.cells.lookup y = some c → X.env.cells.lookup y = some c ∧ c < s.heap.objs.size := fun {y c} e => by
    rw [hcl] at e
    rcases cloFrom_mem (PySem.mem_of_lookup e) with hm | ⟨h1, rfl⟩
    · cases hm
    · obtain ⟨c, hc⟩ := hfree _ h1 rfl
      rw [hc]
      obtain ⟨w, z⟩ := I.cell _ _ hc
      exact ⟨rfl, z.lt⟩
  have look : ∀ {y}, scope.names.lookup y = some .free → ∃ c, cenv.cells.lookup y = some c ∧ X.env.cells.lookup y = some c := fun {y} hl => by
    have hy : (y, NameKind.free) ∈ scope.names := PySem.mem_of_lookup hl
    obtain ⟨c', e'⟩ := mem_lookup (cloFrom_has (cells := X.env.cells) (acc := []) hy)
    rw [← hcl] at e'
    exact ⟨c', e', (cm e').1⟩
  have okB : (gcx X A s H scope cenv fp).Ok := by
    refine ⟨I.ok.mod, by show cenv.scope.kind = _; rw [hsc]; exact ok.kind, by show cenv.globals = _; rw [hce]; exact I.ok.glob, by show cenv.builtins = _; rw [hce]; rfl, by show s.heap.objs.size ≤ cenv.locals; rw [hL]; exact Nat.le_refl _,
      fun y z c e1 e2 => I.ok.inj y z c (cm e1).1 (cm e2).1, fun y hy => ?_, fun y c z e => ?_, fun _ => hd, hA, .inr ⟨rfl, by rw [hce]; rfl⟩, fun b hb => ⟨?_, fun y c e z => ?_⟩, I.bs, Nat.le_trans I.ok.bsz I.sz, fun b o e hb => ?_, fun b hb z => ?_, I.stack, I.stkFree⟩
    · show ∃ c, cenv.cells.lookup y = some c
      have hy' : scope.names.lookup y = some .cell ∨ scope.names.lookup y = some .free := by
        have q : cenv.kindOf y = some .cell ∨ cenv.kindOf y = some .free := hy
        unfold Env.kindOf at q
        rw [hsc] at q
        exact q
      rcases hy' with q | q
      · exact absurd rfl (nc _ (PySem.mem_of_lookup q))
      · obtain ⟨c, h1, _⟩ := look q
        exact ⟨c, h1⟩
    · have z : (scope.names.lookup y == some NameKind.cell) = true := z
      have z : scope.names.lookup y = some .cell := by simpa using z
      exact absurd rfl (nc _ (PySem.mem_of_lookup z))
    · show b ≠ cenv.locals
      rw [hL]; exact Nat.ne_of_lt (hfp b hb).2
    · exact (hfp b hb).1.2.2.2.2.1 y c (cm e).1 z
    · rcases (hfp b hb).1.2.2.2.1 with z | z
      · exact I.ok.noex b o e z
      · exact absurd (Nat.lt_of_lt_of_le (Heap.lt_size e) (Nat.le_trans I.ok.bsz z)) (Nat.lt_irrefl _)
    · rcases List.mem_cons.mp (I.stkSub b z) with z | z
      · exact (hfp b hb).1.2.1 z
      · exact (hfp b hb).1.2.2.1 z
  refine ⟨okB, rfl, hb, Un.kept kp, ⟨m, ?_, fun i y av e1 e2 e3 => ?_⟩, fun y c e => ?_, ?_, fun y c e => ?_, fun p hp => ?_, I.hok.kept kp, by rw [wipe_length]; exact I.len⟩
  · show Heap.Ns _ cenv.locals _
    rw [hL]
    exact ns
  · obtain ⟨e2, hne⟩ := wipe_some e2
    have hfr : scope.names.lookup y = some .free := by
      have no : ¬ (scope.names.lookup y = some .local ∨ scope.names.lookup y = some .cell) := fun hh => by
        have : y ∈ own.map (·.1) ∨ y ∉ X.N := by
          rcases hh with q | q
          · exact ok.own _ (PySem.mem_of_lookup q) (.inl rfl)
          · exact ok.own _ (PySem.mem_of_lookup q) (.inr rfl)
        rcases this with e' | e'
        · obtain ⟨p, hp, hpy⟩ := List.mem_map.mp e'
          have e3 := ok.ix p hp
          have : p.1 = y := hpy
          rw [this] at e3
          exact hne (List.mem_map.mpr ⟨p, hp, nodup_ix hN e3 e1⟩)
        · exact e' (List.mem_of_getElem? e1)
      have e3 : Vis cenv.scope y := e3
      rw [hsc] at e3
      rcases e3 with e3 | e3 | e3
      · exact absurd (.inl e3) no
      · exact absurd (.inr e3) no
      · exact e3
    obtain ⟨m', hn, hl⟩ := I.loc
    have hvis : Vis X.env.scope y := (ok.free _ (PySem.mem_of_lookup hfr) rfl).elim (fun k => .inr (.inl k)) (fun k => .inr (.inr k))
    obtain ⟨w, r, q⟩ := hl i y av e1 e2 hvis
    refine ⟨w, r, .inr ⟨.inr ?_, ?_⟩⟩
    · show cenv.kindOf y = _
      unfold Env.kindOf; rw [hsc]; exact hfr
    obtain ⟨c, h1, h2⟩ := look hfr
    rcases q with ⟨k, _⟩ | ⟨_, c', e', z⟩
    · have k : X.env.scope.names.lookup y = some .local := k
      rcases ok.free _ (PySem.mem_of_lookup hfr) rfl with k' | k' <;> rw [show X.env.scope.names.lookup y = _ from k'] at k <;> cases k
    · rw [h2] at e'; cases e'
      exact ⟨c, h1, z.keeps kp⟩
  · obtain ⟨w, z⟩ := I.cell y c (cm e).1
    exact ⟨w, z.keeps kp⟩
  · show H cenv.locals = none
    rw [hL]; exact I.hok.fresh (Nat.le_refl _)
  · exact I.freeC y c (cm e).1
  · exact absurd (show p ∈ ([] : List (Addr × Obj)) ++ [] from hp) (by simp)
end
end Gx
namespace Gx
open PySem PySem.Spec L2
open PyProof.Rows (AllBare)
def GSt (XG : Cx) (PP : List V → List (Addr × Obj) → Prop) (σw : St) (fp : List Addr) (tn : Nat → Heap → Prop) (g : Nat) (i : Nat) (acc : List V) (H : Hp) (s : Shared) : Prop :=
  ∃ pins, PP acc pins ∧ Inv XG pins σw H s ∧ tn i s.heap ∧ (∀ b ∈ fp, FpOk XG pins H b) ∧ g < s.gens.size
def gCode (elt tg iter : Expr) (scope : Scope) (gp : Pos) (it : Addr) (cenv : Env) : Code := .compLoop (.GeneratorExp elt [⟨tg, iter, [], 0⟩] scope gp) 0 (.ref it) .none cenv
def gCode0 (elt tg iter : Expr) (scope : Scope) (gp : Pos) (it : Addr) (cenv : Env) : Code := .compStart (.GeneratorExp elt [⟨tg, iter, [], 0⟩] scope gp) 0 (.ref it) .none cenv
structure Plan (XG : Cx) (PP : List V → List (Addr × Obj) → Prop) (σw : St) (vs : List Nat) (fp : List Addr) (it : Addr) (tn : Nat → Heap → Prop) (J : It) (tg elt : Expr) (gt : TG) (te : TE) (W : Nat → Nat → List V → Hp → Prop) (Z : List V → Hp → Prop) (Bt : Nat → Nat → List V → V → Hp → Prop) : Prop where
  calm : XG.calm = true
  xe : XG.xe = fun _ _ => False
  turn : Turn XG.prog XG.w XG.K tg J fp it tn
  pg : PG XG tg gt
  pe : PE XG elt te
  step : ∀ i m acc H, W i m acc H → (J.stop i H ∧ Z acc H) ∨ (J.go i H ∧ ∀ x H', J.yld i H x H' → gt x σw H' fun σ2 H2 => wipe σ2 vs = σw ∧ te σ2 H2 fun y H4 => Bt i m acc y H4)
def gR (XG : Cx) (PP : List V → List (Addr × Obj) → Prop) (σw : St) (fp : List Addr) (tn : Nat → Heap → Prop) (g : Nat) (Z : List V → Hp → Prop) : Nat → Shared → Shared → Prop :=
  fun _ _ s1 => ∃ acc H pins, PP acc pins ∧ Inv XG pins σw H s1 ∧ g < s1.gens.size ∧ Z acc H
def gY (XG : Cx) (PP : List V → List (Addr × Obj) → Prop) (σw : St) (fp : List Addr) (tn : Nat → Heap → Prop) (g : Nat) (W : Nat → Nat → List V → Hp → Prop) (Bt : Nat → Nat → List V → V → Hp → Prop) : Protocol :=
  fun _ _ v s1 kap => ∃ i m acc H y, GSt XG PP σw fp tn g (i + 1) acc H s1 ∧ RelV y v ∧ Bt i m acc y H ∧ ∀ s2 m' acc' H', m' < m → GSt XG PP σw fp tn g (i + 1) acc' H' s2 → W (i + 1) m' acc' H' → kap (.send .none) s2
section
variable {XG : Cx} {PP : List V → List (Addr × Obj) → Prop} {σw : St} {vs : List Nat} {fp : List Addr} {it : Addr} {tn : Nat → Heap → Prop} {J : It} {tg elt iter : Expr} {gt : TG} {te : TE} {W : Nat → Nat → List V → Hp → Prop} {Z : List V → Hp → Prop} {Bt : Nat → Nat → List V → V → Hp → Prop}
  {scope : Scope} {gp : Pos} {g : Nat} {A1 : Around}
theorem gen_turns (hw : wipe σw vs = σw) (L : Plan XG PP σw vs fp it tn J tg elt gt te W Z Bt) (hA : XG.A = A1.over (gCode elt tg iter scope gp it XG.env) []) (hco : XG.env.scope.isCoroutine = false) :
    ∀ (n i m : Nat) (acc : List V) (H : Hp) (s0 s : Shared), m < n → GSt XG PP σw fp tn g i acc H s → W i m acc H →
      Seg (model XG.prog XG.w) A1 (fun n s0 r s1 => r = .ok .next ∧ gR XG PP σw fp tn g Z n s0 s1) (gY XG PP σw fp tn g W Bt) n s0 (gCode elt tg iter scope gp it XG.env) ((model XG.prog XG.w).den (gCode elt tg iter scope gp it XG.env)) [] s := by
  intro n
  induction n with
  | zero => intro i m acc H s0 s h; omega
  | succ n ih =>
    intro i m acc H s0 s hm st w
    obtain ⟨pins, hp, I, ht, hf, hgs⟩ := st
    show Seg _ A1 _ _ _ s0 _ ((compTurn (.GeneratorExp elt [⟨tg, iter, [], 0⟩] scope gp) 0 (.ref it) .none XG.env).onRaise (leaving XG.env)) [] s
    rw [compTurn_gen, Sem.onRaise_eq_wrap]
    refine seg_bind_wrap (wpAny_standAt ?_)
    rcases L.step i m acc H w with ⟨stop, zz⟩ | ⟨go, yl⟩
    · have td := L.turn.done XG rfl rfl rfl L.calm i pins s _ H (fun _ _ => False) I hf ht stop
      rw [hA] at td
      refine seg_bind_wrap (wpAny_mono (wpAny_more hgs td) (fun r s1 q => ?_) fun _ _ z => False.elim z.2)
      obtain ⟨hg1, hr, I1⟩ := q
      subst hr
      exact seg_end (.ok .next) ⟨rfl, acc, H, pins, hp, I1, hg1, zz⟩
    · have ti := L.turn.item XG rfl rfl rfl L.calm i pins s _ H (fun _ _ => False) I hf ht go
      rw [hA] at ti
      refine seg_bind_wrap (wpAny_mono (wpAny_more hgs ti) (fun r s1 q => ?_) fun _ _ z => False.elim z.2)
      obtain ⟨hg1, u, hr, h6⟩ := q
      subst hr
      refine seg_bind_wrap (wpAny_mono (wpAny_more hg1 h6) (fun _ s2 q => ?_) fun _ _ z => False.elim z.2)
      obtain ⟨hg2, x, H2, I2, rx, yx, t2, n2⟩ := q
      have f2 : ∀ b ∈ fp, FpOk XG pins H2 b := fun b hb => ⟨n2 b hb, (hf b hb).2⟩
      have I2' := I2.pinned f2 (L.turn.obj _ _ t2)
      have p3 := L.pg _ s2 σw H2 x u _ I2' rx (yl x H2 yx)
      rw [hA, L.xe] at p3
      refine seg_bind_wrap (wpAny_mono (wpAny_more hg2 p3) (fun _ s3 q => ?_) fun _ _ z => False.elim z.2)
      obtain ⟨hg3, σ3, H3, I3, hw3, q3⟩ := q
      refine seg_bind_wrap (wpAny_tests_nil ?_)
      simp only [if_true]
      have hy : ∀ v, yieldOut XG.env v = yieldValue v := fun v => by simp only [yieldOut, hco, Bool.false_eq_true, if_false]
      simp only [hy]
      rw [Sem.bind_eq_wrap', Sem.bind_eq_wrap', Sem.wrap_wrap, Sem.wrap_wrap]
      have p4 := L.pe _ s3 σ3 H3 _ I3 q3
      rw [hA, L.xe] at p4
      refine seg_wrap (wpAny_mono (wpAny_more hg3 p4) (fun v s4 q => ?_) fun _ _ z => False.elim z.2)
      obtain ⟨hg4, y, H4, I4, ry, b4⟩ := q
      have pin4 : ∀ b ∈ fp, ∀ o, s2.heap.get? b = some o → s4.heap.get? b = some o ∧ H4 b = none := fun b hb o e =>
        let z := I4.pin (b, o) (List.mem_append_right _ (List.mem_append_right _ (mem_pinsAt hb e)))
        ⟨z.1, z.2.1⟩
      have hl : σw.length = σ3.length := by rw [← hw3, wipe_length]
      have I5 : Inv XG pins σw H4 s4 := (I4.unpinned).weak hl fun j z e => by
        rw [← hw3] at e
        exact (wipe_some e).1
      have t5 : tn (i + 1) s4.heap := L.turn.keep _ _ _ t2 fun b hb o e => (pin4 b hb o e).1
      have f5 : ∀ b ∈ fp, FpOk XG pins H4 b := fun b hb => by
        obtain ⟨o, e, _⟩ := L.turn.obj _ _ t2 b hb
        exact ⟨(pin4 b hb o e).2, (hf b hb).2⟩
      refine seg_at (seg_yield rfl rfl rfl ⟨i, m, acc, H4, y, ⟨pins, hp, I5, t5, f5, hg4⟩, ry, b4, fun s5 m' acc' H' hm' g5 w5 => ?_⟩)
      exact seg_again rfl (ih (i + 1) m' acc' H' s5 s5 (by omega) g5 w5)
theorem gen_begin (hw : wipe σw vs = σw) (L : Plan XG PP σw vs fp it tn J tg elt gt te W Z Bt) (hA : XG.A = A1.over (gCode elt tg iter scope gp it XG.env) []) (hco : XG.env.scope.isCoroutine = false)
    (n i m : Nat) (acc : List V) (H : Hp) (s0 s : Shared) (hm : m < n) (st : GSt XG PP σw fp tn g i acc H s) (w : W i m acc H) :
      Seg (model XG.prog XG.w) A1 (fun n s0 r s1 => r = .ok .next ∧ gR XG PP σw fp tn g Z n s0 s1) (gY XG PP σw fp tn g W Bt) n s0 (gCode0 elt tg iter scope gp it XG.env) ((model XG.prog XG.w).den (gCode0 elt tg iter scope gp it XG.env)) [] s := by
  have loop := gen_turns (iter := iter) (scope := scope) (gp := gp) (g := g) hw L hA hco n i m acc H s0 s hm st w
  obtain ⟨pins, hp, I, ht, hf, hgs⟩ := st
  show Seg _ A1 _ _ _ s0 _ ((compStart (.GeneratorExp elt [⟨tg, iter, [], 0⟩] scope gp) 0 (.ref it) .none XG.env).onRaise (leaving XG.env)) [] s
  unfold compStart
  rw [Sem.onRaise_eq_wrap]
  show Seg _ A1 _ _ _ s0 _ ((ask >>= _).wrap _ _ _ _) [] s
  refine seg_bind_wrap (wpAny_askSetting ?_)
  split
  · exact seg_again rfl loop
  · first
      | exact seg_bind_wrap (wpAny_rule (seg_bind_wrap (wpAny_standAt (seg_bind_wrap (L.turn.self _ i s _ _ ht (seg_again rfl loop))))))
      | (refine seg_bind_wrap (wpAny_rule ?_); show Seg _ A1 _ _ _ s0 _ ((standAt iter.pos >>= _).wrap _ _ _ _) [] s; exact seg_bind_wrap (wpAny_standAt (seg_bind_wrap (L.turn.self _ i s _ _ ht (seg_again rfl loop)))))
def GGo (XG : Cx) (PP : List V → List (Addr × Obj) → Prop) (σw : St) (fp : List Addr) (tn : Nat → Heap → Prop) (g : Nat) (Z : List V → Hp → Prop) (W : Nat → Nat → List V → Hp → Prop) (Bt : Nat → Nat → List V → V → Hp → Prop) (A1 : Around) (n i m : Nat) (acc : List V) (H : Hp) (gs : GenState) : Prop :=
  ∀ s, GSt XG PP σw fp tn g i acc H s → W i m acc H → gs.Goes (model XG.prog XG.w) A1 (fun n s0 r s1 => r = .ok .next ∧ gR XG PP σw fp tn g Z n s0 s1) (gY XG PP σw fp tn g W Bt) n (.send .none) s
theorem inv_gens {pins : List (Addr × Obj)} {σ : St} {H : Hp} {s : Shared} {gs : Array GenState} (I : Inv XG pins σ H s) (h : AllBare gs) : Inv XG pins σ H { s with gens := gs } :=
  ⟨I.ok, I.os, h, I.base, I.loc, I.cell, I.free, I.freeC, I.pin, I.hok, I.len⟩
theorem bare_set {s : Shared} {x : GenState} (h : AllBare s.gens) (hx : x.bare = true) : AllBare (s.setGen g x).gens := fun y hy => by
  obtain ⟨i, hi, rfl⟩ := Array.mem_iff_getElem.mp hy
  by_cases e : i = g
  · subst e
    simp [Shared.setGen, hx]
  · have e1 : (s.gens.setIfInBounds g x)[i]? = s.gens[i]? := Array.getElem?_setIfInBounds_ne (Ne.symm e)
    have e2 : (s.setGen g x).gens[i]? = some (s.setGen g x).gens[i] := Array.getElem?_eq_getElem hi
    have e3 : s.gens[i]? = some (s.setGen g x).gens[i] := e1.symm.trans e2
    obtain ⟨_, e4⟩ := Array.getElem?_eq_some_iff.mp e3
    rw [← e4]
    exact h _ (Array.getElem_mem _)
theorem GSt.set {i : Nat} {acc : List V} {H : Hp} {s : Shared} {x : GenState} (h : GSt XG PP σw fp tn g i acc H s) (hx : x.bare = true) : GSt XG PP σw fp tn g i acc H (s.setGen g x) := by
  obtain ⟨pins, hp, I, ht, hf, hg⟩ := h
  exact ⟨pins, hp, inv_gens I (bare_set I.bare hx), ht, hf, by simpa [Shared.setGen] using hg⟩
theorem gen_next {A : Around} {a : Addr} {n i m : Nat} {acc : List V} {H : Hp} {s : Shared} {gs : GenState} {Q : Option Value → Shared → Prop} {E : Value → Shared → Prop} (hh : A.handled = none) (hroom : A.depth < recursionLimit)
    (hpa : ∀ acc pins, PP acc pins → ∃ go nm qn, (a, go) ∈ pins ∧ go.cls = .type "generator" ∧ go.data = .fields #[.int g 0, nm, qn] ∧ go.slots = #[])
    (st : GSt XG PP σw fp tn g i acc H s) (w : W i m acc H) (hgs : s.gens[g]? = some gs) (go : GGo XG PP σw fp tn g Z W Bt A.in1 n i m acc H gs)
    (hY : ∀ v y i' m' acc' H' s' gs', GSt XG PP σw fp tn g (i' + 1) acc' H' s' → RelV y v → Bt i' m' acc' y H' → s'.gens[g]? = some gs' → (∀ m2 acc2 H2, m2 < m' → GGo XG PP σw fp tn g Z W Bt A.in1 (n - 1) (i' + 1) m2 acc2 H2 gs') → (∀ s2 m2 acc2 H2, m2 < m' → GSt XG PP σw fp tn g (i' + 1) acc2 H2 s2 → W (i' + 1) m2 acc2 H2 → 0 < n) → Q (some v) s')
    (hE : ∀ acc' H' pins s', PP acc' pins → Inv XG pins σw H' s' → Z acc' H' → Q none s') :
    wpAny (model XG.prog XG.w) A (pyNext (.ref a)) Q E s := by
  obtain ⟨pins, hp, I, ht, hf, hg⟩ := id st
  have isg : s.heap.IsGen a g := by
    obtain ⟨o, nm, qn, hm, e1, e2, e3⟩ := hpa _ _ hp
    exact ⟨o, nm, qn, (I.pin _ (List.mem_append_right _ hm)).1, e1, e2, e3⟩
  have sg : ∀ (z : Shared) (x : GenState), g < z.gens.size → (z.setGen g x).gens[g]? = some x := fun z x hz => by simp [Shared.setGen, hz]
  refine wpAny_pyNext_genexpQ (P := gR XG PP σw fp tn g Z) (n := n) hh I.nolimit hroom isg hgs (go _ (st.set (x := .running) rfl) w) (fun v s1 gs1 hb hv => ?_) (fun s1 hp1 h' hk => ?_)
  · obtain ⟨i', m', acc', H', y, st', ry, bt, hk⟩ := hv
    refine hY v y i' m' acc' H' (s1.setGen g gs1) gs1 (st'.set hb) ry bt (sg _ _ (let ⟨_, _, _, _, _, z⟩ := st'; z)) (fun m2 acc2 H2 hm2 s2 st2 w2 => ?_) fun s2 m2 acc2 H2 hm2 st2 w2 => ?_
    · have := hk s2 m2 acc2 H2 hm2 st2 w2
      cases n with
      | zero => exact this.elim
      | succ n => exact this
    · have := hk s2 m2 acc2 H2 hm2 st2 w2
      cases n with
      | zero => exact this.elim
      | succ n => exact Nat.succ_pos _
  · obtain ⟨acc', H', pins', hp', I', hg', zz'⟩ := hp1
    refine hE acc' H' pins' _ hp' ?_ zz'
    have I2 := inv_gens (gs := (s1.setGen g .finished).gens) I' (bare_set I'.bare rfl)
    exact I2.kept (t' := s1.toks) hk
end
end Gx
namespace Gx
open PySem PySem.Spec L2
open PyProof.Rows (AllBare)
section
variable {XG : Cx} {PP : List V → List (Addr × Obj) → Prop} {σw : St} {fp : List Addr} {tn : Nat → Heap → Prop} {J : It} {Z : List V → Hp → Prop} {W : Nat → Nat → List V → Hp → Prop} {Bt : Nat → Nat → List V → V → Hp → Prop} {g : Nat} {a : Addr}
theorem gen_all_loop {A : Around} {R : Result → Shared → Prop} {Qn : Hp → Prop} (hh : A.handled = none) (hroom : A.depth < recursionLimit)
    (hpa : ∀ acc pins, PP acc pins → ∃ go nm qn, (a, go) ∈ pins ∧ go.cls = .type "generator" ∧ go.data = .fields #[.int g 0, nm, qn] ∧ go.slots = #[])
    (hB : ∀ i m acc y H, Bt i m acc y H → ∃ k, y = .bl k ∧ if k = true then ∃ m', m' < m ∧ W (i + 1) m' acc H else Qn H)
    (hT : ∀ acc H pins s', PP acc pins → Inv XG pins σw H s' → Z acc H → R (.ok (.ret (.bool true))) s')
    (hF : ∀ acc H pins s', PP acc pins → Inv XG pins σw H s' → Qn H → R (.ok (.ret (.bool false))) s') :
    ∀ (n i m : Nat) (acc : List V) (H : Hp) (s : Shared) (gs : GenState), GSt XG PP σw fp tn g i acc H s → W i m acc H → s.gens[g]? = some gs → GGo XG PP σw fp tn g Z W Bt A.in1.in1 n i m acc H gs →
      codeAny (model XG.prog XG.w) A (.builtin "all.loop" ⟨[.ref a], []⟩) R s := by
  intro n
  induction n with
  | zero =>
    intro i m acc H s gs st w hgs go
    refine codeAny_builtin F.entry_all_loop ?_
    rw [Around.under_plainId F.plain_all_loop _]
    show wpAny _ A.in1 (pyNext (.ref a) >>= _) _ _ s
    refine wpAny_bind (gen_next (A := A.in1) hh hroom hpa st w hgs go (fun v y i' m' acc' H' s' gs' st' ry bt hgs' go' pos => ?_) (fun acc' H' pins' s' hp' I' zz' => ?_))
    · obtain ⟨k, rfl, hk⟩ := hB _ _ _ _ _ bt
      obtain rfl : v = .bool k := ry
      refine wpAny_bind (wpAny_holding (wpAny_truthy_bool ?_))
      refine wpAny_bind (wpAny_letGo ?_)
      cases k with
      | true =>
        simp only [if_true] at hk ⊢
        obtain ⟨m2, hm2, w2⟩ := hk
        exact absurd (pos s' m2 acc' H' hm2 st' w2) (Nat.lt_irrefl _)
      | false =>
        simp only [Bool.false_eq_true, if_false] at hk ⊢
        refine wpAny_bind (wpAny_rule (wpAny_pure ?_))
        obtain ⟨pins', hp', I', _⟩ := st'
        exact hF acc' H' pins' s' hp' I' hk
    · exact wpAny_bind (wpAny_rule (wpAny_pure (hT acc' H' pins' s' hp' I' zz')))
  | succ n ih =>
    intro i m acc H s gs st w hgs go
    refine codeAny_builtin F.entry_all_loop ?_
    rw [Around.under_plainId F.plain_all_loop _]
    show wpAny _ A.in1 (pyNext (.ref a) >>= _) _ _ s
    refine wpAny_bind (gen_next (A := A.in1) hh hroom hpa st w hgs go (fun v y i' m' acc' H' s' gs' st' ry bt hgs' go' pos => ?_) (fun acc' H' pins' s' hp' I' zz' => ?_))
    · obtain ⟨k, rfl, hk⟩ := hB _ _ _ _ _ bt
      obtain rfl : v = .bool k := ry
      refine wpAny_bind (wpAny_holding (wpAny_truthy_bool ?_))
      refine wpAny_bind (wpAny_letGo ?_)
      cases k with
      | true =>
        simp only [if_true] at hk ⊢
        obtain ⟨m2, hm2, w2⟩ := hk
        exact wpAny_pure ⟨plainId_quiet F.plain_all_loop _, ih (i' + 1) m2 acc' H' s' gs' st' w2 hgs' (go' m2 acc' H' hm2)⟩
      | false =>
        simp only [Bool.false_eq_true, if_false] at hk ⊢
        refine wpAny_bind (wpAny_rule (wpAny_pure ?_))
        obtain ⟨pins', hp', I', _⟩ := st'
        exact hF acc' H' pins' s' hp' I' hk
    · exact wpAny_bind (wpAny_rule (wpAny_pure (hT acc' H' pins' s' hp' I' zz')))
theorem gen_any_loop {A : Around} {R : Result → Shared → Prop} {Qn : Hp → Prop} (hh : A.handled = none) (hroom : A.depth < recursionLimit)
    (hpa : ∀ acc pins, PP acc pins → ∃ go nm qn, (a, go) ∈ pins ∧ go.cls = .type "generator" ∧ go.data = .fields #[.int g 0, nm, qn] ∧ go.slots = #[])
    (hB : ∀ i m acc y H, Bt i m acc y H → ∃ k, y = .bl k ∧ if k = true then Qn H else ∃ m', m' < m ∧ W (i + 1) m' acc H)
    (hT : ∀ acc H pins s', PP acc pins → Inv XG pins σw H s' → Z acc H → R (.ok (.ret (.bool false))) s')
    (hF : ∀ acc H pins s', PP acc pins → Inv XG pins σw H s' → Qn H → R (.ok (.ret (.bool true))) s') :
    ∀ (n i m : Nat) (acc : List V) (H : Hp) (s : Shared) (gs : GenState), GSt XG PP σw fp tn g i acc H s → W i m acc H → s.gens[g]? = some gs → GGo XG PP σw fp tn g Z W Bt A.in1.in1 n i m acc H gs →
      codeAny (model XG.prog XG.w) A (.builtin "any.loop" ⟨[.ref a], []⟩) R s := by
  intro n
  induction n with
  | zero =>
    intro i m acc H s gs st w hgs go
    refine codeAny_builtin F.entry_any_loop ?_
    rw [Around.under_plainId F.plain_any_loop _]
    show wpAny _ A.in1 (pyNext (.ref a) >>= _) _ _ s
    refine wpAny_bind (gen_next (A := A.in1) hh hroom hpa st w hgs go (fun v y i' m' acc' H' s' gs' st' ry bt hgs' go' pos => ?_) (fun acc' H' pins' s' hp' I' zz' => ?_))
    · obtain ⟨k, rfl, hk⟩ := hB _ _ _ _ _ bt
      obtain rfl : v = .bool k := ry
      refine wpAny_bind (wpAny_holding (wpAny_truthy_bool ?_))
      refine wpAny_bind (wpAny_letGo ?_)
      cases k with
      | false =>
        simp only [Bool.false_eq_true, if_false] at hk ⊢
        obtain ⟨m2, hm2, w2⟩ := hk
        exact absurd (pos s' m2 acc' H' hm2 st' w2) (Nat.lt_irrefl _)
      | true =>
        simp only [if_true] at hk ⊢
        refine wpAny_bind (wpAny_rule (wpAny_pure ?_))
        obtain ⟨pins', hp', I', _⟩ := st'
        exact hF acc' H' pins' s' hp' I' hk
    · exact wpAny_bind (wpAny_rule (wpAny_pure (hT acc' H' pins' s' hp' I' zz')))
  | succ n ih =>
    intro i m acc H s gs st w hgs go
    refine codeAny_builtin F.entry_any_loop ?_
    rw [Around.under_plainId F.plain_any_loop _]
    show wpAny _ A.in1 (pyNext (.ref a) >>= _) _ _ s
    refine wpAny_bind (gen_next (A := A.in1) hh hroom hpa st w hgs go (fun v y i' m' acc' H' s' gs' st' ry bt hgs' go' pos => ?_) (fun acc' H' pins' s' hp' I' zz' => ?_))
    · obtain ⟨k, rfl, hk⟩ := hB _ _ _ _ _ bt
      obtain rfl : v = .bool k := ry
      refine wpAny_bind (wpAny_holding (wpAny_truthy_bool ?_))
      refine wpAny_bind (wpAny_letGo ?_)
      cases k with
      | false =>
        simp only [Bool.false_eq_true, if_false] at hk ⊢
        obtain ⟨m2, hm2, w2⟩ := hk
        exact wpAny_pure ⟨plainId_quiet F.plain_any_loop _, ih (i' + 1) m2 acc' H' s' gs' st' w2 hgs' (go' m2 acc' H' hm2)⟩
      | true =>
        simp only [if_true] at hk ⊢
        refine wpAny_bind (wpAny_rule (wpAny_pure ?_))
        obtain ⟨pins', hp', I', _⟩ := st'
        exact hF acc' H' pins' s' hp' I' hk
    · exact wpAny_bind (wpAny_rule (wpAny_pure (hT acc' H' pins' s' hp' I' zz')))
end
end Gx
namespace Gx
open PySem PySem.Spec L2
open PyProof.Rows (AllBare)
def lo (its : List Value) (c : Nat) : Obj := { cls := .type "list", dict := none, data := .seq its.toArray c, slots := #[] }
def PT2 (a S : Addr) (go : Obj) : List V → List (Addr × Obj) → Prop := fun acc pins => ∃ its c, Vals acc its ∧ pins = [(a, go), (S, lo its c)]
structure Own (XG : Cx) (fp : List Addr) (a S : Addr) : Prop where
  nl : S ≠ XG.env.locals
  nf : S ∉ XG.fs
  ab : XG.s_0.heap.objs.size ≤ S
  nc : ∀ x c, XG.env.cells.lookup x = some c → c ≠ S
  np : S ∉ fp
  na : S ≠ a
  pn : XG.pn = []
section
variable {XG : Cx} {σw : St} {fp : List Addr} {tn : Nat → Heap → Prop} {J : It} {Z : List V → Hp → Prop} {W : Nat → Nat → List V → Hp → Prop} {Bt : Nat → Nat → List V → V → Hp → Prop} {g : Nat} {a S : Addr} {go : Obj}
end
end Gx
namespace Gx
open PySem PySem.Spec L2
open PyProof.Rows (AllBare)
structure MayGen (X : Cx) (P : Addr) : Prop where
  code : ∃ c, X.env.code = .ref c ∧ CodeAt X.K c P
  bm : ∃ (bm : Addr) (ob : Obj), X.mg "__builtins__" = some (.ref bm) ∧ bm ≠ builtinsNs ∧ X.base.get? bm = some ob ∧ ob.cls = .type "module" ∧ ob.dict = some builtinsNs ∧ ob.data = .plain
section
variable {X : Cx} {pins : List (Addr × Obj)} {σ : St} {H : Hp} {s : Shared} {P : Addr} {ps : Array Value}
theorem upd_id {o : HO} (h : H P = some o) : upd H P o = H := by
  funext b
  by_cases e : b = P
  · rw [e, upd_same, h]
  · rw [upd_ne e]
theorem inv_table {h1 : Heap} {tk : Nat} {more : Array Value} (I : Inv X pins σ H s) (hP : H P = some (.tbl ps)) (k : ∀ b o, b ≠ P → s.heap.get? b = some o → h1.get? b = some o) (hn : h1.get? P = some { cls := .none, data := .fields (ps ++ more) }) :
    Inv X pins σ (upd H P (.tbl (ps ++ more))) { s with heap := h1, toks := tk } := by
  have ne : ∀ b, H b = none → b ≠ P := fun b n z => by rw [z, hP] at n; cases n
  have ne2 : ∀ b o, H b = some o → (∀ q, o ≠ .tbl q) → b ≠ P := fun b o n hq z => by rw [z, hP] at n; cases n; exact hq _ rfl
  refine I.step (g' := s.gens) (d' := s.drawn) (ch := []) (fun _ z => nomatch z) (fun b o _ _ _ e n => k b o (ne b n) e) (fun b o _ _ _ e n => ⟨o.slots, k b o (ne b n) e⟩) (fun b o _ e n => by rw [upd_ne (ne b n)]; exact n)
    (fun b o _ e => ?_) (fun b xs e => by rw [upd_ne (ne2 b _ e fun q z => nomatch z)]; exact e) (fun b o u e => by rw [upd_ne (ne2 b _ e fun q z => nomatch z)]; exact e) (fun b qs e => ?_) (fun m hm => ?_) (fun b u e => ?_) I.bare
  · by_cases hb : b = P
    · exact ⟨_, by rw [hb]; exact hn⟩
    · exact ⟨o, k b o hb e⟩
  · by_cases hb : b = P
    · rw [hb, hP] at e; cases e
      exact ⟨more, by rw [hb, upd_same]⟩
    · exact ⟨#[], by rw [upd_ne hb, e]; simp⟩
  · obtain ⟨o, es, ep, ho, r⟩ := hm
    exact ⟨o, es, ep, k _ o (ne _ I.free) ho, r⟩
  · by_cases hb : b = P
    · rw [hb, upd_same] at e; cases e
      rw [hb]; exact hn
    · rw [upd_ne hb] at e
      refine (I.hok b u e).stay (fun c v hc q => k c v ?_ q) (fun c q => by rw [upd_ne (ne2 c _ q fun q z => nomatch z)]; exact q) fun c xs q => by rw [upd_ne (ne2 c _ q fun q z => nomatch z)]; exact q
      rcases hc with z | z
      · rw [z]; exact hb
      · exact ne2 c _ z fun q z => nomatch z
theorem gen_make {elt tg iter : Expr} {scope : Scope} {own : List (Str × Nat)} {gp : Pos} {wi : TI} {N : It → Hp → Prop} {Q : Value → Shared → Prop} (I : Inv X pins σ H s) (hi : PI X tg iter wi) (ok : BlkOk X.N X.env.scope scope own) (nc : ∀ y ∈ scope.names, y.2 ≠ .cell)
    (h0 : scope.names.lookup (".0" : Str) = some NameKind.local) (hco : scope.isCoroutine = false) (ge : MayGen X P) (hroom : X.A.depth < recursionLimit) (hs : ∀ x, genFold iter X.env x = pure x)
    (h : wi σ H fun J H1 => ∃ ps, H1 P = some (.tbl ps) ∧ TriplesOk ps.toList ∧ ∀ more, TriplesOk (ps ++ more).toList → N J (upd H1 P (.tbl (ps ++ more))))
    (k : ∀ (it a : Addr) (fp : List Addr) (tn : Nat → Heap → Prop) (J : It) (H3 : Hp) (s3 : Shared) (h1 : Heap) (code nm qn : Value) (cenv : Env) (tk : Nat) (m : Str → Option Value), Inv X pins σ H3 s3 → Turn X.prog X.w X.K tg J fp it tn → N J H3 → tn 0 h1 →
      (∀ b ∈ fp, FpOk X pins H3 b ∧ b < s3.heap.objs.size) → cenv = genEnv scope (cloFrom X.env.cells scope.names []) s3.heap.objs.size code builtinsNs X.env → (∀ b o, s3.heap.get? b = some o → h1.get? b = some o) → h1.Ns s3.heap.objs.size m →
      s3.heap.objs.size < a → h1.get? a = some { cls := .type "generator", data := .fields #[.int s3.gens.size 0, nm, qn] } → h1.objs.size = a + 1 →
      Q (.ref a) { s3 with heap := h1, gens := s3.gens.push (.fresh (gCode0 elt tg iter scope gp it cenv)), toks := tk }) :
    wpAny (model X.prog X.w) X.A (eval (.GeneratorExp elt [⟨tg, iter, [], 0⟩] scope gp) X.env) Q X.xe s := by
  have hfree : ∀ y ∈ scope.names, y.2 = .free → ∃ c, X.env.cells.lookup y.1 = some c := fun y hy e => by
    rcases ok.free y hy e with k | k
    · exact I.ok.has _ (.inl k)
    · exact I.ok.has _ (.inr k)
  obtain ⟨c, hc, ⟨o, vs, file, tf, flags, tg', inF, text, tt, lk, cls, dt, v11, g11, g18, g7, g9, g10⟩, ncP⟩ := ge.code
  obtain ⟨bm, ob, b1, b2, b3, b4, b5, b6⟩ := ge.bm
  have fin : ∀ (it : Addr) (fp : List Addr) (tn : Nat → Heap → Prop) (J : It) (H3 : Hp) (s3 : Shared) (code : Value), Inv X pins σ H3 s3 → Turn X.prog X.w X.K tg J fp it tn → N J H3 → tn 0 s3.heap → (∀ b ∈ fp, FpOk X pins H3 b) →
      wpAny (model X.prog X.w) X.A (builtinsFor X.env.globals X.env.builtins) (fun bi s₄ =>
        ∀ h', h'.Ns s₄.heap.objs.size (fun y => if y = ".0" then some (.ref it) else none) → Heap.SameBut s₄.heap.objs.size (s₄.heap.push { cls := .type "frame", data := .dict #[] }) h' →
          Q (.ref h'.objs.size) { s₄ with
            gens := s₄.gens.push (.fresh (.compStart (.GeneratorExp elt [⟨tg, iter, [], 0⟩] scope gp) 0 (.ref it) .none (genEnv scope (cloFrom X.env.cells scope.names []) s₄.heap.objs.size code bi X.env))),
            toks := s₄.toks + 1 + 1 + 1,
            heap := h'.push { cls := .type "generator", data := .fields #[.int s₄.gens.size 0, .str "<genexpr>" (s₄.toks + 1), .str (X.env.qual ++ "<genexpr>") (s₄.toks + 1 + 1)] } }) X.xe s3 := by
    intro it fp tn J H3 s3 code I3 T n3 t3 f3
    have gns : s3.heap.Ns X.env.globals X.mg := by rw [I3.ok.glob]; exact I3.mod.glob.keeps I3.bk
    refine wpAny_builtinsFor gns b1 b2 (I3.bk _ _ b3) b4 b5 b6 ?_
    intro h' hn' hs'
    have sz : h'.objs.size = s3.heap.objs.size + 1 := by rw [hs'.1, Heap.size_push]
    have kp' : ∀ b o, s3.heap.get? b = some o → h'.get? b = some o := fun b o e => hs'.extBut b o (Nat.ne_of_lt (Heap.lt_size e)) (Heap.get?_push_of_some _ e)
    have lt : ∀ b ∈ fp, b < s3.heap.objs.size := fun b hb => by
      obtain ⟨o, e, _⟩ := T.obj _ _ t3 b hb
      exact Heap.lt_size e
    refine k it h'.objs.size fp tn J H3 s3 _ code _ _ _ _ _ I3 T n3 (T.keep _ _ _ t3 fun b _ o e => Heap.get?_push_of_some _ (kp' b o e)) (fun b hb => ⟨f3 b hb, lt b hb⟩) rfl (fun b o e => Heap.get?_push_of_some _ (kp' b o e)) (hn'.push _) (by omega) (Heap.get?_push_size _ rfl) (by rw [Heap.size_push])
  refine wpAny_GeneratorExp_make hco (closure_ok hfree) nc h0 ok.kind hroom (wpAny_mono (hi pins s σ H _ I h) (fun xv s1 hx => wpAny_mono hx (fun itv s2 h2 => ?_) fun _ _ e => e) fun _ _ e => e) hs
  obtain ⟨it, fp, tn, J, H2, e, I2, T, t2, f2, ps, hP, tr, hN⟩ := h2
  subst e
  have eP : s2.heap.get? P = some { cls := .none, data := .fields ps } := I2.hok P _ hP
  have eC := I2.kIn _ _ lk
  have isC : s2.heap.IsCode c P ps := ⟨o, vs, file, tf, flags, tg', inF, text, tt, _, eC, dt, g11, g18, g7, g9, g10, eP, rfl, tr, ncP⟩
  refine ⟨I2.nolimit, ?_⟩
  cases hf : codeAmong gp ps.toList with
  | some cv =>
    refine wpAny_genexprCode_hit hc isC hf ?_
    refine fin it fp tn J H2 s2 cv I2 T ?_ t2 f2
    have := hN #[] (by simpa using tr)
    rw [show ps ++ #[] = ps by simp, upd_id hP] at this
    exact this
  | none =>
    refine wpAny_genexprCodeX hc isC ⟨⟨o, vs, eC, cls, dt, v11⟩, eP⟩ hf fun c' h' tk hx hge hlt hcode _ htab _ => ?_
    have I3 := inv_table (tk := tk) (more := #[rawInt gp.line, rawInt gp.col, .ref c']) I2 hP (fun b o n e => hx b o n e) htab.2
    obtain ⟨_, _, _, _, _, _, _, _, _, _, _, _, _, _, _, _, _, _, hpd, htr, _⟩ := hcode
    have tr' : TriplesOk (ps ++ #[rawInt gp.line, rawInt gp.col, .ref c']).toList := by
      exact htr
    have nP : ∀ b ∈ fp, b ≠ P := fun b hb z => by
      have := (f2 b hb).1
      rw [z, hP] at this; cases this
    refine fin it fp tn J _ _ (.ref c') I3 T (hN _ tr') (T.keep _ _ _ t2 fun b hb o e => hx b o (nP b hb) e) fun b hb => ⟨?_, (f2 b hb).2⟩
    rw [upd_ne (nP b hb)]
    exact (f2 b hb).1
end
end Gx
namespace Gx
open PySem PySem.Spec L2
open PyProof.Rows (AllBare)
def tGenB (b : Bool) (P : Addr) (wi : TI) (g : TG) (te : TE) (vs : List Nat) : TE := fun σ H Q => wi σ H fun J H1 => ∃ ps, H1 P = some (.tbl ps) ∧ TriplesOk ps.toList ∧ ∀ more, TriplesOk (ps ++ more).toList →
  ∃ W : Nat → Nat → Hp → Prop, (∃ m, W 0 m (upd H1 P (.tbl (ps ++ more)))) ∧ ∀ i m H, W i m H → (J.stop i H ∧ Q (.bl b) H) ∨
    (J.go i H ∧ ∀ x H', J.yld i H x H' → g x (wipe σ vs) H' fun σ2 H2 => wipe σ2 vs = wipe σ vs ∧ te σ2 H2 fun y H4 => ∃ k, y = .bl k ∧ if k = b then ∃ m', m' < m ∧ W (i + 1) m' H4 else Q (.bl (!b)) H4)
def tGenT (P : Addr) (wi : TI) (g : TG) (te : TE) (vs : List Nat) : TE := fun σ H Q => wi σ H fun J H1 => ∃ ps, H1 P = some (.tbl ps) ∧ TriplesOk ps.toList ∧ ∀ more, TriplesOk (ps ++ more).toList →
  ∃ W : Nat → Nat → List V → Hp → Prop, (∃ m, W 0 m [] (upd H1 P (.tbl (ps ++ more)))) ∧ ∀ i m acc H, W i m acc H → (J.stop i H ∧ acc.length ≤ sizeLine ∧ ∀ p, H p = none → Q (.ref p) (upd H p (.tup acc))) ∨
    (J.go i H ∧ ∀ x H', J.yld i H x H' → g x (wipe σ vs) H' fun σ2 H2 => wipe σ2 vs = wipe σ vs ∧ te σ2 H2 fun y H4 => acc.length < sizeLine ∧ ∃ m', m' < m ∧ W (i + 1) m' (acc ++ [y]) H4)
theorem wipe_idem (σ : St) (vs : List Nat) : wipe (wipe σ vs) vs = wipe σ vs := by
  apply List.ext_getElem?
  intro i
  have key : ∀ (vs : List Nat) (τ : St), (wipe τ vs)[i]? = if i ∈ vs ∧ i < τ.length then some none else τ[i]? := by
    intro vs
    induction vs with
    | nil => intro τ; simp [wipe]
    | cons v vs ih =>
      intro τ
      unfold wipe
      by_cases hv : v = i
      · subst hv
        by_cases hl : v < τ.length
        · rw [List.getElem?_set_self (by rw [wipe_length]; exact hl)]
          simp [hl]
        · rw [List.getElem?_eq_none (by rw [List.length_set, wipe_length]; omega)]
          simp [hl, List.getElem?_eq_none (Nat.le_of_not_lt hl)]
      · rw [List.getElem?_set_ne hv, ih]
        have : (i ∈ v :: vs) ↔ i ∈ vs := by
          rw [List.mem_cons]
          exact ⟨fun z => z.resolve_left fun e => hv e.symm, .inr⟩
        simp only [this]
  rw [key, key]
  by_cases h : i ∈ vs ∧ i < σ.length
  · rw [if_pos (by rw [wipe_length]; exact h), if_pos h]
  · rw [if_neg (by rw [wipe_length]; exact h)]
section
variable {X : Cx} {elt tg iter : Expr} {scope : Scope} {own : List (Str × Nat)} {gp pos p : Pos} {wi : TI} {g : TG} {te : TE} {P : Addr}
abbrev Blk (X : Cx) (scope : Scope) (F : Cx → Prop) : Prop := ∀ (A : Around) (s : Shared) (H : Hp) (C : Addr) (cl : List (Str × Addr)) (code : Value) (fp : List Addr), A.handled = none → A.depth ≤ X.A.depth + 1 → A.units ≤ X.A.units + 8 → A.guards = X.A.guards →
  F (gcx X A s H scope (genEnv scope cl C code builtinsNs X.env) fp)
theorem over_ok {A1 : Around} {it : Addr} {cenv : Env} (hd : A1.handled = none) : (A1.over (gCode elt tg iter scope gp it cenv) []).handled = none ∧ (A1.over (gCode elt tg iter scope gp it cenv) []).depth = A1.depth + 1 ∧ (A1.over (gCode elt tg iter scope gp it cenv) []).units = A1.units + 3 ∧
    (A1.over (gCode elt tg iter scope gp it cenv) []).guards = A1.guards ∧ (A1.over (gCode elt tg iter scope gp it cenv) []).frames = A1.frames.map (cenv :: ·) := by
  refine ⟨hd, rfl, rfl, rfl, ?_⟩
  show pushEnvs [cenv] (pushEnvs [] A1.frames) = _
  cases A1.frames <;> rfl
theorem ready {pins : List (Addr × Obj)} {σ : St} {H3 : Hp} {s3 : Shared} {a it : Addr} {fp : List Addr} {h1 : Heap} {code nm qn : Value} {tk : Nat} {m : Str → Option Value} {A1 : Around} (hN : X.N.Nodup) (ok : BlkOk X.N X.env.scope scope own) (nc : ∀ y ∈ scope.names, y.2 ≠ .cell) (hd : A1.handled = none) (hfr : A1.frames = X.A.frames)
    (I3 : Inv X pins σ H3 s3) (f3 : ∀ b ∈ fp, FpOk X pins H3 b ∧ b < s3.heap.objs.size) (cenv : Env) (hce : cenv = genEnv scope (cloFrom X.env.cells scope.names []) s3.heap.objs.size code builtinsNs X.env)
    (kp : ∀ b o, s3.heap.get? b = some o → h1.get? b = some o) (ns : h1.Ns s3.heap.objs.size m) (la : s3.heap.objs.size < a) (ea : h1.get? a = some { cls := .type "generator", data := .fields #[.int s3.gens.size 0, nm, qn] }) :
    Inv (gcx X (A1.over (gCode elt tg iter scope gp it cenv) []) s3 H3 scope cenv fp) [(a, { cls := .type "generator", data := .fields #[.int s3.gens.size 0, nm, qn] })] (wipe σ (own.map (·.2))) H3 { s3 with heap := h1, gens := s3.gens.push (.fresh (gCode0 elt tg iter scope gp it cenv)), toks := tk } ∧
      (∀ b ∈ fp, FpOk (gcx X (A1.over (gCode elt tg iter scope gp it cenv) []) s3 H3 scope cenv fp) [(a, { cls := .type "generator", data := .fields #[.int s3.gens.size 0, nm, qn] })] H3 b) := by
  obtain ⟨o1, o2, o3, o4, o5⟩ := over_ok (elt := elt) (tg := tg) (iter := iter) (scope := scope) (gp := gp) (it := it) (cenv := cenv) hd
  have I4 := gen_start (A := A1.over (gCode elt tg iter scope gp it cenv) []) (g1 := s3.gens.push (.fresh (gCode0 elt tg iter scope gp it cenv))) (tk := tk) (fp := fp) I3 ok hN f3 nc cenv hce (by rw [o5, hfr, I3.ok.frames]; rfl) o1 kp ns (I3.bare.push rfl)
  have hL : cenv.locals = s3.heap.objs.size := by rw [hce]; rfl
  have nf : a ∉ frs X.stack := fun z => by
    rcases List.mem_cons.mp (I3.stkSub a z) with e | e
    · exact absurd (Nat.lt_trans la (by rw [e]; exact I3.lt)) (Nat.lt_irrefl _)
    · exact I3.nofs (Nat.le_of_lt la) e
  refine ⟨I4.pins_of fun q hq => ?_, fun b hb => ?_⟩
  · have e : q = (a, { cls := .type "generator", data := .fields #[.int s3.gens.size 0, nm, qn] }) := by simpa using hq
    subst e
    exact ⟨ea, I3.hok.fresh (Nat.le_of_lt la), by show a ≠ cenv.locals; rw [hL]; exact Nat.ne_of_gt la, nf, fun v z => by cases z⟩
  · refine ⟨(f3 b hb).1.1, (I4.ok.exf b hb).1, I4.ok.exfs b hb, .inl hb, fun x c e => (I4.ok.exf b hb).2 x c e, fun q hq => ?_⟩
    have e : q = (a, { cls := .type "generator", data := .fields #[.int s3.gens.size 0, nm, qn] }) := by simpa using hq
    subst e
    exact Nat.ne_of_gt (Nat.lt_trans (f3 b hb).2 la)
theorem back {pins pins' : List (Addr × Obj)} {σ σ' : St} {H3 H' : Hp} {s3 s' : Shared} {fp : List Addr} {A : Around} {cenv : Env} (I3 : Inv X pins σ H3 s3) (f3 : ∀ b ∈ fp, FpOk X pins H3 b ∧ b < s3.heap.objs.size) (I' : Inv (gcx X A s3 H3 scope cenv fp) pins' σ' H' s') : Inv X pins σ H' s' :=
  I3.call' (ch := fp) I'.os I'.base I'.hok I'.bare fun b hb => ⟨(f3 b hb).1.2.2.2.1, (f3 b hb).1.2.1, (f3 b hb).1.2.2.2.2.1, (f3 b hb).1.2.2.2.2.2⟩
theorem pe_genB {b : Bool} (hc : X.calm = true) (hN : X.N.Nodup) (hi : PI X tg iter wi) (ok : BlkOk X.N X.env.scope scope own) (nc : ∀ y ∈ scope.names, y.2 ≠ .cell) (h0 : scope.names.lookup (".0" : Str) = some NameKind.local) (hco : scope.isCoroutine = false) (ge : MayGen X P) (hroom : X.A.depth < recursionLimit)
    (hg : Blk X scope fun Y => PG Y tg g) (he : Blk X scope fun Y => PE Y elt te) (hm : X.mg (cond b "all" "any") = none) (hgl : Gl X (cond b "all" "any")) (hs : ∀ x, genFold iter X.env x = pure x := by intro _; rfl)
    (hst : starEach [.GeneratorExp elt [⟨tg, iter, [], 0⟩] scope gp] X.env = [(false, eval (.GeneratorExp elt [⟨tg, iter, [], 0⟩] scope gp) X.env)] := by rfl) :
    PE X (.Call (.Name (cond b "all" "any") p) [.GeneratorExp elt [⟨tg, iter, [], 0⟩] scope gp] [] pos) (tGenB b P wi g te (own.map (·.2))) := by
  intro pins s σ H Q I h
  have hv : bootBuiltins (cond b "all" "any" : Str) = some (.builtin (cond b "all" "any" : String)) := by cases b <;> decide +kernel
  refine wpAny_Call_Name_kw (ld_blt I hgl hm hv ?_ (by cases b <;> decide) (by cases b <;> decide))
  refine PyProof.Rows.callWith_builtin1 (e := .GeneratorExp elt [⟨tg, iter, [], 0⟩] scope gp) (rest := []) ?_ hst rfl
  rw [hst]
  refine Calls.spliced_cons ?_
  refine gen_make (N := fun J H3 => ∃ W : Nat → Nat → Hp → Prop, (∃ m, W 0 m H3) ∧ ∀ i m H, W i m H → (J.stop i H ∧ Q (.bl b) H) ∨
    (J.go i H ∧ ∀ x H', J.yld i H x H' → g x (wipe σ (own.map (·.2))) H' fun σ2 H2 => wipe σ2 (own.map (·.2)) = wipe σ (own.map (·.2)) ∧ te σ2 H2 fun y H4 => ∃ k, y = .bl k ∧ if k = b then ∃ m', m' < m ∧ W (i + 1) m' H4 else Q (.bl (!b)) H4)) I hi ok nc h0 hco ge hroom hs h ?_
  intro it a fp tn J H3 s3 h1 code nm qn cenv tk mm I3 T hW t3 f3 hce kp ns la ea sz
  refine Calls.spliced_nil ?_
  obtain ⟨W, ⟨m0, w0⟩, step⟩ := hW
  have hd := I3.ok.hd hc
  obtain ⟨I5, f5⟩ := ready (elt := elt) (tg := tg) (iter := iter) (gp := gp) (it := it) (A1 := X.A.in1.in1) (tk := tk) hN ok nc hd rfl I3 f3 cenv hce kp ns la ea
  obtain ⟨o1, o2, o3, o4, o5⟩ := over_ok (A1 := X.A.in1.in1) (elt := elt) (tg := tg) (iter := iter) (scope := scope) (gp := gp) (it := it) (cenv := cenv) hd
  have b2 : (X.A.in1.in1.over (gCode elt tg iter scope gp it cenv) []).depth ≤ X.A.depth + 1 := by rw [o2]; exact Nat.le_refl _
  have b3 : (X.A.in1.in1.over (gCode elt tg iter scope gp it cenv) []).units ≤ X.A.units + 8 := by rw [o3]; show X.A.units + 1 + 1 + 3 ≤ _; omega
  have pg := hg _ s3 H3 s3.heap.objs.size (cloFrom X.env.cells scope.names []) code fp o1 b2 b3 o4
  have pe := he _ s3 H3 s3.heap.objs.size (cloFrom X.env.cells scope.names []) code fp o1 b2 b3 o4
  rw [← hce] at pg pe
  have L : Plan (gcx X (X.A.in1.in1.over (gCode elt tg iter scope gp it cenv) []) s3 H3 scope cenv fp) (fun _ q => q = [(a, { cls := .type "generator", data := .fields #[.int s3.gens.size 0, nm, qn] })]) (wipe σ (own.map (·.2))) (own.map (·.2)) fp it tn J tg elt g te (fun i m _ H => W i m H) (fun _ H => Q (.bl b) H)
      (fun i m _ y H4 => ∃ k, y = .bl k ∧ if k = b then ∃ m', m' < m ∧ W (i + 1) m' H4 else Q (.bl (!b)) H4) := ⟨hc, rfl, T, pg, pe, fun i m acc H w => step i m H w⟩
  have gst : GSt (gcx X (X.A.in1.in1.over (gCode elt tg iter scope gp it cenv) []) s3 H3 scope cenv fp) (fun _ q => q = [(a, { cls := .type "generator", data := .fields #[.int s3.gens.size 0, nm, qn] })]) (wipe σ (own.map (·.2))) fp tn s3.gens.size 0 [] H3
      { s3 with heap := h1, gens := s3.gens.push (.fresh (gCode0 elt tg iter scope gp it cenv)), toks := tk } := ⟨_, rfl, I5, t3, f5, by show s3.gens.size < (s3.gens.push _).size; rw [Array.size_push]; omega⟩
  have go : GGo (gcx X (X.A.in1.in1.over (gCode elt tg iter scope gp it cenv) []) s3 H3 scope cenv fp) (fun _ q => q = [(a, { cls := .type "generator", data := .fields #[.int s3.gens.size 0, nm, qn] })]) (wipe σ (own.map (·.2))) fp tn s3.gens.size (fun _ H => Q (.bl b) H) (fun i m _ H => W i m H)
      (fun i m _ y H4 => ∃ k, y = .bl k ∧ if k = b then ∃ m', m' < m ∧ W (i + 1) m' H4 else Q (.bl (!b)) H4) X.A.in1.in1 (m0 + 1) 0 m0 [] H3 (.fresh (gCode0 elt tg iter scope gp it cenv)) := fun s st w =>
    ⟨rfl, gen_begin (wipe_idem _ _) L rfl (by show cenv.scope.isCoroutine = false; rw [hce]; exact hco) (m0 + 1) 0 m0 [] H3 s s (Nat.lt_succ_self _) st w⟩
  have hpa : ∀ (acc : List V) (q : List (Addr × Obj)), q = [(a, ({ cls := .type "generator", data := .fields #[.int s3.gens.size 0, nm, qn] } : Obj))] → ∃ go nm qn, (a, go) ∈ q ∧ go.cls = .type "generator" ∧ go.data = .fields #[.int s3.gens.size 0, nm, qn] ∧ go.slots = #[] :=
    fun acc q e => by subst e; exact ⟨_, nm, qn, List.mem_cons_self, rfl, rfl, rfl⟩
  have isg : h1.IsGen a s3.gens.size := ⟨_, nm, qn, ea, rfl, rfl, rfl⟩
  have hgs : (s3.gens.push (.fresh (gCode0 elt tg iter scope gp it cenv)))[s3.gens.size]? = some (.fresh (gCode0 elt tg iter scope gp it cenv)) := by simp
  have fin : ∀ (k : Bool) (H' : Hp) (q : List (Addr × Obj)) (s' : Shared), Inv (gcx X (X.A.in1.in1.over (gCode elt tg iter scope gp it cenv) []) s3 H3 scope cenv fp) q (wipe σ (own.map (·.2))) H' s' → Q (.bl k) H' → EP X pins σ Q (.bool k) s' := fun k H' q s' I' hq => ⟨.bl k, H', back I3 f3 I', rfl, hq⟩
  cases b with
  | true =>
    show wpAny _ _ (call (.builtin "all") [.ref a]) _ _ _
    refine call_function_tree F.kind_all F.plain_all F.entry_all (F.args_all1 _) ?_
    unfold Builtin.«all»
    refine wpAny_bind (m := oneArg "all" _) (wpAny_pure ?_)
    refine wpAny_bind (wpAny_pyIter_gen isg (wpAny_pure ⟨plainId_quiet F.plain_all_loop _, ?_⟩))
    exact gen_all_loop (Qn := fun H => Q (.bl false) H) hd hroom hpa (fun i m acc y H h => by obtain ⟨k, e, z⟩ := h; exact ⟨k, e, z⟩) (fun acc H q s' hp' I' z => fin true H q s' I' z) (fun acc H q s' hp' I' z => fin false H q s' I' z) (m0 + 1) 0 m0 [] H3 _ _ gst w0 hgs go
  | false =>
    show wpAny _ _ (call (.builtin "any") [.ref a]) _ _ _
    refine call_function_tree F.kind_any F.plain_any F.entry_any (F.args_any1 _) ?_
    unfold Builtin.«any»
    refine wpAny_bind (m := oneArg "any" _) (wpAny_pure ?_)
    refine wpAny_bind (wpAny_pyIter_gen isg (wpAny_pure ⟨plainId_quiet F.plain_any_loop _, ?_⟩))
    exact gen_any_loop (Qn := fun H => Q (.bl true) H) hd hroom hpa (fun i m acc y H h => by obtain ⟨k, e, z⟩ := h; cases k <;> exact ⟨_, e, z⟩) (fun acc H q s' hp' I' z => fin false H q s' I' z) (fun acc H q s' hp' I' z => fin true H q s' I' z) (m0 + 1) 0 m0 [] H3 _ _ gst w0 hgs go
end
end Gx
namespace Gx
open PySem PySem.Spec L2
open PyProof.Rows (AllBare)
section
variable {X : Cx} {elt tg iter : Expr} {scope : Scope} {own : List (Str × Nat)} {gp pos p : Pos} {wi : TI} {g : TG} {te : TE} {P : Addr}
end
end Gx
namespace Gx
open PySem PySem.Spec L2 PyProof.Rows
def codeOf (K : PySem.W.Frag) (n : Str) : Option Addr := match PySem.W.nsIn K mainGlobals n with
  | some (some (.ref f)) => (match K.lookup f with
    | some ⟨_, _, .func fd, _⟩ => (match fd.code with | .ref c => some c | _ => none)
    | _ => none)
  | _ => none
def okTabs (K : PySem.W.Frag) (names : List Str) : Bool := K.all fun p => (match p.2.cls, p.2.data with | .none, .fields _ => false | _, _ => true) && ((match p.2.cls with | .type t => t != "code" | _ => true) || names.any fun n => codeOf K n == some p.1)
def genAt (K : PySem.W.Frag) (cd : Value) : Bool := match cd with
  | .ref c => (match K.lookup c with
    | some ⟨.type t, _, .fields vs, _⟩ => t == "code" && (match vs.toList with
      | [_, _, _, _, _, _, _, .int _ _, _, .bool _, .int _ _, .ref P, _, _, _, _, _, _, .str _ _] => c != P
      | [_, _, _, _, _, _, _, .int _ _, _, .bool _, .int _ _, .ref P, _, _, _, _, _, _, .str _ _, _] => c != P
      | [_, _, _, _, _, _, _, .int _ _, _, .bool _, .int _ _, .ref P, _, _, _, _, _, _, .str _ _, _, _] => c != P
      | _ => false)
    | _ => false)
  | _ => false
def BmOk (base : Heap) (mg : Str → Option Value) : Prop := ∃ (bm : Addr) (ob : Obj), mg "__builtins__" = some (.ref bm) ∧ bm ≠ builtinsNs ∧ base.get? bm = some ob ∧ ob.cls = .type "module" ∧ ob.dict = some builtinsNs ∧ ob.data = .plain
theorem lookup_mem {α β : Type} [BEq α] [LawfulBEq α] : ∀ {l : List (α × β)} {a : α} {b : β}, l.lookup a = some b → (a, b) ∈ l
  | [], _, _, h => by cases h
  | (x, y) :: r, a, b, h => by
    unfold List.lookup at h
    split at h
    · rename_i e
      have e : a = x := by simpa using e
      cases h
      subst e
      exact List.mem_cons_self
    · exact List.mem_cons_of_mem _ (lookup_mem h)
theorem genAt_ok {K : PySem.W.Frag} {cd : Value} (h : genAt K cd = true) : ∃ c P, cd = .ref c ∧ CodeAt K c P := by
  unfold genAt at h
  split at h
  case h_2 => cases h
  rename_i c
  split at h
  case h_2 => cases h
  rename_i t d vs sl hl
  rw [Bool.and_eq_true] at h
  obtain ⟨h1, h2⟩ := h
  have ht : t = "code" := by simpa using h1
  subst ht
  obtain ⟨vl⟩ := vs
  dsimp only at h2
  split at h2
  · exact ⟨c, _, rfl, ⟨_, _, _, _, _, _, _, _, _, hl, rfl, rfl, rfl, rfl, rfl, rfl, rfl, rfl⟩, by simpa using h2⟩
  · exact ⟨c, _, rfl, ⟨_, _, _, _, _, _, _, _, _, hl, rfl, rfl, rfl, rfl, rfl, rfl, rfl, rfl⟩, by simpa using h2⟩
  · exact ⟨c, _, rfl, ⟨_, _, _, _, _, _, _, _, _, hl, rfl, rfl, rfl, rfl, rfl, rfl, rfl, rfl⟩, by simpa using h2⟩
  · cases h2
theorem codeOf_ok {K : PySem.W.Frag} {n : Str} {c : Addr} (h : codeOf K n = some c) : ∃ f oc od fd sl, PySem.W.nsIn K mainGlobals n = some (some (.ref f)) ∧ K.lookup f = some ⟨oc, od, .func fd, sl⟩ ∧ fd.code = .ref c := by
  unfold codeOf at h
  split at h
  case h_2 => cases h
  rename_i f e1
  split at h
  case h_2 => cases h
  rename_i oc od fd sl e2
  split at h
  case h_2 => cases h
  rename_i c' e3
  cases h
  exact ⟨f, _, _, _, _, e1, e2, e3⟩
theorem tabs_at {q : Program} {loose : List Str} {mean : ExcName → Option Value} {mg mb : Str → Option Value} {h : Heap} {K : PySem.W.Frag} {names : List Str} (T : Top q loose mean mg mb h) (KX : K.In h) (ok : okTabs K names = true)
    (hq : names.all (fun n => (recsOf q).any fun d => d.name == n) = true) (c P : Addr) (x : CodeAt K c P) : h.TableAt c P #[] ∧ K.lookup P = none := by
  obtain ⟨⟨o, vs, file, tf, flags, tg, inF, text, tt, l, cls, dt, v11, _⟩, ne⟩ := x
  have all := List.all_eq_true.mp ok
  have tb : h.TableAt c P #[] := by
    have m := all (c, o) (lookup_mem l)
    rw [Bool.and_eq_true] at m
    have m2 := m.2
    dsimp only at m2
    rw [cls] at m2
    have m3 : (names.any fun n => codeOf K n == some c) = true := by simpa using m2
    obtain ⟨n, hn, e⟩ := List.any_eq_true.mp m3
    obtain ⟨f, oc, od, fd, sl, e1, e2, e3⟩ := codeOf_ok (by simpa using e)
    obtain ⟨d, hd, ed⟩ := List.any_eq_true.mp (List.all_eq_true.mp hq n hn)
    have ed : d.name = n := by simpa using ed
    obtain ⟨a, o2, fd2, c2, P2, g1, g2, g3, g4, _, g6⟩ := T.tab d hd
    have g0 := PySem.W.mg_of KX T.g e1
    rw [ed, g0] at g1
    cases g1
    have g7 := KX _ _ e2
    rw [g7] at g2
    cases g2
    cases g3
    rw [e3] at g4
    cases g4
    obtain ⟨⟨o3, vs3, t1, t2, t3, t4⟩, t5⟩ := id g6
    have t6 := KX _ _ l
    rw [t6] at t1
    cases t1
    rw [dt] at t3
    cases t3
    rw [v11] at t4
    cases t4
    exact g6
  refine ⟨tb, ?_⟩
  cases hk : K.lookup P with
  | none => rfl
  | some oP =>
    have e := KX _ _ hk
    rw [tb.2] at e
    cases e
    have m := all (P, _) (lookup_mem hk)
    rw [Bool.and_eq_true] at m
    cases m.1
end Gx
namespace L2
open PySem PySem.Spec PyProof.Rows
open Classical in
theorem law_callT {P : Program} {w : World} {K : PySem.W.Frag} {mg mb : Str → Option Value} {CX : CXT} {k : Nat} {fa a : Addr} {fd : FuncData} {x : Str} {sp : Sp} {s₁ : Shared} {vs : List Value} {ns : List Int}
    (KX : K.In s₁.heap) (hns : s₁.heap.Ns mainGlobals mg) (hb : s₁.heap.Ns builtinsNs mb) (hbb : ∀ x : Str, x ≠ "__name__" → mb x = bootBuiltins x) (hlim : s₁.heap.NoLimit) (hg : s₁.gens = #[])
    (ha : s₁.heap.get? a = some { cls := .type "list", data := .seq vs.toArray }) (hi : IntsAre vs ns) (hl : ns.length ≤ sizeLine) (hr : Room k callerA) (hbm : Gx.BmOk s₁.heap mg) (hT : ∀ c T, Gx.CodeAt K c T → s₁.heap.TableAt c T #[] ∧ K.lookup T = none)
    (F : ∀ base : Heap, K.In base → base.Ns mainGlobals mg → Gx.BmOk base mg → FnOk P w K mg base CX k fa fd [x] sp) (hbind : ∀ (s : Shared) (u : Value), BindsTo s fd ⟨[u], []⟩ [(x, u)])
    (hsp : ∀ H : Hp, Ev.OnlyT H → Gx.Tabs K H → SqL K H a (ns.map V.int) → sp [.ref a] H (fun v _ => v = .bl true) fun _ _ _ => False)
    (hCX : ∀ H e s', CX [] H s₁ (fun _ _ _ => False) e s' → False) :
    codeAny (model P w) callerA (.call (.ref fa) ⟨[.ref a], []⟩) (fun r s' => r = .ok (.ret (.bool true)) ∧ OldK s₁.heap s'.heap ∧ s'.os = s₁.os ∧ AllBare s'.gens) s₁ := by
  have rv := vals_ints hi
  have lenV := hi.length
  have core : ∀ H : Hp, Ev.OnlyT H → Gx.Tabs K H → SqL K H a (ns.map V.int) → HOk P w H s₁.heap → (∀ b, H b ≠ none → (b = a ∧ K.lookup a = none) ∨ ((∃ c, s₁.heap.TableAt c b #[]) ∧ H b = some (.tbl #[]) ∧ K.lookup b = none)) →
      codeAny (model P w) callerA (.call (.ref fa) ⟨[.ref a], []⟩) (fun r s' => r = .ok (.ret (.bool true)) ∧ OldK s₁.heap s'.heap ∧ s'.os = s₁.os ∧ AllBare s'.gens) s₁ := by
    intro H hO hTb hS hok hA
    have base_of : ∀ {b : Addr} {o : Obj}, s₁.heap.get? b = some o → H b = none → (hidT s₁.heap H).get? b = some o := fun e n => hidT_get e n
    have noA : ∀ {b : Addr} {o : Obj}, s₁.heap.get? b = some o → (∀ xs n, o.data ≠ .seq xs n) → (∀ xs, o.data ≠ .fields xs) → H b = none := fun {b o} e d d2 => by
      cases q : H b with
      | none => rfl
      | some u =>
        rcases hA b (by rw [q]; simp) with ⟨e', _⟩ | ⟨⟨c, tb⟩, _⟩
        · subst e'
          rw [ha] at e; cases e
          exact absurd rfl (d _ _)
        · rw [tb.2] at e; cases e
          exact absurd rfl (d2 _)
    have nsK : ∀ {b : Addr} {m : Str → Option Value}, s₁.heap.Ns b m → (hidT s₁.heap H).Ns b m := fun {b m} ⟨o, es, ep, e, d, r⟩ => ⟨o, es, ep, base_of e (noA e (fun _ _ z => by rw [d] at z; cases z) fun _ z => by rw [d] at z; cases z), d, r⟩
    have hKb : K.In (hidT s₁.heap H) := fun b o e => base_of (KX b o e) (by
      cases q : H b with
      | none => rfl
      | some u =>
        rcases hA b (by rw [q]; simp) with ⟨e', z⟩ | ⟨_, _, z⟩
        · subst e'; rw [z] at e; cases e
        · rw [z] at e; cases e)
    have hbm' : Gx.BmOk (hidT s₁.heap H) mg := by
      obtain ⟨bm, ob, b1, b2, b3, b4, b5, b6⟩ := hbm
      exact ⟨bm, ob, b1, b2, base_of b3 (noA b3 (fun _ _ z => by rw [b6] at z; cases z) fun _ z => by rw [b6] at z; cases z), b4, b5, b6⟩
    have hM : Mod K mg (hidT s₁.heap H) := ⟨hKb, nsK hns, ⟨mb, nsK hb, hbb⟩, let ⟨mc, h1, h2⟩ := hlim; ⟨mc, nsK h1, h2⟩⟩
    have e0 : Env0 P w K mg (hidT s₁.heap H) callerA [] s₁ H := ⟨rfl, hM, fun b o e => of_hidT e, Nat.le_of_eq (hidT_size _ _), trivial, fun b hb => absurd (show b ∈ ([] : List Addr) from hb) (by simp), hok, .of_eq hg⟩
    refine codeAny_mono ((F _ hKb (nsK hns) hbm').run callerA [] s₁ H ⟨[.ref a], []⟩ [.ref a] [.ref a] _ _ hr e0 (hbind s₁ (.ref a)) (.cons rfl .nil) (hsp H hO hTb hS)) fun r s' h => ?_
    cases r with
    | error e => exact (hCX H e s' h).elim
    | ok fl =>
      cases fl with
      | next => exact False.elim h
      | brk => exact False.elim h
      | cont => exact False.elim h
      | ret u =>
        obtain ⟨v, H', os, bare, un, hok', r', q⟩ := h
        have q' : v = .bl true := q
        subst q'
        obtain rfl : u = Value.bool true := r'
        have key : ∀ b o, s₁.heap.get? b = some o → asItWas s₁.heap s'.heap b o ∧ ∃ o', s'.heap.get? b = some o' := fun b o e => by
          cases q : H b with
          | none =>
            have := un.keep b o e q (by intro z; exact absurd (show b ∈ ([] : List Addr) from z) (by simp)) (by simp)
            exact ⟨.inl this, _, this⟩
          | some u =>
            rcases hO b with z | ⟨ob, xs, z⟩ | ⟨ps, z⟩
            · rw [q] at z; cases z
            · have z2 := un.frzs b ob _ z
              obtain ⟨e1, _⟩ := hok b _ z
              obtain ⟨e2, _⟩ := hok' b _ z2
              rw [e] at e1; cases e1
              exact ⟨.inl e2, _, e2⟩
            · rcases hA b (by rw [q]; simp) with ⟨e', _⟩ | ⟨⟨c, tb⟩, z0, _⟩
              · have hz := hok b _ z
                have hz : s₁.heap.get? b = some { cls := .none, data := .fields ps } := hz
                rw [e', ha] at hz
                cases hz
              · rw [z0] at z
                cases z
                obtain ⟨more, z2⟩ := un.tbls b _ z0
                have e2 : s'.heap.get? b = some { cls := .none, data := .fields (#[] ++ more) } := hok' b _ z2
                rw [tb.2] at e
                cases e
                exact ⟨.inr (.inl ⟨tb.isCodeTable, rfl, #[], more, rfl, e2⟩), _, e2⟩
        exact ⟨rfl, ⟨fun b o e => (key b o e).1, fun b o e => (key b o e).2⟩, os, bare⟩
  have nT : ∀ c, ¬ Gx.CodeAt K c a := fun c x => by
    have := (hT c a x).1.2
    rw [ha] at this
    cases this
  cases hk : K.lookup a with
  | some o =>
    have e := KX a o hk
    rw [ha] at e
    cases e
    refine core (fun b => if ∃ c, Gx.CodeAt K c b then some (.tbl #[]) else none) (fun b => ?_) (fun c T x => ⟨#[], if_pos ⟨c, x⟩, trivial⟩) (.inr ⟨_, vs.toArray, _, hk, rfl, rfl, rfl, by rw [List.size_toArray, lenV]; exact hl, by simpa using rv⟩) (fun b u z => ?_) fun b z => ?_
    · by_cases h : ∃ c, Gx.CodeAt K c b
      · exact .inr (.inr ⟨_, if_pos h⟩)
      · exact .inl (if_neg h)
    · by_cases h : ∃ c, Gx.CodeAt K c b
      · have z' := (if_pos h).symm.trans z
        cases z'
        obtain ⟨c, x⟩ := h
        exact (hT c b x).1.2
      · have z' := (if_neg h).symm.trans z
        cases z'
    · by_cases h : ∃ c, Gx.CodeAt K c b
      · obtain ⟨c, x⟩ := id h
        exact .inr ⟨⟨c, (hT c b x).1⟩, if_pos h, (hT c b x).2⟩
      · exact absurd (if_neg h) z
  | none =>
    refine core (fun b => if b = a then some (.frz { cls := .type "list", data := .seq vs.toArray } (.lst (ns.map V.int))) else if ∃ c, Gx.CodeAt K c b then some (.tbl #[]) else none) (fun b => ?_) (fun c T x => ⟨#[], ?_, trivial⟩) (.inl (.inr ⟨{ cls := .type "list", data := .seq vs.toArray }, if_pos rfl⟩)) (fun b u z => ?_) fun b z => ?_
    · by_cases hb : b = a
      · exact .inr (.inl ⟨_, _, if_pos hb⟩)
      · by_cases h : ∃ c, Gx.CodeAt K c b
        · exact .inr (.inr ⟨_, (if_neg hb).trans (if_pos h)⟩)
        · exact .inl ((if_neg hb).trans (if_neg h))
    · exact (if_neg (fun e : T = a => nT c (by rw [e] at x; exact x))).trans (if_pos ⟨c, x⟩)
    · by_cases hb : b = a
      · have z' := (if_pos hb).symm.trans z
        cases z'
        subst hb
        exact ⟨ha, by rw [List.length_map]; exact hl, vs, _, rv, ha⟩
      · by_cases h : ∃ c, Gx.CodeAt K c b
        · have z' := ((if_neg hb).trans (if_pos h)).symm.trans z
          cases z'
          obtain ⟨c, x⟩ := h
          exact (hT c b x).1.2
        · have z' := ((if_neg hb).trans (if_neg h)).symm.trans z
          cases z'
    · by_cases hb : b = a
      · exact .inl ⟨hb, hk⟩
      · by_cases h : ∃ c, Gx.CodeAt K c b
        · obtain ⟨c, x⟩ := id h
          exact .inr ⟨⟨c, (hT c b x).1⟩, (if_neg hb).trans (if_pos h), (hT c b x).2⟩
        · exact absurd ((if_neg hb).trans (if_neg h)) z
theorem walk_ofT {l : PySem.W.OpenLaw} {n k : Nat} {q : Program} {loose : List Str} {XP : (Str → Option Value) → Heap → Prop} {YP : World → Heap → Prop} {d : DefRec} {K : Params → PySem.W.Frag} {CX : World → CXT} {sp : World → Sp} {x : Str} {names : List Str}
    (hn : l.most = some n) (hn2 : n ≤ sizeLine) (hdf : d.params.defaults = []) (hr : Room k callerA)
    (hY : ∀ (w : World) (h : Heap), YP w h → (K w.params).In h) (hok : ∀ w : World, Gx.okTabs (K w.params) names = true) (hq : names.all (fun n => (recsOf q).any fun d => d.name == n) = true)
    (F : ∀ (w : World) (mg : Str → Option Value) (fa : Addr) (h : Heap), (K w.params).In h → h.Ns mainGlobals mg → mg d.name = some (.ref fa) →
      ∃ fd : FuncData, (∀ (s : Shared) (u : Value), BindsTo s fd ⟨[u], []⟩ [(x, u)]) ∧
        ∀ base : Heap, (K w.params).In base → base.Ns mainGlobals mg → Gx.BmOk base mg → FnOk l.prog w (K w.params) mg base (CX w) k fa fd [x] (sp w))
    (hsp : ∀ (w : World) (H : Hp) (a : Addr) (ns : List Int), ns.length ≤ n → Ev.OnlyT H → Gx.Tabs (K w.params) H → SqL (K w.params) H a (ns.map V.int) → sp w [.ref a] H (fun v _ => v = .bl true) fun _ _ _ => False)
    (hCX : ∀ (w : World) (H : Hp) (s : Shared) (e : Value) (s' : Shared), CX w [] H s (fun _ _ _ => False) e s' → False) :
    PySem.W.WalkO q loose XP YP l.row.toRowW d [] (fun f vs => PySem.call f vs) := by
  refine Att.attach_call hn hdf fun w s₀ s₁ mg mb fa o pm cd doc a vs ns G Y ho hd hcd hmg hobj hints hlen hg => ?_
  have KX := hY w _ Y
  obtain ⟨fd, hb, hF⟩ := F w mg fa _ KX G.T.g hmg
  exact law_callT KX G.T.g G.T.b G.T.builtins G.T.nolimit hg hobj hints (Nat.le_trans hlen hn2) hr G.T.bmain (fun c T x => Gx.tabs_at G.T KX (hok w) hq c T x) hF hb (fun H hO hT hS => hsp w H a ns hlen hO hT hS) fun H e s' => hCX w H s₁ e s'
end L2
namespace Ev
open PySem PySem.Spec L2 PyProof.Rows
open Classical in
noncomputable def genGo (b : Bool) (chk : Option (Nat × List D)) (all : List D) (G : SG) (A : SE) (ρ : Rho) : List D → Store → Option (D × Store)
  | [], st => if Still chk all st then some (.bl b, st) else none
  | x :: r, st => if Still chk all st then (G x ρ).bind fun ρ1 => (A ρ1 st).bind fun p => match p.1 with
      | .bl k => if k = b then genGo b chk all G A ρ r p.2 else some (.bl (!b), p.2)
      | _ => none
    else none
open Classical in
noncomputable def sGenB (b : Bool) (I : SI) (G : SG) (A : SE) (vs : List Nat) : SE := fun ρ st => (I ρ st).bind fun p => if Still p.1.2 p.1.1 p.2 then genGo b p.1.2 p.1.1 G A (wipeD ρ vs) p.1.1 p.2 else none
open Classical in
noncomputable def genTGo (chk : Option (Nat × List D)) (all : List D) (G : SG) (A : SE) (ρ : Rho) : List D → List D → Store → Option (D × Store)
  | [], acc, st => if Still chk all st ∧ acc.length ≤ sizeLine then some (.tup acc, st) else none
  | x :: r, acc, st => if Still chk all st then (G x ρ).bind fun ρ1 => (A ρ1 st).bind fun p => if acc.length < sizeLine then genTGo chk all G A ρ r (acc ++ [p.1]) p.2 else none
    else none
open Classical in
noncomputable def sGenT (I : SI) (G : SG) (A : SE) (vs : List Nat) : SE := fun ρ st => (I ρ st).bind fun p => if Still p.1.2 p.1.1 p.2 then genTGo p.1.2 p.1.1 G A (wipeD ρ vs) p.1.1 [] p.2 else none
theorem Ext.tbl {K : PySem.W.Frag} {H : Hp} {μ : Nat → Addr} {n : Nat} {P : Addr} {ps qs : Array Value} (hP : H P = some (.tbl ps)) : Ext K H μ n (upd H P (.tbl qs)) μ n := by
  refine ⟨Nat.le_refl _, fun _ _ => rfl, fun a ys q => ?_⟩
  rcases q with (q | ⟨u, q⟩) | q
  · exact .inl (.inl (by rw [upd_ne (ne_of q hP (by intro z; cases z))]; exact q))
  · exact .inl (.inr ⟨u, by rw [upd_ne (ne_of q hP (by intro z; cases z))]; exact q⟩)
  · exact .inr q
theorem StOk.tbl {K : PySem.W.Frag} {H : Hp} {μ : Nat → Addr} {st : Store} {P : Addr} {ps qs : Array Value} (h : StOk K H μ st) (hP : H P = some (.tbl ps)) (ht : TriplesOk qs.toList) : StOk K (upd H P (.tbl qs)) μ st := by
  refine ⟨h.pos, h.inj, h.tabs.tbl ht, fun i xs e => ?_⟩
  obtain ⟨vs, a, b, c⟩ := h.cell i xs e
  refine ⟨vs, fun z => ?_, fun z => ?_, c.up (Ext.tbl hP)⟩
  · rcases a z with ⟨u, q⟩ | q
    · exact .inl ⟨u, by rw [upd_ne (ne_of q hP (by intro z; cases z))]; exact q⟩
    · exact .inr q
  · rw [upd_ne (ne_of (b z) hP (by intro z; cases z))]; exact b z
section
variable {X : Cx}
theorem tGenB_ok {b : Bool} {c P : Addr} {I : SI} {g : TG} {G : SG} {A : SE} {vs : List Nat} (hP : Gx.CodeAt X.K c P) (hG : GOk X.K g G vs) (σ : L2.St) (H : Hp) (Q : VK) (h : tEv X.K (sGenB b I G A vs) σ H Q) : Gx.tGenB b P (tEvI X.K I) g (tEv X.K A) vs σ H Q := by
  obtain ⟨μ, ρ, st, d, st', hr, s, e, q⟩ := h
  unfold sGenB at e
  obtain ⟨⟨⟨xs, chk⟩, st1⟩, e1, e⟩ := Option.bind_eq_some_iff.mp e
  dsimp only at e
  split at e
  case isFalse => cases e
  rename_i still
  refine ⟨μ, ρ, st, xs, chk, st1, hr, s, e1, still, fun J μ1 H1 x1 s1 J1 => ?_⟩
  obtain ⟨ps, hps, tr⟩ := s1.tabs c P hP
  refine ⟨ps, hps, tr, fun more tr' => ?_⟩
  have sD : StOk X.K (upd H1 P (.tbl (ps ++ more))) μ1 st1 := s1.tbl hps tr'
  have xD : Ext X.K H1 μ1 st1.length (upd H1 P (.tbl (ps ++ more))) μ1 st1.length := Ext.tbl hps
  refine ⟨fun i m H' => ∃ μ' sti, m = xs.length - i ∧ i ≤ xs.length ∧ StOk X.K H' μ' sti ∧ Ext X.K (upd H1 P (.tbl (ps ++ more))) μ1 st1.length H' μ' sti.length ∧ genGo b chk xs G A (wipeD ρ vs) (xs.drop i) sti = some (d, st'),
    ⟨xs.length, _, _, by simp, Nat.zero_le _, sD, Ext.refl, by simpa using e⟩, ?_⟩
  rintro i m H' ⟨μ', sti, rfl, hi', s', x', e'⟩
  by_cases hlt : i < xs.length
  · rw [List.drop_eq_getElem_cons hlt] at e'
    unfold genGo at e'
    split at e'
    case isFalse => cases e'
    rename_i sti'
    obtain ⟨ρ1, eG, e'⟩ := Option.bind_eq_some_iff.mp e'
    obtain ⟨p, eA, e'⟩ := Option.bind_eq_some_iff.mp e'
    refine .inr ⟨J1.go i H' μ' sti (xD.trans x') s' sti' hlt, fun v H2 y => ?_⟩
    obtain ⟨x2, s2, rv⟩ := J1.yld i _ H' μ' sti v H2 (xD.trans x') s' sti' (List.getElem?_eq_getElem hlt) y
    refine hG v _ (wipe σ vs) (wipeD ρ vs) ρ1 H2 μ' sti.length _ (((((hr.up x1).up xD).up x').up x2).wipe vs) rv eG fun σ2 w2 rr => ⟨w2.trans (wipe_wipe vs), ?_⟩
    refine ⟨μ', ρ1, sti, p.1, p.2, rr, s2, eA, fun w μ4 H4 x4 s4 r4 => ?_⟩
    obtain ⟨pd, p2⟩ := p
    dsimp only at e' r4 s4 x4
    cases pd with
    | bl k =>
      cases r4
      refine ⟨k, rfl, ?_⟩
      dsimp only at e'
      split at e'
      · rename_i hk
        rw [if_pos hk]
        exact ⟨xs.length - (i + 1), by omega, μ4, p2, rfl, hlt, s4, (x'.trans x2).trans x4, e'⟩
      · rename_i hk
        rw [if_neg hk]
        cases e'
        exact q _ μ4 H4 (((x1.trans xD).trans x').trans (x2.trans x4)) s4 (.bl _)
    | _ => cases e'
  · have ei : i = xs.length := by omega
    subst ei
    rw [List.drop_length] at e'
    unfold genGo at e'
    split at e'
    · rename_i sti'
      cases e'
      exact .inl ⟨J1.stop _ H' μ' _ (xD.trans x') s' sti' rfl, q _ μ' H' ((x1.trans xD).trans x') s' (.bl _)⟩
    · cases e'
theorem ev_genB {b : Bool} {elt tg iter : Expr} {scope : Scope} {own : List (Str × Nat)} {gp p pos : Pos} {I : SI} {g : TG} {G : SG} {A : SE} {vs : List Nat} {k : Nat} (hc : X.calm = true) (hr : Room k X.A) (hN : X.N.Nodup) (hi : PIv X tg iter I) (ok : BlkOk X.N X.env.scope scope own) (hv : own.map (·.2) = vs) (hG : GOk X.K g G vs)
    (ge : Gx.genAt X.K X.env.code = true) (hb : Gx.BmOk X.base X.mg) (nc : ∀ y ∈ scope.names, y.2 ≠ .cell) (h0 : scope.names.lookup (".0" : Str) = some NameKind.local) (hco : scope.isCoroutine = false)
    (hg : Gx.Blk X scope fun Y => PG Y tg g) (he : Gx.Blk X scope fun Y => PEv Y elt A) (hm : X.mg (cond b "all" "any") = none) (hgl : Gl X (cond b "all" "any")) (hs : ∀ x, genFold iter X.env x = pure x := by intro _; rfl)
    (hst : starEach [.GeneratorExp elt [⟨tg, iter, [], 0⟩] scope gp] X.env = [(false, eval (.GeneratorExp elt [⟨tg, iter, [], 0⟩] scope gp) X.env)] := by rfl) :
    PEv X (.Call (.Name (cond b "all" "any") p) [.GeneratorExp elt [⟨tg, iter, [], 0⟩] scope gp] [] pos) (sGenB b I G A vs) := by
  subst hv
  obtain ⟨c, P, ec, cp⟩ := Gx.genAt_ok ge
  exact PE.imp (Gx.pe_genB (P := P) (te := tEv X.K A) hc hN hi ok nc h0 hco ⟨⟨c, ec, cp⟩, hb⟩ hr.depth hg he hm hgl hs hst) (tGenB_ok cp hG)
theorem ev_all {elt tg iter : Expr} {scope : Scope} {own : List (Str × Nat)} {gp p pos : Pos} {I : SI} {g : TG} {G : SG} {A : SE} {vs : List Nat} {k : Nat} (hc : X.calm = true) (hr : Room k X.A) (hN : X.N.Nodup) (hi : PIv X tg iter I) (ok : BlkOk X.N X.env.scope scope own) (hv : own.map (·.2) = vs) (hG : GOk X.K g G vs)
    (ge : Gx.genAt X.K X.env.code = true) (hb : Gx.BmOk X.base X.mg) (nc : ∀ y ∈ scope.names, y.2 ≠ .cell) (h0 : scope.names.lookup (".0" : Str) = some NameKind.local) (hco : scope.isCoroutine = false)
    (hg : Gx.Blk X scope fun Y => PG Y tg g) (he : Gx.Blk X scope fun Y => PEv Y elt A) (hm : X.mg "all" = none) (hgl : Gl X "all" := by rfl) (hs : ∀ x, genFold iter X.env x = pure x := by intro _; rfl)
    (hst : starEach [.GeneratorExp elt [⟨tg, iter, [], 0⟩] scope gp] X.env = [(false, eval (.GeneratorExp elt [⟨tg, iter, [], 0⟩] scope gp) X.env)] := by rfl) :
    PEv X (.Call (.Name "all" p) [.GeneratorExp elt [⟨tg, iter, [], 0⟩] scope gp] [] pos) (sGenB true I G A vs) := ev_genB (b := true) hc hr hN hi ok hv hG ge hb nc h0 hco hg he hm hgl hs hst
end
theorem Room.gen {k : Nat} {A B : Around} (r : Room (k + 1) A) (h1 : B.handled = none) (h2 : B.depth ≤ A.depth + 1) (h3 : B.units ≤ A.units + 8) (h4 : B.guards = A.guards) : Room k B :=
  ⟨h1, by have := r.dp; omega, by have := r.un; omega, h4.trans r.gd⟩
theorem fn_evG {P : Program} {w : World} {K : PySem.W.Frag} {mg : Str → Option Value} {base : Heap} {x qual : Str} {st : Stmt} {f : Addr} {fd : FuncData} {N ps : List Str} {k : Nat} {B : SS} (F : Fun K x qual st f fd) (S : FnScope N ps (defScope st))
    (h : ∀ (cdv : Value) (A : Around) (outer : List Env) (s : Shared) (H : Hp) (E : XK), fd.code = cdv → Room k (A.deeper (envOfC qual (defScope st) s.heap.objs.size f cdv)) → PSsv (cxOf CX0 P w K mg base N qual (defScope st) f cdv A outer s H E).nox (defBody st) B) :
    FnOk P w K mg base CX0 (k + 1) f fd ps (spOf K (defF N.length ps.length B)) := by
  obtain ⟨oc, od, kV, doc, pm, an, cdv, ct, osl, rfl, lk, hcd⟩ := F.ex
  refine fn_of lk hcd S (fun vs H Q E q => ?_) fun A outer s H vs Q E hr q => ?_
  · obtain ⟨μ, ds, st, d, st', r, s, e, _⟩ := q
    unfold defF at e
    split at e
    · rename_i hl; rw [r.length]; exact hl
    · cases e
  · obtain ⟨μ, ds, sto, d, st', r, s', e, q⟩ := q
    unfold defF at e
    split at e
    · obtain ⟨⟨p1, p2⟩, e1, e⟩ := Option.bind_eq_some_iff.mp e
      refine ⟨_, PSs.nox (h cdv A outer s H E rfl hr), μ, _, sto, p1, p2, repR_start r, s', e1, ?_⟩
      cases p1 with
      | nx ρ => cases e; exact fun σ' μ' H' x1 s1 _ => q _ μ' H' x1 s1 .non
      | rt d => cases e; exact q
      | bk ρ => cases e
      | ct ρ => cases e
    · cases e
theorem itOk_enumL {K : PySem.W.Frag} {H : Hp} {μ : Nat → Addr} {n h : Nat} {xs : List D} (hk : h < n) : ItOk K H μ n (Ite K (μ h)) (enumD 0 xs) (some (h, xs)) where
  go := fun i H' μ' st x s c hi => by
    rw [enumD_length] at hi
    obtain ⟨vs, q, r⟩ := s.sq (c h _ rfl)
    rw [x.eq h hk] at q
    have hl := r.length
    exact ⟨vs, vs[i], q, List.getElem?_eq_getElem (by omega)⟩
  yld := fun i d H' μ' st v H'' x s c e y => by
    obtain ⟨T, w, rfl, hT, rfl, y⟩ := y
    obtain ⟨z, e1, rfl⟩ := enumD_get _ _ _ _ e
    obtain ⟨vs, q, r⟩ := s.sq (c h _ rfl)
    rw [x.eq h hk] at q
    obtain ⟨v', e', rv⟩ := r.get e1
    have q2 := y vs q
    rw [e'] at q2
    cases q2
    rw [Nat.zero_add]
    exact ⟨Ext.new hT, s.new hT, .tup (SqT.of upd_same) (.cons (.int _) (.cons (rv.up (Ext.new hT)) .nil))⟩
  stop := fun i H' μ' st x s c hi => by
    obtain ⟨vs, q, r⟩ := s.sq (c h _ rfl)
    rw [x.eq h hk] at q
    exact ⟨vs, q, by rw [enumD_length] at hi; rw [r.length]; omega⟩
def iEnumA (R : SA) : SI := fun ρ st => (R ρ st).bind fun p => match p.1 with
  | [.tup xs] => some ((enumD 0 xs, none), p.2)
  | [.lst h] => (p.2[h]?).bind fun xs => some ((enumD 0 xs, some (h, xs)), p.2)
  | _ => none
theorem ei_enumA {X : Cx} {e : Expr} {R : SA} {p pos tpos : Pos} {elts : List Expr} {kk : Nat} (hm : X.mg "enumerate" = none) (ha : PAv X [e] R) (hg : Gl X "enumerate" := by rfl) (hs : starEach [e] X.env = [(false, eval e X.env)] := by rfl) : PIv X (.Tuple elts kk tpos) (.Call (.Name "enumerate" p) [e] [] pos) (iEnumA R) := by
  intro pins s σ H R' I h
  obtain ⟨μ, ρ, st, xs, chk, st', hr, so, e, c, q⟩ := h
  unfold iEnumA at e
  obtain ⟨⟨p1, p2⟩, e1, e⟩ := Option.bind_eq_some_iff.mp e
  dsimp only at e
  split at e
  · rename_i ys
    refine ei_enum (elts := elts) (kk := kk) (tpos := tpos) hm ha hg hs pins s σ H R' I ⟨μ, ρ, st, xs, chk, st', hr, so, ?_, c, q⟩
    unfold iEnum
    rw [e1]
    exact e
  · rename_i h
    obtain ⟨ys, e2, e⟩ := Option.bind_eq_some_iff.mp e
    cases e
    refine pi_enum (elts := elts) (kk := kk) (tpos := tpos) hg hm ha hs pins s σ H R' I ⟨μ, ρ, st, _, st', hr, so, e1, fun v μ1 H1 x1 s1 r1 => ?_⟩
    obtain ⟨w, rfl, r2⟩ := repL_one r1
    obtain ⟨rfl, hk⟩ := rep_lst r2
    obtain ⟨ws, qs, _⟩ := s1.sq e2
    exact ⟨_, _, rfl, qs, q _ μ1 H1 x1 s1 (itOk_enumL hk)⟩
  · cases e
end Ev
namespace Ev
open PySem L2
theorem get_new {st : Store} {xs : List D} : (st ++ [xs])[st.length]? = some xs := by simp
theorem kall_fresh {st s : Store} {k : Nat} {xs : List D} (h : Kall st s) (hk : st.length ≤ k) : Kall st (s.set k xs) := fun j => (h j).fresh hk
theorem p_mul {Q : D → Store → Prop} {st : Store} {i j : Int} (h : CMul i j) (q : Q (.int (i * j)) st) : W (fMul (.int i) (.int j) st) Q := .of (fMul_int h st) q
theorem fRepL_is {a : Nat} {xs : List D} {k : Int} {st : Store} (ha : st[a]? = some xs) (a0 : 0 < a) (k0 : 0 ≤ k) (k1 : k ≤ 1000) (hz : xs.length ≤ 1000) : fRepL (.lst a) (.int k) st = some (.lst st.length, st ++ [(List.replicate k.toNat xs).flatten]) := by
  have hz' : (List.replicate k.toNat xs).flatten.length ≤ 1000000 := by
    rw [List.length_flatten, List.map_replicate, List.sum_replicate_nat]
    calc k.toNat * xs.length ≤ 1000 * 1000 := Nat.mul_le_mul (by omega) hz
      _ ≤ 1000000 := by decide
  unfold fRepL
  dsimp only
  rw [if_pos ⟨a0, by omega, by omega⟩, ha]
  exact newL_is hz'
theorem p_repLA {Q : D → Store → Prop} {a : Nat} {xs : List D} {k : Int} {st : Store} (ha : st[a]? = some xs) (a0 : 0 < a) (k0 : 0 ≤ k) (k1 : k ≤ 1000) (hz : xs.length ≤ 1000) (q : Q (.lst st.length) (st ++ [(List.replicate k.toNat xs).flatten])) : W (fMulA (.lst a) (.int k) st) Q :=
  .of (by unfold fMulA fMul fOr; rw [fRepL_is ha a0 k0 k1 hz]; rfl) q
section
variable {ρ : Rho} {st st1 : Store} {I : SI} {G : SG} {T : SB} {A : SE} {vs : List Nat} {xs : List D} {chk : Option (Nat × List D)}
theorem genBW {b : Bool} {Q : D → Store → Prop} (P : Nat → Store → Prop)
    (turn : ∀ i x st, xs[i]? = some x → P i st → Still chk xs st ∧ ∃ ρ1, G x ρ = some ρ1 ∧ W (A ρ1 st) fun d s2 => ∃ k, d = .bl k ∧ (k = b → P (i + 1) s2) ∧ (k = !b → Q (.bl (!b)) s2))
    (fin : ∀ st, P xs.length st → Still chk xs st ∧ Q (.bl b) st) :
    ∀ (ys : List D) (i : Nat) (st : Store), xs.drop i = ys → i ≤ xs.length → P i st → W (genGo b chk xs G A ρ ys st) Q
  | [], i, st, hd, hi, p => by
    have ei : i = xs.length := by
      have := congrArg List.length hd
      rw [List.length_drop, List.length_nil] at this
      omega
    subst ei
    obtain ⟨f1, f2⟩ := fin st p
    unfold genGo
    rw [if_pos f1]
    exact w_some f2
  | x :: r, i, st, hd, hi, p => by
    have hlt : i < xs.length := by
      have := congrArg List.length hd
      rw [List.length_drop, List.length_cons] at this
      omega
    have hx : xs[i]? = some x := by
      rw [List.drop_eq_getElem_cons hlt] at hd
      rw [List.getElem?_eq_getElem hlt]
      exact congrArg some (List.cons.inj hd).1
    have hr : xs.drop (i + 1) = r := by
      rw [List.drop_eq_getElem_cons hlt] at hd
      exact (List.cons.inj hd).2
    obtain ⟨s, ρ1, e1, h⟩ := turn i x st hx p
    unfold genGo
    rw [if_pos s, e1]
    simp only [Option.bind_some]
    refine w_bind (h.mono fun d s2 ⟨k, ed, h1, h2⟩ => ?_)
    subst ed
    dsimp only
    by_cases hk : k = b
    · rw [if_pos hk]
      exact genBW P turn fin r (i + 1) _ hr hlt (h1 hk)
    · rw [if_neg hk]
      exact w_some (h2 (by cases k <;> cases b <;> simp_all))
end
end Ev
namespace Ev
open PySem L2
theorem p_repr {Q : D → Store → Prop} {st : Store} {d : D} {x : Str} (hx : ∀ st, fRepr [d] st = some (.str x, st)) (q : Q (.str x) st) : W (fRepr [d] st) Q := .of (hx st) q
end Ev
namespace Ev
open PySem L2
def natD (i : Nat) : D := .int (i : Int)
theorem rng_map : ∀ (n : Nat) (lo : Int), rngD lo n = (List.range n).map fun (i : Nat) => D.int (lo + (i : Int))
  | 0, lo => rfl
  | n + 1, lo => by
    unfold rngD
    rw [rng_map n (lo + 1), List.range_succ_eq_map, List.map_cons, List.map_map]
    congr 1
    · simp
    · apply List.map_congr_left
      intro i _
      show D.int (lo + 1 + (i : Int)) = D.int (lo + ((i + 1 : Nat) : Int))
      congr 1; omega
theorem rng_nat (n : Nat) : rngD 0 n = (List.range n).map natD := by
  rw [rng_map]
  apply List.map_congr_left
  intro i _
  show D.int (0 + (i : Int)) = D.int (i : Int)
  congr 1; omega
theorem enum_map {α : Type} (emb : α → D) : ∀ (l : List α) (k : Nat), enumD k (l.map emb) = (l.zipIdx k).map fun p => D.tup [.int (p.2 : Int), emb p.1]
  | [], k => rfl
  | a :: l, k => by
    show D.tup [.int ((k : Nat) : Int), emb a] :: enumD (k + 1) (l.map emb) = _
    rw [enum_map emb l (k + 1)]; rfl
abbrev It1 := List D × Option (Nat × List D)
noncomputable def forRun (p : It1) (G : SG) (B : SS) (ρ : Rho) (st : Store) : Option (Fl × Store) := forGo p.2 p.1 G B p.1 ρ st
theorem w_forN {I : SI} {G : SG} {B : SS} {ρ : Rho} {st : Store} {Q : Fl → Store → Prop} (h : W (I ρ st) fun p s => W (forRun p G B ρ s) Q) : W (kFor I G B ρ st) Q := w_bind h
open Classical in
noncomputable def lcRun (p : It1) (G : SG) (T : SB) (A : SE) (vs : List Nat) (ρ : Rho) (st : Store) : Option (D × Store) := if Still p.2 p.1 st then (lcGo p.2 p.1 G T A st.length (wipeD ρ vs) p.1 (st ++ [[]])).bind fun st' => some (.lst st.length, st') else none
theorem w_lcN {I : SI} {G : SG} {T : SB} {A : SE} {vs : List Nat} {ρ : Rho} {st : Store} {Q : D → Store → Prop} (h : W (I ρ st) fun p s => W (lcRun p G T A vs ρ s) Q) : W (sLc I G T A vs ρ st) Q := w_bind h
def IseqQ (Q : It1 → Store → Prop) : D → Store → Prop := fun d s => match d with | .tup xs => Q (xs, none) s | .lst k => ∃ xs, s[k]? = some xs ∧ Q (xs, some (k, xs)) s | _ => False
theorem iseq_t {Q : It1 → Store → Prop} {xs : List D} {s : Store} (h : Q (xs, none) s) : IseqQ Q (.tup xs) s := h
theorem iseq_l {Q : It1 → Store → Prop} {k : Nat} {xs : List D} {s : Store} (e : s[k]? = some xs) (h : Q (xs, some (k, xs)) s) : IseqQ Q (.lst k) s := ⟨xs, e, h⟩
theorem w_iseqN {A : SE} {ρ : Rho} {st : Store} {Q : It1 → Store → Prop} (h : W (A ρ st) (IseqQ Q)) : W (iSeq A ρ st) Q := w_bind (h.mono fun d s h => by
  cases d with
  | tup xs => exact w_some h
  | lst k =>
    obtain ⟨xs, e, q⟩ := h
    show W ((s[k]?).bind _) Q
    rw [e]; exact w_some q
  | non => exact h.elim
  | bl b => exact h.elim
  | int i => exact h.elim
  | str x => exact h.elim)
def RngQ (Q : It1 → Store → Prop) : List D → Store → Prop := fun ds s => ∃ j : Int, ds = [.int j] ∧ (-1000000 ≤ j ∧ j ≤ 1000000) ∧ Q ((List.range j.toNat).map natD, none) s
theorem rng_is {Q : It1 → Store → Prop} {j : Int} {s : Store} (b : -1000000 ≤ j ∧ j ≤ 1000000) (h : Q ((List.range j.toNat).map natD, none) s) : RngQ Q [.int j] s := ⟨j, rfl, b, h⟩
theorem w_rngN {R : SA} {ρ : Rho} {st : Store} {Q : It1 → Store → Prop} (h : W (R ρ st) (RngQ Q)) : W (iRange R ρ st) Q := by
  obtain ⟨ds, s, e, j, rfl, b, q⟩ := h
  rw [← rng_nat] at q
  exact ⟨_, s, iRange_is e b.1 b.2, q⟩
def Rng2Q (Q : It1 → Store → Prop) : List D → Store → Prop := fun ds s => ∃ i j : Int, ds = [.int i, .int j] ∧ ((-1000000 ≤ i ∧ i ≤ 1000000) ∧ -1000000 ≤ j ∧ j ≤ 1000000) ∧ Q ((List.range (j - i).toNat).map (fun (k : Nat) => D.int (i + (k : Int))), none) s
theorem rng2_is {Q : It1 → Store → Prop} {i j : Int} {s : Store} (b : (-1000000 ≤ i ∧ i ≤ 1000000) ∧ -1000000 ≤ j ∧ j ≤ 1000000) (h : Q ((List.range (j - i).toNat).map (fun (k : Nat) => D.int (i + (k : Int))), none) s) : Rng2Q Q [.int i, .int j] s := ⟨i, j, rfl, b, h⟩
theorem w_rng2N {R : SA} {ρ : Rho} {st : Store} {Q : It1 → Store → Prop} (h : W (R ρ st) (Rng2Q Q)) : W (iRange2 R ρ st) Q := by
  obtain ⟨ds, s, e, i, j, rfl, b, q⟩ := h
  rw [← rng_map] at q
  exact ⟨_, s, iRange2_ok e b, q⟩
def EnumQ (Q : It1 → Store → Prop) : List D → Store → Prop := fun ds s => match ds with | [.tup xs] => Q (enumD 0 xs, none) s | [.lst k] => ∃ xs, s[k]? = some xs ∧ Q (enumD 0 xs, some (k, xs)) s | _ => False
theorem enum_t {Q : It1 → Store → Prop} {xs : List D} {s : Store} (h : Q (enumD 0 xs, none) s) : EnumQ Q [.tup xs] s := h
theorem enum_l {Q : It1 → Store → Prop} {k : Nat} {xs : List D} {s : Store} (e : s[k]? = some xs) (h : Q (enumD 0 xs, some (k, xs)) s) : EnumQ Q [.lst k] s := ⟨xs, e, h⟩
theorem w_enumN {R : SA} {ρ : Rho} {st : Store} {Q : It1 → Store → Prop} (h : W (R ρ st) (EnumQ Q)) : W (iEnumA R ρ st) Q := w_bind (h.mono fun ds s h => by
  unfold EnumQ at h
  split at h
  · exact w_some h
  · obtain ⟨xs, e, q⟩ := h
    show W ((s[_]?).bind _) Q
    rw [e]; exact w_some q
  · exact h.elim)
section
variable {α : Type} {l : List α} {emb : α → D} {chk : Option (Nat × List D)} {ρ : Rho} {st : Store} {G : SG} {B : SS} {T : SB} {A : SE} {vs : List Nat}
theorem Still.of {h : Nat} {xs ys : List D} {s : Store} (e : s[h]? = some xs) : Still (some (h, xs)) ys s := fun k zs hk => by cases hk; exact e
theorem Still.none {ys : List D} {s : Store} : Still none ys s := fun _ _ h => by cases h
theorem forT {Q : Fl → Store → Prop} (P : Nat → Rho → Store → Prop) (h0 : P 0 ρ st)
    (turn : ∀ (i : Nat) a ρ st, l[i]? = some a → P i ρ st → Still chk (l.map emb) st ∧ ∃ ρ1, G (emb a) ρ = some ρ1 ∧ W (B ρ1 st) (TurnQ (P (i + 1)) Q)) (fin : ∀ ρ st, P l.length ρ st → Still chk (l.map emb) st ∧ Q (.nx ρ) st) : W (forRun (l.map emb, chk) G B ρ st) Q := by
  unfold forRun
  refine forW (all := l.map emb) P (fun i x ρ st hx p => ?_) (fun ρ st p => ?_) _ 0 ρ st rfl (Nat.zero_le _) h0
  · rw [List.getElem?_map] at hx
    obtain ⟨a, ha, rfl⟩ := Option.map_eq_some_iff.mp hx
    exact turn i a ρ st ha p
  · rw [List.length_map] at p
    exact fin ρ st p
theorem lcT {Q : D → Store → Prop} (t : α → Bool) (f : α → D) (hs : Still chk (l.map emb) st) (hl : l.length ≤ 100000)
    (step : ∀ a ∈ l, ∃ ρ1, G (emb a) (wipeD ρ vs) = some ρ1 ∧ ∀ s, Kall st s → W (T ρ1 s) fun b s' => b = t a ∧ Kall s s' ∧ (t a = true → W (A ρ1 s') fun d s2 => d = f a ∧ Kall s' s2))
    (q : ∀ s, s[st.length]? = some ((l.filter t).map f) → Kall st s → Q (.lst st.length) s) : W (lcRun (l.map emb, chk) G T A vs ρ st) Q := by
  unfold lcRun
  rw [if_pos hs]
  obtain ⟨st', e1, q⟩ := lcW (chk := chk) (all := l.map emb) (G := G) (T := T) (A := A) (k := st.length) (ρ := wipeD ρ vs) (Q := fun _ s => Q (.lst st.length) s) (fun i acc s => acc = ((l.take i).filter t).map f ∧ Kall st s) (by
    rintro i x acc s hx ⟨rfl, K⟩ he
    rw [List.getElem?_map] at hx
    obtain ⟨a, ha, rfl⟩ := Option.map_eq_some_iff.mp hx
    obtain ⟨ρ1, g1, g2⟩ := step a (List.mem_of_getElem? ha)
    have hi : i < l.length := (List.getElem?_eq_some_iff.mp ha).1
    refine ⟨still_of hs K, ρ1, g1, (g2 s K).mono fun b s' ⟨eb, K', h⟩ => ⟨fun hb => ?_, fun hb => ?_⟩⟩
    · subst eb
      refine (h hb).mono fun d s2 ⟨ed, K2⟩ => ⟨(K'.trans K2).get he, ?_, ?_, kall_fresh ((K.trans K').trans K2) (Nat.le_refl _)⟩
      · have : ((l.take i).filter t).length ≤ (l.take i).length := List.length_filter_le ..
        rw [List.length_take] at this
        rw [List.length_map]; omega
      · rw [List.take_succ, ha, List.filter_append]; simp [hb, ed]
    · subst eb
      refine ⟨K'.get he, ?_, K.trans K'⟩
      rw [List.take_succ, ha, List.filter_append]; simp [hb]) (by
    rintro acc s ⟨rfl, K⟩ he
    rw [List.length_map, List.take_length] at he
    exact ⟨still_of hs K, q s he K⟩) (l.map emb) 0 [] (st ++ [[]]) rfl (Nat.zero_le _) ⟨rfl, Kall.push⟩ (by simp)
  exact ⟨_, st', by simp only [e1, Option.bind_some], q⟩
theorem lcTM {Q : D → Store → Prop} (f : α → D) (hs : Still chk (l.map emb) st) (hl : l.length ≤ 100000)
    (step : ∀ a ∈ l, ∃ ρ1, G (emb a) (wipeD ρ vs) = some ρ1 ∧ ∀ s, Kall st s → W (A ρ1 s) fun d s2 => d = f a ∧ Kall s s2)
    (q : ∀ s, s[st.length]? = some (l.map f) → Kall st s → Q (.lst st.length) s) : W (lcRun (l.map emb, chk) G bYes A vs ρ st) Q := by
  refine lcT (fun _ => true) f hs hl (fun a ha => ?_) fun s e K => q s (by rw [e]; congr 2; exact List.filter_eq_self.mpr fun _ _ => rfl) K
  obtain ⟨ρ1, g1, g2⟩ := step a ha
  exact ⟨ρ1, g1, fun s K => w_yes ⟨rfl, Kall.refl, fun _ => g2 s K⟩⟩
theorem lcD {h : Nat} {Q : D → Store → Prop} (J : Store → Prop) (R : α → D → Prop) (hs : Still chk (l.map emb) st) (hl : l.length ≤ 100000) (hh : h < st.length) (hc : ∀ k ys, chk = some (k, ys) → k ≠ h) (h0 : J st) (jk : ∀ s s', J s → s'[h]? = s[h]? → J s')
    (step : ∀ a ∈ l, ∃ ρ1, G (emb a) (wipeD ρ vs) = some ρ1 ∧ ∀ s, Kp h st s → J s → W (A ρ1 s) fun d s2 => R a d ∧ Kp h s s2 ∧ J s2)
    (q : ∀ s ds, s[st.length]? = some ds → ds.length = l.length → (∀ (i : Nat) a d, l[i]? = some a → ds[i]? = some d → R a d) → Kp h st s → J s → Q (.lst st.length) s) : W (lcRun (l.map emb, chk) G bYes A vs ρ st) Q := by
  have stl : ∀ s, Kp h st s → Still chk (l.map emb) s := fun s K k ys e => K.get (hs k ys e) (hc k ys e)
  unfold lcRun
  rw [if_pos hs]
  obtain ⟨st', e1, q⟩ := lcW (chk := chk) (all := l.map emb) (G := G) (T := bYes) (A := A) (k := st.length) (ρ := wipeD ρ vs) (Q := fun _ s => Q (.lst st.length) s) (fun i acc s => acc.length = i ∧ (∀ (j : Nat) a d, l[j]? = some a → acc[j]? = some d → R a d) ∧ Kp h st s ∧ J s) (by
    rintro i x acc s hx ⟨la, ra, K, j⟩ he
    rw [List.getElem?_map] at hx
    obtain ⟨a, ha, rfl⟩ := Option.map_eq_some_iff.mp hx
    obtain ⟨ρ1, g1, g2⟩ := step a (List.mem_of_getElem? ha)
    have hi : i < l.length := (List.getElem?_eq_some_iff.mp ha).1
    refine ⟨stl s K, ρ1, g1, w_yes ⟨fun _ => ?_, fun z => by cases z⟩⟩
    refine (g2 s K j).mono fun d s2 ⟨rd, K2, j2⟩ => ⟨K2.get he (by omega), by omega, ⟨by simp [la], fun j' a' d' e1 e2 => ?_, (K.trans K2).fresh (Nat.le_refl _), jk _ _ j2 (List.getElem?_set_ne (by omega))⟩⟩
    by_cases z : j' < acc.length
    · rw [List.getElem?_append_left z] at e2
      exact ra j' a' d' e1 e2
    · have zz : j' = acc.length := by
        have := (List.getElem?_eq_some_iff.mp e2).1
        simp at this; omega
      subst zz
      rw [List.getElem?_append_right (Nat.le_refl _), Nat.sub_self] at e2
      rw [la, ha] at e1
      cases e1
      cases e2
      exact rd) (by
    rintro acc s ⟨la, ra, K, j⟩ he
    rw [List.length_map] at la
    exact ⟨stl s K, q s acc he la ra K j⟩) (l.map emb) 0 [] (st ++ [[]]) rfl (Nat.zero_le _) ⟨rfl, fun _ _ _ _ e => by simp at e, Kp.push, jk _ _ h0 (List.getElem?_append_left hh)⟩ (by simp)
  exact ⟨_, st', by simp only [e1, Option.bind_some], q⟩
end
theorem Kall.pos {a b : Store} (K : Kall a b) (h : 0 < a.length) : 0 < b.length := Nat.lt_of_lt_of_le h (K 0).le
theorem Kall.kp {a b : Store} (K : Kall a b) {h : Nat} : Kp h a b := K h
theorem Kp.pos {a b : Store} {h : Nat} (K : Kp h a b) (z : 0 < a.length) : 0 < b.length := Nat.lt_of_lt_of_le z K.le
theorem lt_of_get {s : Store} {k : Nat} {xs : List D} (e : s[k]? = some xs) : k < s.length := (List.getElem?_eq_some_iff.mp e).1
theorem flat_int (i : Int) : flat (.int i) = some (.int i) := rfl
theorem mapO_flat_ints (ns : List Int) : mapO flat (ns.map D.int) = some (ns.map V.int) := by
  induction ns with
  | nil => rfl
  | cons n r ih => unfold mapO; simp only [List.map_cons, flat_int, Option.bind_some, ih]
end Ev
namespace Ev
open PySem L2
def t0 : Nat → D → Bool
  | _, .int _ => true
  | _, .str x => PyData.strOk x
  | k + 1, .tup xs => xs.all (t0 k)
  | _, _ => false
def py0 : Nat → D → PyData
  | _, .int i => .int i
  | _, .str x => .str x
  | k + 1, .tup xs => .tuple (xs.map (py0 k))
  | _, _ => .none
theorem mapO_py {f : D → Option PyData} {g : D → PyData} : ∀ (xs : List D), (∀ x ∈ xs, f x = some (g x)) → mapO f xs = some (xs.map g)
  | [], _ => rfl
  | x :: r, h => by
    unfold mapO
    rw [h x List.mem_cons_self, Option.bind_some, mapO_py r fun y hy => h y (List.mem_cons_of_mem _ hy)]
    rfl
theorem toPy_t0 {st : Store} : ∀ (k m : Nat) (d : D), t0 k d = true → k < m → toPy m st d = some (py0 k d)
  | k, 0, _, _, h => by omega
  | 0, m + 1, .int i, _, _ => rfl
  | k + 1, m + 1, .int i, _, _ => rfl
  | 0, m + 1, .str i, _, _ => rfl
  | k + 1, m + 1, .str i, _, _ => rfl
  | 0, _ + 1, .non, h, _ => by cases h
  | 0, _ + 1, .bl _, h, _ => by cases h
  | 0, _ + 1, .tup _, h, _ => by cases h
  | 0, _ + 1, .lst _, h, _ => by cases h
  | _ + 1, _ + 1, .non, h, _ => by cases h
  | _ + 1, _ + 1, .bl _, h, _ => by cases h
  | _ + 1, _ + 1, .lst _, h, _ => by cases h
  | k + 1, m + 1, .tup xs, h, hm => by
    have h : xs.all (t0 k) = true := h
    rw [List.all_eq_true] at h
    show (mapO (toPy m st) xs).map PyData.tuple = _
    rw [mapO_py xs fun x hx => toPy_t0 k m x (h x hx) (by omega)]
    rfl
theorem lay_all : ∀ (ps : List PyData), (∀ p ∈ ps, p.canLay0 = true) → PyData.canLayAll0 ps = true
  | [], _ => by simp [PyData.canLayAll0]
  | p :: r, h => by
    simp only [PyData.canLayAll0, Bool.and_eq_true]
    exact ⟨h p List.mem_cons_self, lay_all r fun q hq => h q (List.mem_cons_of_mem _ hq)⟩
theorem depth_all {k : Nat} : ∀ (ps : List PyData), (∀ p ∈ ps, p.depth ≤ k) → PyData.depthAll ps ≤ k
  | [], _ => Nat.zero_le _
  | p :: r, h => by
    show max p.depth (PyData.depthAll r) ≤ k
    have := h p List.mem_cons_self
    have := depth_all r fun q hq => h q (List.mem_cons_of_mem _ hq)
    omega
theorem t0_lay : ∀ (k : Nat) (d : D), t0 k d = true → (py0 k d).canLay0 = true ∧ (py0 k d).depth ≤ k
  | 0, .int i, _ => ⟨rfl, Nat.le_refl _⟩
  | k + 1, .int i, _ => ⟨rfl, Nat.zero_le _⟩
  | 0, .str i, h => ⟨h, Nat.le_refl _⟩
  | k + 1, .str i, h => ⟨h, Nat.zero_le _⟩
  | 0, .non, h => by cases h
  | 0, .bl _, h => by cases h
  | 0, .tup _, h => by cases h
  | 0, .lst _, h => by cases h
  | _ + 1, .non, h => by cases h
  | _ + 1, .bl _, h => by cases h
  | _ + 1, .lst _, h => by cases h
  | k + 1, .tup xs, h => by
    have h : xs.all (t0 k) = true := h
    rw [List.all_eq_true] at h
    have l : PyData.canLayAll0 (xs.map (py0 k)) = true := lay_all _ fun p hp => by
      obtain ⟨x, hx, rfl⟩ := List.mem_map.mp hp
      exact (t0_lay k x (h x hx)).1
    have d := depth_all (k := k) (xs.map (py0 k)) fun p hp => by
      obtain ⟨x, hx, rfl⟩ := List.mem_map.mp hp
      exact (t0_lay k x (h x hx)).2
    refine ⟨?_, ?_⟩
    · show PyData.canLay0 (.tuple _) = true
      simp only [PyData.canLay0]; exact l
    · show PyData.depthAll (xs.map (py0 k)) + 1 ≤ k + 1
      omega
theorem eqvAll_iff {k : Nat} (ih : ∀ a b, t0 k a = true → t0 k b = true → (PyData.eqv (py0 k a) (py0 k b) = true ↔ a = b)) : ∀ (xs ys : List D), (∀ x ∈ xs, t0 k x = true) → (∀ y ∈ ys, t0 k y = true) → (PyData.eqvAll (xs.map (py0 k)) (ys.map (py0 k)) = true ↔ xs = ys)
  | [], [], _, _ => by simp [PyData.eqvAll]
  | [], _ :: _, _, _ => by simp [PyData.eqvAll]
  | _ :: _, [], _, _ => by simp [PyData.eqvAll]
  | x :: xs, y :: ys, hx, hy => by
    simp only [List.map_cons, PyData.eqvAll, Bool.and_eq_true, List.cons.injEq]
    rw [ih x y (hx x List.mem_cons_self) (hy y List.mem_cons_self), eqvAll_iff ih xs ys (fun z hz => hx z (List.mem_cons_of_mem _ hz)) fun z hz => hy z (List.mem_cons_of_mem _ hz)]
theorem eqv_t0 : ∀ (k : Nat) (a b : D), t0 k a = true → t0 k b = true → (PyData.eqv (py0 k a) (py0 k b) = true ↔ a = b) := by
  intro k
  induction k with
  | zero =>
    intro a b ha hb
    cases a with
    | int i => cases b with
      | int j => simp [py0, PyData.eqv]
      | str y => simp [py0, PyData.eqv]
      | _ => cases hb
    | str x => cases b with
      | int j => simp [py0, PyData.eqv]
      | str y => simp [py0, PyData.eqv]
      | _ => cases hb
    | _ => cases ha
  | succ k ih =>
    intro a b ha hb
    cases a with
    | int i => cases b with
      | int j => simp [py0, PyData.eqv]
      | str y => simp [py0, PyData.eqv]
      | tup ys => simp [py0, PyData.eqv]
      | _ => cases hb
    | str x => cases b with
      | int j => simp [py0, PyData.eqv]
      | str y => simp [py0, PyData.eqv]
      | tup ys => simp [py0, PyData.eqv]
      | _ => cases hb
    | tup xs => cases b with
      | int j => simp [py0, PyData.eqv]
      | str y => simp [py0, PyData.eqv]
      | tup ys =>
        have ha : xs.all (t0 k) = true := ha
        have hb : ys.all (t0 k) = true := hb
        rw [List.all_eq_true] at ha hb
        simp only [py0, PyData.eqv, D.tup.injEq]
        exact eqvAll_iff ih xs ys ha hb
      | _ => cases hb
    | _ => cases ha
theorem shaped_t0 {k : Nat} {d : D} (h : t0 k d = true) (hk : k ≤ 60) : SeqAt.shaped (py0 k d) = true := by
  obtain ⟨a, b⟩ := t0_lay k d h
  unfold SeqAt.shaped
  rw [a, Bool.true_and]
  exact decide_eq_true (by omega)
theorem fEqD_t0 {neg : Bool} {k : Nat} {a b : D} {st : Store} (ha : t0 k a = true) (hb : t0 k b = true) (hk : k ≤ 60) : ∃ r, (r = true ↔ a = b) ∧ fEqD neg a b st = some (.bl (if neg then !r else r), st) := by
  refine ⟨_, eqv_t0 k a b ha hb, ?_⟩
  unfold fEqD
  rw [toPy_t0 k 70 a ha (by omega), toPy_t0 k 70 b hb (by omega)]
  simp only [Option.bind_some]
  rw [if_pos ⟨shaped_t0 ha hk, shaped_t0 hb hk⟩]
theorem fEqL_t0 {neg : Bool} {k x y : Nat} {xs ys : List D} {st : Store} (ex : st[x]? = some xs) (ey : st[y]? = some ys) (ha : ∀ d ∈ xs, t0 k d = true) (hb : ∀ d ∈ ys, t0 k d = true) (hk : k ≤ 60) : ∃ r, (r = true ↔ xs = ys) ∧ fEqD neg (.lst x) (.lst y) st = some (.bl (if neg then !r else r), st) := by
  have py : ∀ (x : Nat) (xs : List D), st[x]? = some xs → (∀ d ∈ xs, t0 k d = true) → toPy 70 st (.lst x) = some (.list (xs.map (py0 k))) := fun x xs e h => by
    show ((st[x]?).bind fun xs => (mapO (toPy 69 st) xs).map PyData.list) = _
    rw [e, Option.bind_some, mapO_py xs fun d hd => toPy_t0 k 69 d (h d hd) (by omega)]
    rfl
  have sh : ∀ (xs : List D), (∀ d ∈ xs, t0 k d = true) → SeqAt.shaped (.list (xs.map (py0 k))) = true := fun xs h => by
    have l : PyData.canLayAll0 (xs.map (py0 k)) = true := lay_all _ fun p hp => by
      obtain ⟨x, hx, rfl⟩ := List.mem_map.mp hp
      exact (t0_lay k x (h x hx)).1
    have d := depth_all (k := k) (xs.map (py0 k)) fun p hp => by
      obtain ⟨x, hx, rfl⟩ := List.mem_map.mp hp
      exact (t0_lay k x (h x hx)).2
    unfold SeqAt.shaped
    simp only [PyData.canLay0, l, Bool.true_and]
    refine decide_eq_true ?_
    show PyData.depthAll (xs.map (py0 k)) + 1 ≤ 64
    omega
  refine ⟨PyData.eqv (.list (xs.map (py0 k))) (.list (ys.map (py0 k))), ?_, ?_⟩
  · simp only [PyData.eqv]
    exact eqvAll_iff (eqv_t0 k) xs ys ha hb
  unfold fEqD
  rw [py x xs ex ha, py y ys ey hb]
  simp only [Option.bind_some]
  rw [if_pos ⟨sh xs ha, sh ys hb⟩]
section
variable {Q : D → Store → Prop} {st : Store} {k : Nat}
theorem p_eqD {xs ys : List D} (ha : t0 k (.tup xs) = true) (hb : t0 k (.tup ys) = true) (hk : k ≤ 60) (q : ∀ r, (r = true ↔ xs = ys) → Q (.bl r) st) : W (fEq (.tup xs) (.tup ys) st) Q := by
  obtain ⟨r, e, h⟩ := fEqD_t0 (neg := false) (st := st) ha hb hk
  exact .of (by unfold fEq fOr; rw [h]; rfl) (q r (by rw [e, D.tup.injEq]))
theorem p_neD {xs ys : List D} (ha : t0 k (.tup xs) = true) (hb : t0 k (.tup ys) = true) (hk : k ≤ 60) (q : ∀ r, (r = true ↔ xs = ys) → Q (.bl (!r)) st) : W (fNe (.tup xs) (.tup ys) st) Q := by
  obtain ⟨r, e, h⟩ := fEqD_t0 (neg := true) (st := st) ha hb hk
  exact .of (by unfold fNe fOr; rw [h]; rfl) (q r (by rw [e, D.tup.injEq]))
theorem p_eqL {x y : Nat} {xs ys : List D} (ex : st[x]? = some xs) (ey : st[y]? = some ys) (ha : ∀ d ∈ xs, t0 k d = true) (hb : ∀ d ∈ ys, t0 k d = true) (hk : k ≤ 60) (q : ∀ r, (r = true ↔ xs = ys) → Q (.bl r) st) : W (fEq (.lst x) (.lst y) st) Q := by
  obtain ⟨r, e, h⟩ := fEqL_t0 (neg := false) ex ey ha hb hk
  exact .of (by unfold fEq fOr; rw [h]; rfl) (q r e)
theorem p_neL {x y : Nat} {xs ys : List D} (ex : st[x]? = some xs) (ey : st[y]? = some ys) (ha : ∀ d ∈ xs, t0 k d = true) (hb : ∀ d ∈ ys, t0 k d = true) (hk : k ≤ 60) (q : ∀ r, (r = true ↔ xs = ys) → Q (.bl (!r)) st) : W (fNe (.lst x) (.lst y) st) Q := by
  obtain ⟨r, e, h⟩ := fEqL_t0 (neg := true) ex ey ha hb hk
  exact .of (by unfold fNe fOr; rw [h]; rfl) (q r e)
end
theorem t0_ints {k : Nat} {ns : List Int} : ∀ d ∈ ns.map D.int, t0 k d = true := fun d hd => by
  obtain ⟨n, _, rfl⟩ := List.mem_map.mp hd
  cases k <;> rfl
theorem inV_int (i : Int) (ns : List Int) : inV (.int i) (ns.map V.int) = decide (i ∈ ns) := by
  unfold inV
  rw [Bool.eq_iff_iff, List.any_map, List.any_eq_true, decide_eq_true_eq]
  constructor
  · rintro ⟨x, hx, e⟩
    have : x = i := by simpa [eqV] using e
    rw [← this]; exact hx
  · intro h
    exact ⟨i, h, by simp [eqV]⟩
section
variable {Q : D → Store → Prop} {st : Store} {i : Int} {ns : List Int}
theorem p_inT (q : Q (.bl (decide (i ∈ ns))) st) : W (fIn false (.int i) (.tup (ns.map D.int)) st) Q := p_in (ys := ns.map D.int) rfl rfl (mapO_flat_ints ns) (by rw [inV_int]; exact q)
theorem p_niT (q : Q (.bl (!decide (i ∈ ns))) st) : W (fIn true (.int i) (.tup (ns.map D.int)) st) Q := p_in (ys := ns.map D.int) rfl rfl (mapO_flat_ints ns) (by rw [inV_int]; exact q)
theorem p_inL {k : Nat} (e : st[k]? = some (ns.map D.int)) (q : Q (.bl (decide (i ∈ ns))) st) : W (fIn false (.int i) (.lst k) st) Q := p_in (ys := ns.map D.int) rfl e (mapO_flat_ints ns) (by rw [inV_int]; exact q)
theorem p_niL {k : Nat} (e : st[k]? = some (ns.map D.int)) (q : Q (.bl (!decide (i ∈ ns))) st) : W (fIn true (.int i) (.lst k) st) Q := p_in (ys := ns.map D.int) rfl e (mapO_flat_ints ns) (by rw [inV_int]; exact q)
end
def AsgTQ (is : List Nat) (ρ : Rho) (Q : Fl → Store → Prop) : D → Store → Prop := fun d s => ∃ ds ρ', d = .tup ds ∧ setAll is ds ρ = some ρ' ∧ Q (.nx ρ') s
theorem asgT_is {is : List Nat} {ρ ρ' : Rho} {Q : Fl → Store → Prop} {ds : List D} {s : Store} (e : setAll is ds ρ = some ρ') (q : Q (.nx ρ') s) : AsgTQ is ρ Q (.tup ds) s := ⟨ds, ρ', rfl, e, q⟩
theorem w_asgN {is : List Nat} {A : SE} {ρ : Rho} {st : Store} {Q : Fl → Store → Prop} (h : W (A ρ st) (AsgTQ is ρ Q)) : W (kAsg A (gT is) ρ st) Q := w_asgT h
def KpQ (h : Nat) (st : Store) : Store → Prop := fun s => Kp h st s
end Ev
namespace Ev
open PySem L2
section
variable {α : Type} {l : List α} {emb : α → D} {chk : Option (Nat × List D)} {ρ : Rho} {st : Store} {G : SG} {T : SB} {A : SE} {vs : List Nat}
theorem lcI {Q : D → Store → Prop} (P : Nat → List D → Store → Prop) (hs : Still chk (l.map emb) st) (h0 : P 0 [] (st ++ [[]]))
    (turn : ∀ (i : Nat) a acc s, l[i]? = some a → P i acc s → s[st.length]? = some acc → Still chk (l.map emb) s ∧ ∃ ρ1, G (emb a) (wipeD ρ vs) = some ρ1 ∧ W (T ρ1 s) fun b s' =>
      (b = true → W (A ρ1 s') fun d s2 => s2[st.length]? = some acc ∧ acc.length < 1000000 ∧ P (i + 1) (acc ++ [d]) (s2.set st.length (acc ++ [d]))) ∧ (b = false → s'[st.length]? = some acc ∧ P (i + 1) acc s'))
    (fin : ∀ acc s, P l.length acc s → s[st.length]? = some acc → Still chk (l.map emb) s ∧ Q (.lst st.length) s) : W (lcRun (l.map emb, chk) G T A vs ρ st) Q := by
  unfold lcRun
  rw [if_pos hs]
  obtain ⟨st', e1, q⟩ := lcW (chk := chk) (all := l.map emb) (G := G) (T := T) (A := A) (k := st.length) (ρ := wipeD ρ vs) (Q := fun _ s => Q (.lst st.length) s) P (by
    intro i x acc s hx p he
    rw [List.getElem?_map] at hx
    obtain ⟨a, ha, rfl⟩ := Option.map_eq_some_iff.mp hx
    exact turn i a acc s ha p he) (by
    intro acc s p he
    rw [List.length_map] at p
    exact fin acc s p he) (l.map emb) 0 [] (st ++ [[]]) rfl (Nat.zero_le _) h0 (by simp)
  exact ⟨_, st', by simp only [e1, Option.bind_some], q⟩
end
theorem atI_list {α : Type} {l : List α} {emb : α → D} {i : Nat} {a : α} (h : l[i]? = some a) : atI (l.map emb) (i : Int) = some (emb a) := atI_nat (by rw [List.getElem?_map, h]; rfl)
theorem w_forE {α : Type} {l : List α} {emb : α → D} {chk : Option (Nat × List D)} {ρ : Rho} {st : Store} {G : SG} {B : SS} {Q : Fl → Store → Prop} (P : Nat → Rho → Store → Prop) (h0 : P 0 ρ st)
    (turn : ∀ (i : Nat) a ρ s, l[i]? = some a → P i ρ s → Still chk (enumD 0 (l.map emb)) s ∧ ∃ ρ1, G (.tup [.int (i : Int), emb a]) ρ = some ρ1 ∧ W (B ρ1 s) (TurnQ (P (i + 1)) Q)) (fin : ∀ ρ s, P l.length ρ s → Still chk (enumD 0 (l.map emb)) s ∧ Q (.nx ρ) s) : W (forRun (enumD 0 (l.map emb), chk) G B ρ st) Q := by
  rw [enum_map] at turn fin ⊢
  refine forT P h0 (fun i p ρ s hp h => ?_) (fun ρ s h => ?_)
  · rw [List.getElem?_zipIdx] at hp
    obtain ⟨a, ha, rfl⟩ := Option.map_eq_some_iff.mp hp
    have := turn i a ρ s ha h
    simpa using this
  · rw [List.length_zipIdx] at h
    exact fin ρ s h
end Ev
namespace Ev
open PySem PySem.Spec L2
open AutoSeq1 (wpAny_loadPart')
def SqK (k : Bool) (h : Heap) (l : Addr) (xs : Array Value) : Prop := match k with | true => h.IsTuple l xs | false => h.IsList l xs
def ItK (k : Bool) (h : Heap) (it l : Addr) (n : Nat) : Prop := match k with | true => h.IsTupleIter it l n | false => h.IsListIter it l n
def ItO (k : Bool) (l : Addr) : Obj := match k with | true => { cls := .type "tuple_iterator", data := .fields #[.ref l, .int 0 0] } | false => { cls := .type "list_iterator", data := .fields #[.ref l, .int 0 0] }
theorem SqK.on {k : Bool} {h g : Heap} {l : Addr} {xs : Array Value} (z : SqK k h l xs) (m : ∀ o, h.get? l = some o → g.get? l = some o) : SqK k g l xs := by
  cases k with
  | true => obtain ⟨o, e, r⟩ := z; exact ⟨o, m o e, r⟩
  | false => obtain ⟨o, e, r⟩ := z; exact ⟨o, m o e, r⟩
theorem ItK.on {k : Bool} {h g : Heap} {it l : Addr} {n : Nat} (z : ItK k h it l n) (m : ∀ o, h.get? it = some o → g.get? it = some o) : ItK k g it l n := by
  cases k with
  | true => obtain ⟨o, e, r⟩ := z; exact ⟨o, m o e, r⟩
  | false => obtain ⟨o, e, r⟩ := z; exact ⟨o, m o e, r⟩
theorem ItK.lt {k : Bool} {h : Heap} {it l : Addr} {n : Nat} (z : ItK k h it l n) : it < h.objs.size := by
  cases k with
  | true => obtain ⟨o, e, r⟩ := z; exact Heap.lt_size e
  | false => obtain ⟨o, e, r⟩ := z; exact Heap.lt_size e
theorem SqK.lt {k : Bool} {h : Heap} {l : Addr} {xs : Array Value} (z : SqK k h l xs) : l < h.objs.size := by
  cases k with
  | true => obtain ⟨o, e, r⟩ := z; exact Heap.lt_size e
  | false => obtain ⟨o, e, r⟩ := z; exact Heap.lt_size e
theorem ItK.obj {k : Bool} {h : Heap} {it l : Addr} {n : Nat} (z : ItK k h it l n) : ∃ o, h.get? it = some o ∧ ∃ fs, o.data = .fields fs := by
  cases k with
  | true => obtain ⟨o, e, _, d⟩ := z; exact ⟨o, e, _, d⟩
  | false => obtain ⟨o, e, _, d⟩ := z; exact ⟨o, e, _, d⟩
section
variable {prog : Program} {w : World} {A : Around} {E : Value → Shared → Prop} {s : Shared}
theorem nextK {k : Bool} {it l : Addr} {n : Nat} {xs : Array Value} {x : Value} {Q : Value → Shared → Prop} (z : ItK k s.heap it l n) (y : SqK k s.heap l xs) (hx : xs[n]? = some x)
    (q : ∀ g, ItK k g it l (n + 1) → Heap.SameBut it s.heap g → Q x { s with heap := g }) : wpAny (model prog w) A (Builtin.SmallTypes.nextOf (.ref it)) Q E s := by
  cases k with
  | true => exact drawT z y hx q
  | false => exact wpAny_nextOf_list_item z y hx q
theorem endK {k : Bool} {it l : Addr} {n : Nat} {xs : Array Value} {Q : Value → Shared → Prop} (hh : A.handled = none) (z : ItK k s.heap it l n) (y : SqK k s.heap l xs) (hx : xs[n]? = none)
    (q : ∀ g e, Heap.ExtBut it s.heap g → (∃ o, g.get? e = some o ∧ o.cls = .type "StopIteration") → E (.ref e) { s with heap := g }) : wpAny (model prog w) A (Builtin.SmallTypes.nextOf (.ref it)) Q E s := by
  cases k with
  | true => exact drawT_end hh z y hx q
  | false => exact wpAny_nextOf_list_end hh z y hx q
theorem iterK {k : Bool} {l : Addr} {xs : Array Value} {Q : Value → Shared → Prop} (y : SqK k s.heap l xs) (q : Q (.ref s.heap.objs.size) { s with heap := s.heap.push (ItO k l) }) : wpAny (model prog w) A (pyIter (.ref l)) Q E s := by
  cases k with
  | true => exact wpAny_pyIter_tuple y q
  | false => exact wpAny_pyIter_list y q
variable {z ti to i1 i2 l1 l2 : Addr} {k1 k2 : Bool} {n1 n2 : Nat} {xs ys : Array Value} {x y a b : Value}
theorem zipK_item {Q : Value → Shared → Prop} (D : ZipApart z ti to i1 i2 l1 l2) (oz : IsZip s.heap z ti to .none) (oi : IsPair s.heap ti (.ref i1) (.ref i2)) (oo : IsPair s.heap to a b)
    (w1 : ItK k1 s.heap i1 l1 n1) (w2 : ItK k2 s.heap i2 l2 n2) (y1 : SqK k1 s.heap l1 xs) (y2 : SqK k2 s.heap l2 ys) (ex : xs[n1]? = some x) (ey : ys[n2]? = some y)
    (q : ∀ g, IsZip g z ti to (rawInt s.heap.objs.size) → IsPair g to x y → ItK k1 g i1 l1 (n1 + 1) → ItK k2 g i2 l2 (n2 + 1) → IsPair g s.heap.objs.size x y →
      (∀ c o, c ≠ z → c ≠ to → c ≠ i1 → c ≠ i2 → s.heap.get? c = some o → g.get? c = some o) → Q (.ref s.heap.objs.size) { s with heap := g }) :
    wpAny (model prog w) A (Builtin.«zip.__next__» ⟨[.ref z], []⟩) (fun fin s' => ∃ v, fin = .done (.ret v) ∧ Q v s') E s := by
  refine wpAny_bind (m := field (.ref z) 2) (wpAny_field oz rfl (x := .bool false) rfl (wpAny_bind (m := field (.ref z) 3) (wpAny_field oz rfl (x := .ref ti) rfl (wpAny_bind (wpAny_seqItems oi rfl ?_)))))
  refine wpAny_bind (m := Builtin.SmallTypes.ownedTupleIsFree (.ref z)) (by
    unfold Builtin.SmallTypes.ownedTupleIsFree
    refine wpAny_bind (wpAny_field oz rfl (x := .none) rfl (wpAny_pure ?_))
    simp only [if_true]
    refine wpAny_bind (wpAny_rule (wpAny_bind (wpAny_field oz rfl (x := .ref to) rfl (wpAny_bind (wpAny_setField_rec oz (by simp) fun g1 oz1 b1 => ?_)))))
    replace oz1 : IsZip g1 z ti to .ellipsis := oz1
    refine wpAny_bind ?_
    simp only [List.zipIdx_cons, List.zipIdx_nil, List.forIn_cons, List.forIn_nil]
    refine wpAny_bind (wpAny_bind (wpAny_onRaise (wpAny_bind (m := Builtin.SmallTypes.nextOf (.ref i1)) (nextK (w1.on fun o e => b1.extBut _ _ D.i1z e) (y1.on fun o e => b1.extBut _ _ D.l1z e) ex fun g2 w12 b2 => wpAny_pure ?_))))
    have oo2 : IsPair g2 to a b := b2.extBut _ _ D.TOi1 (b1.extBut _ _ D.TOz oo)
    refine wpAny_bind (wpAny_seqItems oo2 rfl (wpAny_bind (wpAny_updateSeq_pair oo2 fun g3 oo3 b3 => ?_)))
    replace oo3 : IsPair g3 to x b := oo3
    refine wpAny_bind (wpAny_letGo (wpAny_pure ?_))
    refine wpAny_bind (wpAny_bind (wpAny_onRaise (wpAny_bind (m := Builtin.SmallTypes.nextOf (.ref i2)) (nextK (w2.on fun o e => b3.extBut _ _ D.TOi2.symm (b2.extBut _ _ D.i12.symm (b1.extBut _ _ D.i2z e))) (y2.on fun o e => b3.extBut _ _ D.l2TO (b2.extBut _ _ D.l2i1 (b1.extBut _ _ D.l2z e))) ey fun g4 w24 b4 => wpAny_pure ?_))))
    have oo4 : IsPair g4 to x b := b4.extBut _ _ D.TOi2 oo3
    refine wpAny_bind (wpAny_seqItems oo4 rfl (wpAny_bind (wpAny_updateSeq_pair oo4 fun g5 oo5 b5 => ?_)))
    replace oo5 : IsPair g5 to x y := oo5
    refine wpAny_bind (wpAny_letGo (wpAny_pure (wpAny_pure ?_)))
    refine wpAny_bind (wpAny_seqItems oo5 rfl (wpAny_bind (wpAny_newTuple ?_)))
    have sz : g5.objs.size = s.heap.objs.size := by rw [b5.1, b4.1, b3.1, b2.1, b1.1]
    have oz5 : IsZip g5 z ti to .ellipsis := b5.extBut _ _ D.TOz.symm (b4.extBut _ _ D.i2z.symm (b3.extBut _ _ D.TOz.symm (b2.extBut _ _ D.i1z.symm oz1)))
    have kp : ∀ c o, c ≠ z → c ≠ to → c ≠ i1 → c ≠ i2 → s.heap.get? c = some o → g5.get? c = some o := fun c o c1 c2 c3 c4 e => b5.extBut _ _ c2 (b4.extBut _ _ c4 (b3.extBut _ _ c2 (b2.extBut _ _ c3 (b1.extBut _ _ c1 e))))
    have w15 : ItK k1 g5 i1 l1 (n1 + 1) := w12.on fun o e => b5.extBut _ _ D.TOi1.symm (b4.extBut _ _ D.i12 (b3.extBut _ _ D.TOi1.symm e))
    have w25 : ItK k2 g5 i2 l2 (n2 + 1) := w24.on fun o e => b5.extBut _ _ D.TOi2.symm e
    have zl : z < g5.objs.size := Heap.lt_size oz5
    refine wpAny_bind (m := Builtin.SmallTypes.ownedTupleHandOut (.ref z) (.ref g5.objs.size)) ?_
    unfold Builtin.SmallTypes.ownedTupleHandOut
    have oz6 : IsZip (g5.push { cls := .type "tuple", data := .seq #[x, y] }) z ti to .ellipsis := Heap.get?_push_of_some _ oz5
    refine wpAny_bind (wpAny_setField_rec oz6 (by simp) fun g7 oz7 b7 => ?_)
    replace oz7 : IsZip g7 z ti to (rawInt g5.objs.size) := oz7
    refine wpAny_setField_rec oz7 (by simp) fun g8 oz8 b8 => ?_
    replace oz8 : IsZip g8 z ti to (rawInt g5.objs.size) := oz8
    have up : ∀ c o, c ≠ z → g5.get? c = some o → g8.get? c = some o := fun c o c1 e => b8.extBut _ _ c1 (b7.extBut _ _ c1 (Heap.get?_push_of_some _ e))
    have t8 : IsPair g8 g5.objs.size x y := b8.extBut _ _ (Nat.ne_of_gt zl) (b7.extBut _ _ (Nat.ne_of_gt zl) (Heap.get?_push_size _ rfl))
    rw [sz] at oz8 t8
    refine wpAny_pure ⟨_, rfl, ?_⟩
    show Q (.ref g5.objs.size) _
    rw [sz]
    exact q g8 oz8 (up _ _ D.TOz oo5) (w15.on fun o e => up _ o D.i1z e) (w25.on fun o e => up _ o D.i2z e) t8 fun c o c1 c2 c3 c4 e => up c o c1 (kp c o c1 c2 c3 c4 e))
theorem zipK_end {Q : Fin → Shared → Prop} (hh : A.handled = none) (D : ZipApart z ti to i1 i2 l1 l2) (oz : IsZip s.heap z ti to .none) (oi : IsPair s.heap ti (.ref i1) (.ref i2)) (oo : IsPair s.heap to a b)
    (w1 : ItK k1 s.heap i1 l1 n1) (w2 : ItK k2 s.heap i2 l2 n2) (y1 : SqK k1 s.heap l1 xs) (y2 : SqK k2 s.heap l2 ys) (en : xs[n1]? = none ∨ ys[n2]? = none)
    (q : ∀ g e, (∀ c o, c ≠ z → c ≠ to → c ≠ i1 → c ≠ i2 → s.heap.get? c = some o → g.get? c = some o) → (∃ o, g.get? e = some o ∧ o.cls = .type "StopIteration") → E (.ref e) { s with heap := g }) :
    wpAny (model prog w) A (Builtin.«zip.__next__» ⟨[.ref z], []⟩) Q E s := by
  refine wpAny_bind (m := field (.ref z) 2) (wpAny_field oz rfl (x := .bool false) rfl (wpAny_bind (m := field (.ref z) 3) (wpAny_field oz rfl (x := .ref ti) rfl (wpAny_bind (wpAny_seqItems oi rfl ?_)))))
  refine wpAny_bind (m := Builtin.SmallTypes.ownedTupleIsFree (.ref z)) (by
    unfold Builtin.SmallTypes.ownedTupleIsFree
    refine wpAny_bind (wpAny_field oz rfl (x := .none) rfl (wpAny_pure ?_))
    simp only [if_true]
    refine wpAny_bind (wpAny_rule (wpAny_bind (wpAny_field oz rfl (x := .ref to) rfl (wpAny_bind (wpAny_setField_rec oz (by simp) fun g1 oz1 b1 => ?_)))))
    replace oz1 : IsZip g1 z ti to .ellipsis := oz1
    refine wpAny_bind ?_
    simp only [List.zipIdx_cons, List.zipIdx_nil, List.forIn_cons, List.forIn_nil]
    refine wpAny_bind (wpAny_bind (wpAny_onRaise (wpAny_bind (m := Builtin.SmallTypes.nextOf (.ref i1)) ?_)))
    cases ex : xs[n1]? with
    | none =>
      refine endK hh (w1.on fun o e => b1.extBut _ _ D.i1z e) (y1.on fun o e => b1.extBut _ _ D.l1z e) ex fun g2 e b2 he => ?_
      obtain ⟨oe, h1, h2⟩ := he
      have oz2 : IsZip g2 z ti to .ellipsis := b2 _ _ D.i1z.symm oz1
      have ne : e ≠ z := fun k => by subst k; rw [oz2] at h1; cases h1; simp at h2
      exact wpAny_setField_rec oz2 (by simp) fun g3 _ b3 => q g3 e (fun c o c1 _ c3 _ k => b3.extBut _ _ c1 (b2 _ _ c3 (b1.extBut _ _ c1 k))) ⟨oe, b3.extBut _ _ ne h1, h2⟩
    | some x =>
      have ey : ys[n2]? = none := en.elim (fun k => by rw [ex] at k; cases k) id
      refine nextK (w1.on fun o e => b1.extBut _ _ D.i1z e) (y1.on fun o e => b1.extBut _ _ D.l1z e) ex fun g2 w12 b2 => wpAny_pure ?_
      have oo2 : IsPair g2 to a b := b2.extBut _ _ D.TOi1 (b1.extBut _ _ D.TOz oo)
      refine wpAny_bind (wpAny_seqItems oo2 rfl (wpAny_bind (wpAny_updateSeq_pair oo2 fun g3 oo3 b3 => wpAny_bind (wpAny_letGo (wpAny_pure ?_)))))
      refine wpAny_bind (wpAny_bind (wpAny_onRaise (wpAny_bind (m := Builtin.SmallTypes.nextOf (.ref i2)) ?_)))
      refine endK hh (w2.on fun o e => b3.extBut _ _ D.TOi2.symm (b2.extBut _ _ D.i12.symm (b1.extBut _ _ D.i2z e))) (y2.on fun o e => b3.extBut _ _ D.l2TO (b2.extBut _ _ D.l2i1 (b1.extBut _ _ D.l2z e))) ey fun g4 e b4 he => ?_
      obtain ⟨oe, h1, h2⟩ := he
      have oz4 : IsZip g4 z ti to .ellipsis := b4 _ _ D.i2z.symm (b3.extBut _ _ D.TOz.symm (b2.extBut _ _ D.i1z.symm oz1))
      have ne : e ≠ z := fun k => by subst k; rw [oz4] at h1; cases h1; simp at h2
      exact wpAny_setField_rec oz4 (by simp) fun g5 _ b5 => q g5 e (fun c o c1 c2 c3 c4 k => b5.extBut _ _ c1 (b4 _ _ c4 (b3.extBut _ _ c2 (b2.extBut _ _ c3 (b1.extBut _ _ c1 k))))) ⟨oe, b5.extBut _ _ ne h1, h2⟩)
theorem pyNextK {Q : Option Value → Shared → Prop} (D : ZipApart z ti to i1 i2 l1 l2) (oz : IsZip s.heap z ti to .none) (oi : IsPair s.heap ti (.ref i1) (.ref i2)) (oo : IsPair s.heap to a b)
    (w1 : ItK k1 s.heap i1 l1 n1) (w2 : ItK k2 s.heap i2 l2 n2) (y1 : SqK k1 s.heap l1 xs) (y2 : SqK k2 s.heap l2 ys) (ex : xs[n1]? = some x) (ey : ys[n2]? = some y)
    (q : ∀ g, IsZip g z ti to (rawInt s.heap.objs.size) → IsPair g to x y → ItK k1 g i1 l1 (n1 + 1) → ItK k2 g i2 l2 (n2 + 1) → IsPair g s.heap.objs.size x y →
      (∀ c o, c ≠ z → c ≠ to → c ≠ i1 → c ≠ i2 → s.heap.get? c = some o → g.get? c = some o) → Q (some (.ref s.heap.objs.size)) { s with heap := g }) : wpAny (model prog w) A (pyNext (.ref z)) Q E s := by
  have ty : s.TypeIs (.ref z) "zip" := ⟨_, oz, rfl⟩
  unfold pyNext
  exact wpAny_bind (wpAny_attempt (wpAny_callSpecial?_slot (name := Str.ofString "__next__") ty F.slot_zip_next (wpAny_call_entry F.slot_zip_next ty F.entry_zip_next (zipK_item D oz oi oo w1 w2 y1 y2 ex ey fun g a1 a2 a3 a4 a5 a6 => wpAny_pure (q g a1 a2 a3 a4 a5 a6)) (F.args_zip_next_1 _))))
theorem pyNextK_end {Q : Option Value → Shared → Prop} (hh : A.handled = none) (D : ZipApart z ti to i1 i2 l1 l2) (oz : IsZip s.heap z ti to .none) (oi : IsPair s.heap ti (.ref i1) (.ref i2)) (oo : IsPair s.heap to a b)
    (w1 : ItK k1 s.heap i1 l1 n1) (w2 : ItK k2 s.heap i2 l2 n2) (y1 : SqK k1 s.heap l1 xs) (y2 : SqK k2 s.heap l2 ys) (en : xs[n1]? = none ∨ ys[n2]? = none)
    (q : ∀ g, (∀ c o, c ≠ z → c ≠ to → c ≠ i1 → c ≠ i2 → s.heap.get? c = some o → g.get? c = some o) → Q none { s with heap := g }) : wpAny (model prog w) A (pyNext (.ref z)) Q E s := by
  have ty : s.TypeIs (.ref z) "zip" := ⟨_, oz, rfl⟩
  unfold pyNext
  refine wpAny_bind (wpAny_attempt (wpAny_callSpecial?_slot (name := Str.ofString "__next__") ty F.slot_zip_next (wpAny_call_entry F.slot_zip_next ty F.entry_zip_next (zipK_end hh D oz oi oo w1 w2 y1 y2 en fun g e kp he => ?_) (F.args_zip_next_1 _))))
  obtain ⟨o, h1, h2⟩ := he
  exact wpAny_bind (wpAny_isInstance (T := "StopIteration") (b := true) ⟨o, h1, h2⟩ isSubtype_stop (wpAny_pure (q _ kp)))
end
abbrev zH (k1 k2 : Bool) (h : Heap) (l1 l2 : Addr) : Heap := ((((h.push (ItO k1 l1)).push (ItO k2 l2)).push { cls := .type "tuple", data := .seq #[.ref h.objs.size, .ref (h.push (ItO k1 l1)).objs.size] }).push { cls := .type "tuple", data := .seq #[.none, .none] })
abbrev zO (k1 k2 : Bool) (h : Heap) (l1 l2 : Addr) : Obj := { cls := .type "zip", data := .fields #[.none, .bool false, .bool false, .ref ((h.push (ItO k1 l1)).push (ItO k2 l2)).objs.size, .ref (((h.push (ItO k1 l1)).push (ItO k2 l2)).push { cls := .type "tuple", data := .seq #[.ref h.objs.size, .ref (h.push (ItO k1 l1)).objs.size] }).objs.size] }
theorem zipK_new (k1 k2 : Bool) (l1 l2 : Addr) (xs ys : Array Value) :
    Meets (Builtin.«zip.__new__» ⟨[.type "zip", .ref l1, .ref l2], []⟩) (fun _ R s => SqK k1 s.heap l1 xs ∧ SqK k2 s.heap l2 ys ∧ R (.ok (.ret (.ref (zH k1 k2 s.heap l1 l2).objs.size))) { s with heap := (zH k1 k2 s.heap l1 l2).push (zO k1 k2 s.heap l1 l2) }) :=
  .of_wp fun prog w A R s h => by
    obtain ⟨s1, s2, s3, s4, s5⟩ := s
    obtain ⟨y1, y2, fin⟩ := h
    have sub := sub_zip
    have a1 : SqK k1 (Shared.heap ⟨s1, s2, s3, s4, s5⟩) l1 xs := y1
    have a2 : SqK k2 (Shared.heap ⟨s1.push (ItO k1 l1), s2, s3, s4, s5⟩) l2 ys := y2.on fun o e => Heap.get?_push_of_some _ e
    wp_walk using iterK a1, iterK a2
    exact ⟨_, rfl, fin⟩
end Ev
namespace Ev
open PySem PySem.Spec L2
section
variable {prog : Program} {w : World} {A : Around} {E : Value → Shared → Prop} {s : Shared}
theorem zipK_call {k1 k2 : Bool} {l1 l2 : Addr} {xs ys : Array Value} {Q : Value → Shared → Prop} (y1 : SqK k1 s.heap l1 xs) (y2 : SqK k2 s.heap l2 ys)
    (q : ∀ g, IsZip g (s.heap.objs.size + 4) (s.heap.objs.size + 2) (s.heap.objs.size + 3) .none → IsPair g (s.heap.objs.size + 2) (.ref s.heap.objs.size) (.ref (s.heap.objs.size + 1)) → IsPair g (s.heap.objs.size + 3) .none .none →
      ItK k1 g s.heap.objs.size l1 0 → ItK k2 g (s.heap.objs.size + 1) l2 0 → (∀ c o, s.heap.get? c = some o → g.get? c = some o) → Q (.ref (s.heap.objs.size + 4)) { s with heap := g }) :
    wpAny (model prog w) A (call (.type "zip") [.ref l1, .ref l2]) Q E s := by
  refine callType_new F.called_zip (by decide) (F.typeCall_zip_2 _ _) (F.newCall_zip_2 _ _) (fun o => F.args_object_init_3 o _ _) F.entry_zip_new (zipK_new k1 k2 l1 l2 xs ys) ⟨y1, y2, ?_⟩
  generalize hn : s.heap.objs.size = n at q ⊢
  have z1 : (s.heap.push (ItO k1 l1)).objs.size = n + 1 := by rw [Heap.size_push, hn]
  have z2 : ((s.heap.push (ItO k1 l1)).push (ItO k2 l2)).objs.size = n + 2 := by rw [Heap.size_push, z1]
  have e3 : zH k1 k2 s.heap l1 l2 = ((((s.heap.push (ItO k1 l1)).push (ItO k2 l2)).push { cls := .type "tuple", data := .seq #[.ref n, .ref (n + 1)] }).push { cls := .type "tuple", data := .seq #[.none, .none] }) := by unfold zH; rw [z1, hn]
  have z3 : (((s.heap.push (ItO k1 l1)).push (ItO k2 l2)).push { cls := .type "tuple", data := .seq #[.ref n, .ref (n + 1)] }).objs.size = n + 3 := by rw [Heap.size_push, z2]
  have z4 : (zH k1 k2 s.heap l1 l2).objs.size = n + 4 := by rw [e3, Heap.size_push, z3]
  have e4 : zO k1 k2 s.heap l1 l2 = { cls := .type "zip", data := .fields #[.none, .bool false, .bool false, .ref (n + 2), .ref (n + 3)] } := by
    unfold zO; rw [z2, z1, hn, z3]
  have p5 : ((zH k1 k2 s.heap l1 l2).push (zO k1 k2 s.heap l1 l2)).get? (n + 4) = some (zO k1 k2 s.heap l1 l2) := by have := Heap.get?_push_size (zH k1 k2 s.heap l1 l2) (o := zO k1 k2 s.heap l1 l2) rfl; rwa [z4] at this
  have k1' : ∀ (k : Bool) (l : Addr), (ItO k l).isFreed = false := fun k l => by cases k <;> rfl
  replace p5 := p5.trans (congrArg some e4)
  rw [z4]
  refine ⟨⟨_, p5, rfl⟩, q _ p5 ?_ ?_ ?_ ?_ ?_⟩
  · refine Heap.get?_push_of_some _ ?_
    rw [e3]
    refine Heap.get?_push_of_some _ ?_
    have := Heap.get?_push_size ((s.heap.push (ItO k1 l1)).push (ItO k2 l2)) (o := { cls := .type "tuple", data := .seq #[.ref n, .ref (n + 1)] }) rfl
    rwa [z2] at this
  · refine Heap.get?_push_of_some _ ?_
    rw [e3]
    have := Heap.get?_push_size (((s.heap.push (ItO k1 l1)).push (ItO k2 l2)).push { cls := .type "tuple", data := .seq #[.ref n, .ref (n + 1)] }) (o := { cls := .type "tuple", data := .seq #[.none, .none] }) rfl
    rwa [z3] at this
  · have g : ((zH k1 k2 s.heap l1 l2).push (zO k1 k2 s.heap l1 l2)).get? n = some (ItO k1 l1) := by
      refine Heap.get?_push_of_some _ (Heap.get?_push_of_some _ (Heap.get?_push_of_some _ (Heap.get?_push_of_some _ ?_)))
      have := Heap.get?_push_size s.heap (o := ItO k1 l1) (k1' k1 l1)
      rwa [hn] at this
    cases k1 with
    | true => exact ⟨_, g, rfl, rfl⟩
    | false => exact ⟨_, g, rfl, rfl⟩
  · have g : ((zH k1 k2 s.heap l1 l2).push (zO k1 k2 s.heap l1 l2)).get? (n + 1) = some (ItO k2 l2) := by
      refine Heap.get?_push_of_some _ (Heap.get?_push_of_some _ (Heap.get?_push_of_some _ ?_))
      have := Heap.get?_push_size (s.heap.push (ItO k1 l1)) (o := ItO k2 l2) (k1' k2 l2)
      rwa [z1] at this
    cases k2 with
    | true => exact ⟨_, g, rfl, rfl⟩
    | false => exact ⟨_, g, rfl, rfl⟩
  · exact fun c o e => Heap.get?_push_of_some _ (Heap.get?_push_of_some _ (Heap.get?_push_of_some _ (Heap.get?_push_of_some _ (Heap.get?_push_of_some _ e))))
end
def SqV (k : Bool) (K : PySem.W.Frag) (H : Hp) (a : Addr) (xs : List V) : Prop := match k with | true => SqT K H a xs | false => SqL K H a xs
theorem SqV.is {k : Bool} {X : Cx} {pins : List (Addr × Obj)} {σ : St} {H : Hp} {s : Shared} {a : Addr} {xs : List V} (I : Inv X pins σ H s) (h : SqV k X.K H a xs) : ∃ its : List Value, Vals xs its ∧ SqK k s.heap a its.toArray := by
  cases k with
  | true => obtain ⟨its, rv, p, _⟩ := I.tuple h; exact ⟨its, rv, p⟩
  | false => obtain ⟨its, rv, p, _⟩ := I.list h; exact ⟨its, rv, p.isList⟩
theorem SqV.inj {k : Bool} {X : Cx} {pins : List (Addr × Obj)} {σ : St} {H : Hp} {s : Shared} {a : Addr} {xs ys : List V} (I : Inv X pins σ H s) (h : SqV k X.K H a xs) (h' : SqV k X.K H a ys) : xs = ys := by
  cases k with
  | true => exact I.tuple_inj h h'
  | false => exact I.list_inj h h'
def ItzK (k1 k2 : Bool) (K : PySem.W.Frag) (a b : Addr) : It :=
  ⟨fun i H => ∃ (xs ys : List V) (x y : V), SqV k1 K H a xs ∧ SqV k2 K H b ys ∧ xs[i]? = some x ∧ ys[i]? = some y,
   fun i H v H' => ∃ T x y, v = .ref T ∧ H T = none ∧ H' = upd H T (.tup [x, y]) ∧ (∀ xs, SqV k1 K H a xs → xs[i]? = some x) ∧ ∀ ys, SqV k2 K H b ys → ys[i]? = some y,
   fun i H => ∃ xs ys : List V, SqV k1 K H a xs ∧ SqV k2 K H b ys ∧ (xs.length ≤ i ∨ ys.length ≤ i)⟩
theorem five {p : Addr → Prop} {z ti to i1 i2 c : Addr} (hc : c ∈ [z, ti, to, i1, i2]) (h1 : p z) (h2 : p ti) (h3 : p to) (h4 : p i1) (h5 : p i2) : p c := by
  simp only [List.mem_cons, List.not_mem_nil, or_false] at hc
  rcases hc with e | e | e | e | e <;> rw [e] <;> assumption
theorem turn_zipK {P : Program} {w : World} {K : PySem.W.Frag} {elts : List Expr} {kk : Nat} {tpos : Pos} {k1 k2 : Bool} {a b z ti to i1 i2 : Addr} (D : ZipApart z ti to i1 i2 a b) :
    Turn P w K (.Tuple elts kk tpos) (ItzK k1 k2 K a b) [z, ti, to, i1, i2] z (fun i h => IsZip h z ti to .none ∧ IsPair h ti (.ref i1) (.ref i2) ∧ (∃ x y, IsPair h to x y) ∧ ItK k1 h i1 a i ∧ ItK k2 h i2 b i) where
  mem := by simp
  obj := fun i h st c hc => by
    obtain ⟨oz, oi, ⟨x, y, oo⟩, w1, w2⟩ := st
    refine five (p := fun c => ∃ o, h.get? c = some o ∧ ∀ v, o.data ≠ .cell v) hc ⟨_, oz, fun v q => nomatch q⟩ ⟨_, oi, fun v q => nomatch q⟩ ⟨_, oo, fun v q => nomatch q⟩ ?_ ?_
    · obtain ⟨o, e, fs, d⟩ := w1.obj; exact ⟨o, e, fun v q => by rw [d] at q; cases q⟩
    · obtain ⟨o, e, fs, d⟩ := w2.obj; exact ⟨o, e, fun v q => by rw [d] at q; cases q⟩
  keep := fun i h h' st k => by
    obtain ⟨oz, oi, ⟨x, y, oo⟩, w1, w2⟩ := st
    exact ⟨k z (by simp) _ oz, k ti (by simp) _ oi, ⟨x, y, k to (by simp) _ oo⟩, w1.on fun o e => k i1 (by simp) o e, w2.on fun o e => k i2 (by simp) o e⟩
  item := by
    intro X hP hw hK hc i pins s σ H E I hf st hg
    subst hP hw hK
    obtain ⟨oz, oi, ⟨x0, y0, oo⟩, w1, w2⟩ := st
    obtain ⟨xs, ys, x, y, q1, q2, hx, hy⟩ := hg
    obtain ⟨its, rv, p1⟩ := q1.is I
    obtain ⟨its2, rv2, p2⟩ := q2.is I
    obtain ⟨u, hu, ru⟩ := rv.get hx
    obtain ⟨u2, hu2, ru2⟩ := rv2.get hy
    have zl : z < s.heap.objs.size := Heap.lt_size oz
    refine pyNextK D oz oi oo w1 w2 p1 p2 (x := u) (y := u2) (by simpa using hu) (by simpa using hu2) fun g a1 a2 a3 a4 a5 kp => ⟨_, rfl, wpAny_letOwnedTupleGo_zip (s := { s with heap := g }) a1 fun g2 z2 sb => ?_⟩
    have t2 : g2.get? s.heap.objs.size = some { cls := .type "tuple", data := .seq #[u, u2] } := (sb.2 _ (Nat.ne_of_gt zl)).trans a5
    have new : ObjOk X.prog X.w (upd H s.heap.objs.size (.tup [x, y])) g2 s.heap.objs.size (.tup [x, y]) := ⟨by show 2 ≤ sizeLine; decide, [u, u2], .cons ru (.cons ru2 .nil), ⟨_, t2, rfl, _, rfl⟩⟩
    have I1 : Inv X pins σ (upd H s.heap.objs.size (.tup [x, y])) { s with heap := g2 } :=
      I.turnedNew (t' := s.toks) (ch := [z, ti, to, i1, i2]) (fun c o nb e => (sb.2 c fun h => nb (by simp [h])).trans (kp c o (fun h => nb (by simp [h])) (fun h => nb (by simp [h])) (fun h => nb (by simp [h])) (fun h => nb (by simp [h])) e)) hf (Nat.le_refl _) new
    refine ⟨.ref s.heap.objs.size, _, I1, rfl, ⟨_, x, y, rfl, I.hok.fresh (Nat.le_refl _), rfl, fun l hl => by rw [hl.inj I q1]; exact hx, fun l hl => by rw [hl.inj I q2]; exact hy⟩, ⟨z2, (sb.2 _ D.TIz).trans (kp _ _ D.TIz D.TITO D.TIi1 D.TIi2 oi), ⟨u, u2, (sb.2 _ D.TOz).trans a2⟩, a3.on fun o e => (sb.2 _ D.i1z).trans e, a4.on fun o e => (sb.2 _ D.i2z).trans e⟩, fun c hcm => ?_⟩
    have lt : c < s.heap.objs.size := five (p := fun c => c < s.heap.objs.size) hcm zl (Heap.lt_size oi) (Heap.lt_size oo) w1.lt w2.lt
    rw [upd_ne (Nat.ne_of_lt lt)]
    exact (hf c hcm).1
  done := by
    intro X hP hw hK hc i pins s σ H E I hf st hg
    subst hP hw hK
    obtain ⟨oz, oi, ⟨x0, y0, oo⟩, w1, w2⟩ := st
    obtain ⟨xs, ys, q1, q2, en⟩ := hg
    obtain ⟨its, rv, p1⟩ := q1.is I
    obtain ⟨its2, rv2, p2⟩ := q2.is I
    have e1 := rv.length
    have e2 := rv2.length
    have he : its.toArray[i]? = none ∨ its2.toArray[i]? = none := en.elim (fun h => .inl (by simp; omega)) fun h => .inr (by simp; omega)
    exact pyNextK_end (I.ok.hd hc) D oz oi oo w1 w2 p1 p2 he fun g kp => ⟨rfl, I.turnedL (t' := s.toks) (ch := [z, ti, to, i1, i2]) (fun c o nb e => kp c o (fun h => nb (by simp [h])) (fun h => nb (by simp [h])) (fun h => nb (by simp [h])) (fun h => nb (by simp [h])) e) hf⟩
  self := fun A i s Q E st h => wpAny_pyIter_zip st.1 h
end Ev
namespace Ev
open PySem PySem.Spec L2
def iZipK (K : PySem.W.Frag) (ta : TA) : TI := fun σ H R => ta σ H fun vs H1 => ∃ k1 k2 a b xs ys, vs = [.ref a, .ref b] ∧ SqV k1 K H1 a xs ∧ SqV k2 K H1 b ys ∧ R (ItzK k1 k2 K a b) H1
theorem pi_zipK {X : Cx} {e e2 : Expr} {ta : TA} {p pos tpos : Pos} {elts : List Expr} {kk : Nat} (hg : Gl X "zip") (hm : X.mg "zip" = none) (ha : PA X [e, e2] ta) (hs : starEach [e, e2] X.env = (false, eval e X.env) :: starEach [e2] X.env) (hp : (backTo pos (starEach [e2] X.env)).any (·.1) = false) :
    PI X (.Tuple elts kk tpos) (.Call (.Name "zip" p) [e, e2] [] pos) (iZipK X.K ta) := by
  intro pins s σ H R I h
  refine PyProof.Rows.Call_ (ld_blt I hg hm L2.boot_zip5 (PyProof.Rows.callWith_type1 (thn (ha pos pins s σ H _ I h) fun us s1 ⟨vs, H1, I1, r1, q1⟩ => ?_) hs hp))
  obtain ⟨k1, k2, a, b, xs, ys, ex, v1, v2, q⟩ := q1
  subst ex
  obtain ⟨u, u2, rfl, ru, ru2⟩ := vals2 r1
  cases ru
  cases ru2
  obtain ⟨its, rv, p1⟩ := v1.is I1
  obtain ⟨its2, rv2, p2⟩ := v2.is I1
  refine zipK_call p1 p2 fun g a1 a2 a3 a4 a5 kp => wpAny_pyIter_zip a1 ?_
  refine ⟨s1.heap.objs.size + 4, [s1.heap.objs.size + 4, s1.heap.objs.size + 2, s1.heap.objs.size + 3, s1.heap.objs.size, s1.heap.objs.size + 1], _, _, H1, rfl, I1.kept (t' := s1.toks) kp, turn_zipK (PySem.W.ktu_apart s1.heap.objs.size a b p1.lt p2.lt), ⟨a1, a2, ⟨_, _, a3⟩, a4, a5⟩, fun c hc => ?_, q⟩
  have ge : s1.heap.objs.size ≤ c := five (p := fun c => s1.heap.objs.size ≤ c) hc (Nat.le_add_right _ _) (Nat.le_add_right _ _) (Nat.le_add_right _ _) (Nat.le_refl _) (Nat.le_add_right _ _)
  exact I1.fpOk ge (I1.hok.fresh ge)
def zipD (xs ys : List D) : List D := (xs.zip ys).map fun p => .tup [p.1, p.2]
theorem zipD_length (xs ys : List D) : (zipD xs ys).length = min xs.length ys.length := by unfold zipD; rw [List.length_map, List.length_zip]
theorem zipD_get {xs ys : List D} {i : Nat} {d : D} (h : (zipD xs ys)[i]? = some d) : ∃ x y, xs[i]? = some x ∧ ys[i]? = some y ∧ d = .tup [x, y] := by
  unfold zipD at h
  rw [List.getElem?_map] at h
  obtain ⟨p, hp, rfl⟩ := Option.map_eq_some_iff.mp h
  rw [List.getElem?_zip_eq_some] at hp
  exact ⟨p.1, p.2, hp.1, hp.2, rfl⟩
structure Src (K : PySem.W.Frag) (H0 : Hp) (μ0 : Nat → Addr) (n0 : Nat) (k : Bool) (a : Addr) (xs all : List D) (chk : Option (Nat × List D)) : Prop where
  is : ∀ H μ st, Ext K H0 μ0 n0 H μ st.length → StOk K H μ st → Still chk all st → ∃ vs, SqV k K H a vs ∧ RepL K H μ st.length vs xs
theorem src_tup {K : PySem.W.Frag} {H : Hp} {μ : Nat → Addr} {n : Nat} {a : Addr} {vs : List V} {xs all : List D} {chk : Option (Nat × List D)} (h : SqT K H a vs) (r : RepL K H μ n vs xs) : Src K H μ n true a xs all chk := ⟨fun H' μ' st x s c => ⟨vs, x.tup _ _ h, r.up x⟩⟩
theorem src_lst {K : PySem.W.Frag} {H : Hp} {μ : Nat → Addr} {n h : Nat} {xs all : List D} (hk : h < n) : Src K H μ n false (μ h) xs all (some (h, xs)) := ⟨fun H' μ' st x s c => by
  obtain ⟨vs, q, r⟩ := s.sq (c h _ rfl)
  rw [x.eq h hk] at q
  exact ⟨vs, q, r⟩⟩
theorem itOk_zip {K : PySem.W.Frag} {H : Hp} {μ : Nat → Addr} {n : Nat} {k1 k2 : Bool} {a b : Addr} {xs ys : List D} {chk : Option (Nat × List D)} (s1 : Src K H μ n k1 a xs (zipD xs ys) chk) (s2 : Src K H μ n k2 b ys (zipD xs ys) chk) : ItOk K H μ n (ItzK k1 k2 K a b) (zipD xs ys) chk where
  go := fun i H' μ' st x s c hi => by
    rw [zipD_length] at hi
    obtain ⟨us, q1, r1⟩ := s1.is H' μ' st x s c
    obtain ⟨vs, q2, r2⟩ := s2.is H' μ' st x s c
    have := r1.length
    have := r2.length
    exact ⟨us, vs, us[i], vs[i], q1, q2, List.getElem?_eq_getElem (by omega), List.getElem?_eq_getElem (by omega)⟩
  yld := fun i d H' μ' st v H'' x s c e y => by
    obtain ⟨T, u, w, rfl, hT, rfl, y1, y2⟩ := y
    obtain ⟨p, q, e1, e2, rfl⟩ := zipD_get e
    obtain ⟨us, q1, r1⟩ := s1.is H' μ' st x s c
    obtain ⟨vs, q2, r2⟩ := s2.is H' μ' st x s c
    obtain ⟨u', g1, ru⟩ := r1.get e1
    obtain ⟨w', g2, rw'⟩ := r2.get e2
    have z1 := y1 us q1
    have z2 := y2 vs q2
    rw [g1] at z1
    rw [g2] at z2
    cases z1
    cases z2
    exact ⟨Ext.new hT, s.new hT, .tup (SqT.of upd_same) (.cons (ru.up (Ext.new hT)) (.cons (rw'.up (Ext.new hT)) .nil))⟩
  stop := fun i H' μ' st x s c hi => by
    rw [zipD_length] at hi
    obtain ⟨us, q1, r1⟩ := s1.is H' μ' st x s c
    obtain ⟨vs, q2, r2⟩ := s2.is H' μ' st x s c
    have := r1.length
    have := r2.length
    exact ⟨us, vs, q1, q2, by omega⟩
def iZip2 (R : SA) : SI := fun ρ st => (R ρ st).bind fun p => match p.1 with
  | [.tup xs, .tup ys] => some ((zipD xs ys, none), p.2)
  | [.tup xs, .lst h] => (p.2[h]?).bind fun ys => some ((zipD xs ys, some (h, ys)), p.2)
  | [.lst h, .tup ys] => (p.2[h]?).bind fun xs => some ((zipD xs ys, some (h, xs)), p.2)
  | _ => none
theorem ei_zip2 {X : Cx} {e e2 : Expr} {R : SA} {p pos tpos : Pos} {elts : List Expr} {kk : Nat} (hm : X.mg "zip" = none) (ha : PAv X [e, e2] R) (hg : Gl X "zip" := by rfl) (hs : starEach [e, e2] X.env = (false, eval e X.env) :: starEach [e2] X.env := by rfl) (hp : (backTo pos (starEach [e2] X.env)).any (·.1) = false := by rfl) : PIv X (.Tuple elts kk tpos) (.Call (.Name "zip" p) [e, e2] [] pos) (iZip2 R) := by
  intro pins s σ H R' I h
  obtain ⟨μ, ρ, st, xs, chk, st', hr, so, e, c, q⟩ := h
  unfold iZip2 at e
  obtain ⟨⟨p1, p2⟩, e1, e⟩ := Option.bind_eq_some_iff.mp e
  dsimp only at e
  refine pi_zipK (elts := elts) (kk := kk) (tpos := tpos) hg hm ha hs hp pins s σ H R' I ⟨μ, ρ, st, p1, p2, hr, so, e1, fun vs μ1 H1 x1 s1 r1 => ?_⟩
  split at e
  · cases e
    obtain ⟨v, w, rfl, r2, r3⟩ := repL_two r1
    cases r2 with
    | tup t1 l1 =>
      cases r3 with
      | tup t2 l2 => exact ⟨true, true, _, _, _, _, rfl, t1, t2, q _ μ1 H1 x1 s1 (itOk_zip (src_tup t1 l1) (src_tup t2 l2))⟩
  · obtain ⟨ys, e2, e⟩ := Option.bind_eq_some_iff.mp e
    cases e
    obtain ⟨v, w, rfl, r2, r3⟩ := repL_two r1
    obtain ⟨rfl, hk⟩ := rep_lst r3
    obtain ⟨ws, qs, _⟩ := s1.sq e2
    cases r2 with
    | tup t1 l1 => exact ⟨true, false, _, _, _, _, rfl, t1, qs, q _ μ1 H1 x1 s1 (itOk_zip (src_tup t1 l1) (src_lst hk))⟩
  · obtain ⟨xs, e2, e⟩ := Option.bind_eq_some_iff.mp e
    cases e
    obtain ⟨v, w, rfl, r2, r3⟩ := repL_two r1
    obtain ⟨rfl, hk⟩ := rep_lst r2
    obtain ⟨ws, qs, _⟩ := s1.sq e2
    cases r3 with
    | tup t1 l1 => exact ⟨false, true, _, _, _, _, rfl, qs, t1, q _ μ1 H1 x1 s1 (itOk_zip (src_lst hk) (src_tup t1 l1))⟩
  · cases e
end Ev
namespace Ev
open PySem PySem.Spec L2
def kNever : SS := fun _ _ => none
def sNever : SE := fun _ _ => none
theorem es_never {X : Cx} {s : Stmt} : PSv X s kNever := by
  intro pins s σ H Q I h
  obtain ⟨_, _, _, _, _, _, _, e, _⟩ := h
  cases e
def sChain (f g : F2) (A B C : SE) : SE := fun ρ st => (A ρ st).bind fun p => (B ρ p.2).bind fun q => (f p.1 q.1 q.2).bind fun r => match r.1 with
  | .bl k => if k = true then (C ρ r.2).bind fun w => g q.1 w.1 w.2 else some (.bl false, r.2)
  | _ => none
theorem tEv_chain {X : Cx} {r r' : R2} {f g : F2} {A B C : SE} (hf : Prim2 X.K r f) (hg : Prim2 X.K r' g) (σ : St) (H : Hp) (Q : VK) (h : tEv X.K (sChain f g A B C) σ H Q) : tChain r r' (tEv X.K A) (tEv X.K B) (tEv X.K C) σ H Q := by
  obtain ⟨μ, ρ, st, d, st', hr, hs, e, q⟩ := h
  unfold sChain at e
  obtain ⟨p, e1, e⟩ := Option.bind_eq_some_iff.mp e
  obtain ⟨p2, e2, e⟩ := Option.bind_eq_some_iff.mp e
  obtain ⟨⟨p31, p32⟩, e3, e⟩ := Option.bind_eq_some_iff.mp e
  obtain ⟨k, rfl, e⟩ := bl_case e
  refine ⟨μ, ρ, st, p.1, p.2, hr, hs, e1, fun x μ1 H1 x1 s1 r1 => ?_⟩
  refine ⟨μ1, ρ, p.2, p2.1, p2.2, hr.up x1, s1, e2, fun y μ2 H2 x2 s2 r2 => ?_⟩
  refine hf H2 μ2 p2.2 x y p.1 p2.1 (.bl k) p32 _ s2 (r1.up x2) r2 e3 fun v μ3 H3 x3 s3 r3 => ?_
  cases r3
  refine ⟨k, rfl, ?_⟩
  cases k with
  | true =>
    rw [if_pos rfl] at e ⊢
    obtain ⟨p4, e4, e⟩ := Option.bind_eq_some_iff.mp e
    refine ⟨μ3, ρ, p32, p4.1, p4.2, hr.up ((x1.trans x2).trans x3), s3, e4, fun w μ4 H4 x4 s4 r4 => ?_⟩
    exact hg H4 μ4 p4.2 y w p2.1 p4.1 d st' Q s4 (r2.up (x3.trans x4)) r4 e fun v μ5 H5 x5 s5 r5 => q v μ5 H5 (((x1.trans x2).trans x3).trans (x4.trans x5)) s5 r5
  | false =>
    rw [if_neg Bool.false_ne_true] at e ⊢
    cases e
    exact q _ μ3 H3 ((x1.trans x2).trans x3) s3 (.bl false)
theorem ev_lele {X : Cx} {pos : Pos} {a b c : Expr} {A B C : SE} (ha : PEv X a A) (hb : PEv X b B) (hc : PEv X c C) (hm : lastMarks [.LtE, .LtE] [b, c] = false := by with_unfolding_all rfl) : PEv X (.Compare a [.LtE, .LtE] [b, c] pos) (sChain fLe fLe A B C) :=
  PE.imp (pe_chain op_le op_le ha hb hc hm) (tEv_chain (prim_I0 fun _ _ _ _ _ _ => .bl _) (prim_I0 fun _ _ _ _ _ _ => .bl _))
def blOf : D → Option Bool
  | .bl b => some b
  | _ => none
theorem bls_rep {K : PySem.W.Frag} {H : Hp} {μ : Nat → Addr} {n : Nat} : ∀ {xs : List D} {vs : List V} {bs : List Bool}, RepL K H μ n vs xs → mapO blOf xs = some bs → vs = bs.map V.bl
  | [], _, _, r, e => by cases r; cases e; rfl
  | d :: xs, _, _, r, e => by
    cases r with
    | cons r1 r2 =>
      unfold mapO at e
      obtain ⟨b, e1, e⟩ := Option.bind_eq_some_iff.mp e
      obtain ⟨bs, e2, e⟩ := Option.bind_eq_some_iff.mp e
      cases e
      rw [bls_rep r2 e2]
      cases r1 <;> first | (cases e1; rfl) | cases e1
def fQuant (all : Bool) : FS := fun ds st => match ds with
  | [.lst k] => (st[k]?).bind fun xs => (mapO blOf xs).bind fun bs => some (.bl (if all then bs.all id else bs.any id), st)
  | _ => none
theorem prim_all {K : PySem.W.Frag} : Prim K (rAll K) (fQuant true) := by
  intro H μ st vs ds d st' Q s r e q
  unfold fQuant at e
  split at e
  case h_2 => cases e
  obtain ⟨v, rfl, r1⟩ := repL_one r
  obtain ⟨rfl, hk⟩ := rep_lst r1
  obtain ⟨xs, e1, e⟩ := Option.bind_eq_some_iff.mp e
  obtain ⟨bs, e2, e⟩ := Option.bind_eq_some_iff.mp e
  cases e
  obtain ⟨ws, a, b⟩ := s.sq e1
  rw [bls_rep b e2] at a
  exact ⟨_, bs, rfl, a, q _ μ H Ext.refl s (.bl _)⟩
theorem ev_allL {X : Cx} {a : Expr} {R : SA} {p pos : Pos} (hc : X.calm = true) (hm : X.mg "all" = none) (ha : PAv X [a] R) (hg : Gl X "all" := by rfl) (he : starEach [a] X.env = [(false, eval a X.env)] := by rfl) : PEv X (.Call (.Name "all" p) [a] [] pos) (sCall (fQuant true) R) := ev_callB (cr_all hc) prim_all hm (by decide +kernel) ha hg (by decide) (by decide) he rfl
def rInD (K : PySem.W.Frag) (neg : Bool) : R2 := fun x y H Q => ∃ d c ds, Dp K H x d ∧ Dp K H y c ∧ (c = .list ds ∨ c = .tuple ds) ∧ SeqAt.shaped d = true ∧ SeqAt.shaped c = true ∧ Q (.bl (if neg then !ds.any fun z => PyData.eqv z d else ds.any fun z => PyData.eqv z d)) H
theorem op_inD {X : Cx} (hu : X.A.units + 65 < cLine) : OpR X (compareOp .In) (rInD X.K false) := by
  intro pins s σ H x y v u Q I rx ry h
  obtain ⟨d, c, ds, hd, hc, hk, sd, sc, q⟩ := h
  obtain ⟨as, r1⟩ := Dp.reads I d x v hd rx
  obtain ⟨bs, r2⟩ := Dp.reads I c y u hc ry
  rcases hk with rfl | rfl
  · exact SeqAt.in_list_reads r2 r1 (SeqAt.canLay_of_shaped sc) (SeqAt.canLay_of_shaped sd) (PyProof.Rows.room_in_shaped sd hu) ⟨.bl _, H, I, rfl, q⟩
  · exact SeqAt.in_tuple_reads r2 r1 (SeqAt.canLay_of_shaped sc) (SeqAt.canLay_of_shaped sd) (PyProof.Rows.room_in_shaped sd hu) ⟨.bl _, H, I, rfl, q⟩
theorem op_niD {X : Cx} (hu : X.A.units + 65 < cLine) : OpR X (compareOp .NotIn) (rInD X.K true) := by
  intro pins s σ H x y v u Q I rx ry h
  obtain ⟨d, c, ds, hd, hc, hk, sd, sc, q⟩ := h
  obtain ⟨as, r1⟩ := Dp.reads I d x v hd rx
  obtain ⟨bs, r2⟩ := Dp.reads I c y u hc ry
  rcases hk with rfl | rfl
  · exact SeqAt.notIn_list_reads r2 r1 (SeqAt.canLay_of_shaped sc) (SeqAt.canLay_of_shaped sd) (PyProof.Rows.room_in_shaped sd hu) ⟨.bl _, H, I, rfl, q⟩
  · exact SeqAt.notIn_tuple_reads r2 r1 (SeqAt.canLay_of_shaped sc) (SeqAt.canLay_of_shaped sd) (PyProof.Rows.room_in_shaped sd hu) ⟨.bl _, H, I, rfl, q⟩
def fInD (neg : Bool) : F2 := fun x y st => (toPy 70 st x).bind fun d => (toPy 70 st y).bind fun c => match c with
  | .list ds => if SeqAt.shaped d = true ∧ SeqAt.shaped (.list ds) = true then some (.bl (if neg then !ds.any fun z => PyData.eqv z d else ds.any fun z => PyData.eqv z d), st) else none
  | .tuple ds => if SeqAt.shaped d = true ∧ SeqAt.shaped (.tuple ds) = true then some (.bl (if neg then !ds.any fun z => PyData.eqv z d else ds.any fun z => PyData.eqv z d), st) else none
  | _ => none
theorem prim_inD {K : PySem.W.Frag} {neg : Bool} : Prim2 K (rInD K neg) (fInD neg) := by
  intro H μ st x y dx dy d st' Q s rx ry e q
  unfold fInD at e
  obtain ⟨v, e1, e⟩ := Option.bind_eq_some_iff.mp e
  obtain ⟨w, e2, e⟩ := Option.bind_eq_some_iff.mp e
  split at e
  · rename_i ds
    split at e
    · rename_i hs
      cases e
      exact ⟨v, _, ds, toPy_ok s _ _ _ _ rx e1, toPy_ok s _ _ _ _ ry e2, .inl rfl, hs.1, hs.2, q _ μ H Ext.refl s (.bl _)⟩
    · cases e
  · rename_i ds
    split at e
    · rename_i hs
      cases e
      exact ⟨v, _, ds, toPy_ok s _ _ _ _ rx e1, toPy_ok s _ _ _ _ ry e2, .inr rfl, hs.1, hs.2, q _ μ H Ext.refl s (.bl _)⟩
    · cases e
  · cases e
def fInA (neg : Bool) : F2 := fOr (fIn neg) (fInD neg)
theorem units65 {k : Nat} {A : Around} (r : Room k A) : A.units + 65 < cLine := by have := r.un; omega
section
variable {X : Cx} {pos : Pos} {a b : Expr} {A B : SE} {k : Nat}
theorem ev_inA (hr : Room k X.A) (ha : PEv X a A) (hb : PEv X b B) (hm : behindInMarks .In b = false := by first | rfl | with_unfolding_all rfl) : PEv X (.Compare a [.In] [b] pos) (sOp2 (fInA false) A B) := ev_cmp (OpR.or op_in_seq (op_inD (units65 hr))) (Prim2.or (prim_in false) prim_inD) ha hb hm
theorem et_inA (hr : Room k X.A) (ha : PEv X a A) (hb : PEv X b B) (hm : behindInMarks .In b = false := by first | rfl | with_unfolding_all rfl) : PTv X (.Compare a [.In] [b] pos) (sVal (sOp2 (fInA false) A B)) := et_cmp (OpR.or op_in_seq (op_inD (units65 hr))) (Prim2.or (prim_in false) prim_inD) ha hb hm
theorem et_niA (hr : Room k X.A) (ha : PEv X a A) (hb : PEv X b B) (hm : behindInMarks .NotIn b = false := by first | rfl | with_unfolding_all rfl) : PTv X (.Compare a [.NotIn] [b] pos) (sVal (sOp2 (fInA true) A B)) := et_cmp (OpR.or op_notIn_seq (op_niD (units65 hr))) (Prim2.or (prim_in true) prim_inD) ha hb hm
end
def leastI : List Int → Option Int
  | [] => none
  | [a] => some a
  | a :: r => (leastI r).map fun m => if m < a then m else a
def mostI : List Int → Option Int
  | [] => none
  | [a] => some a
  | a :: r => (mostI r).map fun m => if m > a then m else a
def fMinL : FS := fun ds st => match ds with
  | [.lst k] => (st[k]?).bind fun xs => (mapO intOf xs).bind fun ns => (leastI ns).bind fun m => some (.int m, st)
  | _ => none
def fMaxL : FS := fun ds st => match ds with
  | [.lst k] => (st[k]?).bind fun xs => (mapO intOf xs).bind fun ns => (mostI ns).bind fun m => some (.int m, st)
  | _ => none
theorem ev_globI {X : Cx} {x : Str} {i : Int} {t : Tok} {pos : Pos} (hm : X.mg x = some (.int i t)) (hg : Gl X x := by rfl) (hd : (x == ("__debug__" : Str)) = false := by decide) : PEv X (.Name x pos) (sC (.int i)) := ev_c (v := .int i) (pe_glob hg hm ⟨t, rfl⟩ hd) fun _ _ _ _ => .int i
end Ev
namespace Ev
open PySem PySem.Spec L2
def distN (ns : List Int) : Nat := (PyProof.Rows.firstMet (fun i => ns.getD i 0) ns.length).length
def fLenSet : FS := fun ds st => match ds with
  | [.lst k] => (st[k]?).bind fun xs => (mapO intOf xs).bind fun ns => if ns.length ≤ 4000 then some (.int (distN ns : Nat), st) else none
  | _ => none
theorem intsAre_of : ∀ {ns : List Int} {us : List Value}, Vals (ns.map V.int) us → PyProof.Rows.IntsAre us ns
  | [], _, h => by cases h; exact .nil
  | n :: r, _, h => by
    cases h with
    | cons h1 h2 =>
      obtain ⟨t, rfl⟩ := h1
      exact .cons n t (intsAre_of h2)
theorem ev_lenSet {X : Cx} {e : Expr} {R : SA} {p1 p2 pos1 pos2 : Pos} (hc : X.calm = true) (hm1 : X.mg "len" = none) (hm2 : X.mg "set" = none) (ha : PAv X [e] R) (hg1 : Gl X "len" := by rfl) (hg2 : Gl X "set" := by rfl) (he : starEach [e] X.env = [(false, eval e X.env)] := by rfl)
    (he2 : starEach [.Call (.Name "set" p2) [e] [] pos2] X.env = [(false, eval (.Call (.Name "set" p2) [e] [] pos2) X.env)] := by rfl) :
    PEv X (.Call (.Name "len" p1) [.Call (.Name "set" p2) [e] [] pos2] [] pos1) (sCall fLenSet R) := by
  intro pins s σ H Q I h
  obtain ⟨μ, ρ, st, d, st', hr, so, e0, q⟩ := h
  unfold sCall at e0
  obtain ⟨⟨ds, st1⟩, e1, e0⟩ := Option.bind_eq_some_iff.mp e0
  unfold fLenSet at e0
  dsimp only at e0
  split at e0
  case h_2 => cases e0
  rename_i k
  obtain ⟨xs, e2, e0⟩ := Option.bind_eq_some_iff.mp e0
  obtain ⟨ns, e3, e0⟩ := Option.bind_eq_some_iff.mp e0
  split at e0
  case isFalse => cases e0
  rename_i hb
  cases e0
  refine wpAny_Call_Name_kw (ld_blt I hg1 hm1 (show bootBuiltins "len" = some (.builtin "len") by decide +kernel) ?_)
  refine PyProof.Rows.callWith_builtin1 (e := .Call (.Name "set" p2) [e] [] pos2) (rest := []) ?_ he2 rfl
  rw [he2]
  refine Calls.spliced_cons ?_
  refine wpAny_Call_Name_kw (ld_blt I hg2 hm2 (show bootBuiltins "set" = some (.type "set") by decide +kernel) ?_)
  refine PyProof.Rows.callWith_type1 (e := e) (rest := []) ?_ he rfl
  refine thn (ha pos2 pins s σ H (fun vs H1 => ∃ μ1, Ext X.K H μ st.length H1 μ1 st'.length ∧ StOk X.K H1 μ1 st' ∧ RepL X.K H1 μ1 st'.length vs [.lst k]) I ⟨μ, ρ, st, _, st', hr, so, e1, fun vs μ1 H1 x1 s1 r1 => ⟨μ1, x1, s1, r1⟩⟩) fun us s1 ⟨vs, H1, I1, rv, μ1, x1, so1, rl⟩ => ?_
  obtain ⟨v, rfl, r1⟩ := repL_one rl
  obtain ⟨rfl, hk⟩ := rep_lst r1
  obtain ⟨u, rfl, ru⟩ := vals1 rv
  cases ru
  obtain ⟨ws, hw, rw'⟩ := so1.sq e2
  rw [ints_rep rw' e3] at hw
  obtain ⟨its, r2, plain, hz⟩ := I1.list hw
  have li := intsAre_of r2
  have ll : its.length = ns.length := by have := r2.length; rw [List.length_map] at this; exact this.symm
  have e4 : its.toArray.size = ns.length := by rw [List.size_toArray, ll]
  refine call_set_list (items := its.toArray) (ns := ns) (I.ok.hd hc) plain.isList (by simpa using li) (by rw [e4]; unfold scanBound; omega) fun g tk hS kp => ?_
  refine Calls.spliced_nil ?_
  have I2 : Inv X pins σ H1 { s1 with heap := g, toks := tk } := I1.kept fun b o z => kp b o (Heap.lt_size z) z
  rw [e4] at hS
  obtain ⟨o, ho, hex, es, ep, t, hd, _, _, hn, hf⟩ := PySem.Heap.SetOf.objOf hS
  have le := PyProof.Rows.firstMet_length_le (fun i => ns.getD i 0) ns.length
  have hn' : distN ns = es.size := hn.symm
  refine call_len_set (s := { s1 with heap := g, toks := tk }) ho hex hd hf (by rw [← hn']; unfold distN; exact Int.lt_of_le_of_lt (by omega) (show (4000 : Int) < 2 ^ 63 by decide)) ?_
  refine ⟨.int (distN ns : Nat), H1, I2.kept (t' := tk + 1 + 1) fun b o z => z, ⟨_, by rw [hn']⟩, q _ μ1 H1 x1 so1 (.int _)⟩
end Ev
namespace Ev
open PySem PySem.Spec L2
def TupC (K : PySem.W.Frag) (mg : Str → Option Value) (x : Str) (vs : List V) : Prop := ∃ a o its n, mg x = some (.ref a) ∧ K.lookup a = some o ∧ o.cls = .type "tuple" ∧ o.data = .seq its n ∧ its.size ≤ sizeLine ∧ Vals vs its.toList
end Ev
namespace Ev
open PySem PySem.Spec L2
theorem es_setLc2 {X : Cx} (i : Nat) {y : Str} {py : Pos} {elt tg iter tg1 iter1 : Expr} {ifs ifs1 : List Expr} {scope : Scope} {own : List (Str × Nat)} {pos spos : Pos} {I I1 : SI} {g g1 : TG} {G G1 : SG} {T T1 : SB} {A : SE} {vs vs1 : List Nat} (hc : X.calm = true) (hN : X.N.Nodup) (hi : PIv X tg iter I) (ok : BlkOk X.N X.env.scope scope own) (hv : own.map (·.2) = vs) (hv1 : ∀ i ∈ vs1, i ∈ vs) (hG : GOk X.K g G vs) (hG1 : GOk X.K g1 G1 vs1)
    (hg : ∀ (s : Shared) (H : Hp) (C : Addr) (cl : List (Str × Addr)) (fp : List Addr), PG (X.blk s H scope (compEnvC scope cl C X.env) fp) tg g) (ht : ∀ (s : Shared) (H : Hp) (C : Addr) (cl : List (Str × Addr)) (fp : List Addr), PTsv (X.blk s H scope (compEnvC scope cl C X.env) fp) ifs T)
    (hi1 : ∀ (s : Shared) (H : Hp) (C : Addr) (cl : List (Str × Addr)) (fp : List Addr), PIv (X.blk s H scope (compEnvC scope cl C X.env) fp) tg1 iter1 I1)
    (hg1 : ∀ (s : Shared) (H : Hp) (C : Addr) (cl : List (Str × Addr)) (fp : List Addr), PG (X.blk s H scope (compEnvC scope cl C X.env) fp) tg1 g1) (ht1 : ∀ (s : Shared) (H : Hp) (C : Addr) (cl : List (Str × Addr)) (fp : List Addr), PTsv (X.blk s H scope (compEnvC scope cl C X.env) fp) ifs1 T1)
    (he : ∀ (s : Shared) (H : Hp) (C : Addr) (cl : List (Str × Addr)) (fp : List Addr), PEv (X.blk s H scope (compEnvC scope cl C X.env) fp) elt A)
    (hsw : swapsWith (.ListComp elt [⟨tg, iter, ifs, 0⟩, ⟨tg1, iter1, ifs1, 0⟩] scope pos) (some (.Name y py)) spos.line X.env = pure true) (hy : X.N[i]? = some y := by rfl) (hyl : X.env.scope.names.lookup y = some .local := by rfl) (hs : ∀ x, foldedSetIterable iter X.env x = pure x := by intro _; rfl) (hs1 : ∀ env x, foldedSetIterable iter1 env x = pure x := by intro _ _; rfl) :
    PSv X (.Assign [.Name y py] (.ListComp elt [⟨tg, iter, ifs, 0⟩, ⟨tg1, iter1, ifs1, 0⟩] scope pos) spos) (kAsg (sLc2 I G T I1 G1 T1 A vs vs1) (gN i)) := by
  subst hv
  refine PS.imp (ps_setLc2 (i := i) (tt := tEvT X.K T) (tt1 := tEvT X.K T1) (te := tEv X.K A) (wi1 := tEvI X.K I1) (vs1 := vs1) hc hN hy hyl hsw hi ok hv1 hg ht hi1 hg1 ht1 he hs hs1) fun E σ H h => ?_
  obtain ⟨μ, ρ, st, o, st', hr, s, e, q⟩ := h
  unfold kAsg at e
  obtain ⟨p, e1, e⟩ := Option.bind_eq_some_iff.mp e
  obtain ⟨ρ', e2, e⟩ := Option.bind_eq_some_iff.mp e
  cases e
  cases e2
  refine tLc2_ok hG hG1 σ H _ ⟨μ, ρ, st, p.1, p.2, hr, s, e1, fun v μ1 H1 x1 s1 r1 => ?_⟩
  exact q _ μ1 H1 x1 s1 ((hr.up x1).set r1 i)
end Ev
namespace Ev
open PySem L2
section
variable {Q : D → Store → Prop} {st : Store} {i : Int} {ns : List Int}
theorem fOr_l {f g : F2} {x y d : D} {s : Store} (h : f x y st = some (d, s)) : fOr f g x y st = some (d, s) := by unfold fOr; rw [h]; rfl
theorem w_inA {neg : Bool} {x y : D} (h : W (fIn neg x y st) Q) : W (fInA neg x y st) Q := by obtain ⟨d, s, e, q⟩ := h; exact ⟨d, s, fOr_l e, q⟩
theorem p_inTA (q : Q (.bl (decide (i ∈ ns))) st) : W (fInA false (.int i) (.tup (ns.map D.int)) st) Q := w_inA (p_inT q)
theorem p_niTA (q : Q (.bl (!decide (i ∈ ns))) st) : W (fInA true (.int i) (.tup (ns.map D.int)) st) Q := w_inA (p_niT q)
theorem p_inLA {k : Nat} (e : st[k]? = some (ns.map D.int)) (q : Q (.bl (decide (i ∈ ns))) st) : W (fInA false (.int i) (.lst k) st) Q := w_inA (p_inL e q)
theorem p_niLA {k : Nat} (e : st[k]? = some (ns.map D.int)) (q : Q (.bl (!decide (i ∈ ns))) st) : W (fInA true (.int i) (.lst k) st) Q := w_inA (p_niL e q)
theorem p_quant {all : Bool} {k : Nat} {bs : List Bool} (e : st[k]? = some (bs.map D.bl)) (q : Q (.bl (if all then bs.all id else bs.any id)) st) : W (fQuant all [.lst k] st) Q := by
  have h : ∀ bs : List Bool, mapO blOf (bs.map D.bl) = some bs := fun bs => by
    induction bs with
    | nil => rfl
    | cons b r ih => unfold mapO; simp only [List.map_cons, blOf, Option.bind_some, ih]
  exact ⟨_, st, by simp only [fQuant, e, Option.bind_some, h], q⟩
theorem p_lenSet {k : Nat} (e : st[k]? = some (ns.map D.int)) (hl : ns.length ≤ 4000) (q : Q (.int (distN ns : Nat)) st) : W (fLenSet [.lst k] st) Q := ⟨_, st, by simp only [fLenSet, e, Option.bind_some, mapO_ints, if_pos hl], q⟩
end
def ChainQ (g : F2) (C : SE) (ρ : Rho) (y : D) (Q : D → Store → Prop) : D → Store → Prop := fun d s => ∃ k, d = .bl k ∧ (k = true → W (C ρ s) fun z s4 => W (g y z s4) Q) ∧ (k = false → Q (.bl false) s)
theorem chain_is {g : F2} {C : SE} {ρ : Rho} {y : D} {Q : D → Store → Prop} {k : Bool} {s : Store} (h : (k = true → W (C ρ s) fun z s4 => W (g y z s4) Q) ∧ (k = false → Q (.bl false) s)) : ChainQ g C ρ y Q (.bl k) s := ⟨k, rfl, h⟩
theorem w_chain {f g : F2} {A B C : SE} {ρ : Rho} {st : Store} {Q : D → Store → Prop} (h : W (A ρ st) fun x s => W (B ρ s) fun y s2 => W (f x y s2) (ChainQ g C ρ y Q)) : W (sChain f g A B C ρ st) Q := by
  refine w_bind (h.mono fun x s h => w_bind (h.mono fun y s2 h => w_bind (h.mono fun d s3 ⟨k, e, h1, h2⟩ => ?_)))
  subst e
  cases k with
  | true => exact w_bind (h1 rfl)
  | false => exact w_some (h2 rfl)
def ZipQ (Q : It1 → Store → Prop) : List D → Store → Prop := fun ds s => match ds with
  | [.tup xs, .tup ys] => Q (zipD xs ys, none) s
  | [.tup xs, .lst h] => ∃ ys, s[h]? = some ys ∧ Q (zipD xs ys, some (h, ys)) s
  | [.lst h, .tup ys] => ∃ xs, s[h]? = some xs ∧ Q (zipD xs ys, some (h, xs)) s
  | _ => False
theorem zip_tt {Q : It1 → Store → Prop} {xs ys : List D} {s : Store} (h : Q (zipD xs ys, none) s) : ZipQ Q [.tup xs, .tup ys] s := h
theorem zip_tl {Q : It1 → Store → Prop} {xs ys : List D} {k : Nat} {s : Store} (e : s[k]? = some ys) (h : Q (zipD xs ys, some (k, ys)) s) : ZipQ Q [.tup xs, .lst k] s := ⟨ys, e, h⟩
theorem zip_lt {Q : It1 → Store → Prop} {xs ys : List D} {k : Nat} {s : Store} (e : s[k]? = some xs) (h : Q (zipD xs ys, some (k, xs)) s) : ZipQ Q [.lst k, .tup ys] s := ⟨xs, e, h⟩
theorem w_zipN {R : SA} {ρ : Rho} {st : Store} {Q : It1 → Store → Prop} (h : W (R ρ st) (ZipQ Q)) : W (iZip2 R ρ st) Q := w_bind (h.mono fun ds s h => by
  unfold ZipQ at h
  split at h
  · exact w_some h
  · obtain ⟨xs, e, q⟩ := h
    show W ((s[_]?).bind _) Q
    rw [e]; exact w_some q
  · obtain ⟨xs, e, q⟩ := h
    show W ((s[_]?).bind _) Q
    rw [e]; exact w_some q
  · exact h.elim)
theorem zip_map {α β : Type} (e1 : α → D) (e2 : β → D) (l1 : List α) (l2 : List β) : zipD (l1.map e1) (l2.map e2) = (l1.zip l2).map fun p => D.tup [e1 p.1, e2 p.2] := by
  unfold zipD
  rw [List.zip_map, List.map_map]; rfl
theorem firstMet_nodup (val : Nat → Int) : ∀ n, (PyProof.Rows.firstMet val n).length = n ↔ ((List.range n).map val).Nodup
  | 0 => by simp [PyProof.Rows.firstMet_zero]
  | n + 1 => by
    have ih := firstMet_nodup val n
    have le := PyProof.Rows.firstMet_length_le val n
    have an := PyProof.Rows.firstMet_any val n (val n)
    rw [PyProof.Rows.firstMet_succ, PyProof.Rows.step_length, List.range_succ, List.map_append, List.nodup_append, an]
    have e : (((List.range n).map val).any (· == val n)) = decide (val n ∈ (List.range n).map val) := by
      rw [Bool.eq_iff_iff, List.any_eq_true, decide_eq_true_eq]
      constructor
      · rintro ⟨x, h1, h2⟩
        have : x = val n := by simpa using h2
        rw [← this]; exact h1
      · exact fun h => ⟨_, h, by simp⟩
    rw [e]
    by_cases c : val n ∈ (List.range n).map val
    · rw [decide_eq_true c]
      simp only [if_true]
      constructor
      · intro z; omega
      · rintro ⟨_, _, z⟩
        exact absurd rfl (z _ c (val n) (by simp))
    · rw [decide_eq_false c]
      simp only [Bool.false_eq_true, if_false]
      constructor
      · intro z
        refine ⟨ih.mp (by omega), by simp, fun a ha b hb => ?_⟩
        have : b = val n := by simpa using hb
        rw [this]; intro e; rw [e] at ha; exact c ha
      · rintro ⟨z, _, _⟩
        have := ih.mpr z
        omega
theorem distN_nodup (ns : List Int) : distN ns = ns.length ↔ ns.Nodup := by
  unfold distN
  rw [firstMet_nodup]
  have e : (List.range ns.length).map (fun i => ns.getD i 0) = ns := by
    apply List.ext_getElem?
    intro i
    rw [List.getElem?_map]
    by_cases h : i < ns.length
    · rw [List.getElem?_range h, List.getElem?_eq_getElem h]
      simp [List.getD_eq_getElem?_getD, List.getElem?_eq_getElem h]
    · rw [List.getElem?_eq_none (by simp; omega), List.getElem?_eq_none (by omega)]; rfl
  rw [e]
end Ev
namespace Ev
open PySem L2
open Classical in
noncomputable def lc2Run (p : It1) (G : SG) (T : SB) (I1 : SI) (G1 : SG) (T1 : SB) (A : SE) (vs vs1 : List Nat) (ρ : Rho) (st : Store) : Option (D × Store) := if Still p.2 p.1 st then (lc2Go p.2 p.1 G T I1 G1 T1 A vs1 st.length (wipeD ρ vs) p.1 (st ++ [[]])).bind fun st' => some (.lst st.length, st') else none
theorem w_lc2N {I : SI} {G : SG} {T : SB} {I1 : SI} {G1 : SG} {T1 : SB} {A : SE} {vs vs1 : List Nat} {ρ : Rho} {st : Store} {Q : D → Store → Prop} (h : W (I ρ st) fun p s => W (lc2Run p G T I1 G1 T1 A vs vs1 ρ s) Q) : W (sLc2 I G T I1 G1 T1 A vs vs1 ρ st) Q := w_bind h
section
variable {α β : Type} {l : List α} {emb : α → D} {chk : Option (Nat × List D)} {ρ : Rho} {st : Store} {G G1 : SG} {T T1 : SB} {A : SE} {I1 : SI} {vs vs1 : List Nat}
def flat2 (t : α → Bool) (in1 : α → List β) (t1 : α → β → Bool) (f : α → β → D) (l : List α) : List D := l.flatMap fun a => if t a then ((in1 a).filter (t1 a)).map (f a) else []
theorem lc2T {Q : D → Store → Prop} (t : α → Bool) (in1 : α → List β) (t1 : α → β → Bool) (f : α → β → D) (B : Nat) (hB : B ≤ 100000) (hs : Still chk (l.map emb) st) (hl : ∀ i, (flat2 t in1 t1 f (l.take i)).length + 1000 ≤ B) (hin : ∀ a ∈ l, (in1 a).length ≤ 1000)
    (step : ∀ a ∈ l, ∃ ρ1, G (emb a) (wipeD ρ vs) = some ρ1 ∧ ∀ s, Kall st s → st.length < s.length → W (T ρ1 s) fun b s' => b = t a ∧ Kall s s' ∧ (t a = true → W (I1 ρ1 s') fun c s2 => Kall s' s2 ∧ Still c.2 c.1 s2 ∧ (∀ k ys, c.2 = some (k, ys) → k ≠ st.length) ∧ ∃ emb1 : β → D, c.1 = (in1 a).map emb1 ∧
      ∀ b ∈ in1 a, ∃ ρ2, G1 (emb1 b) (wipeD ρ1 vs1) = some ρ2 ∧ ∀ s3, Kp st.length s2 s3 → Kall st s3 → W (T1 ρ2 s3) fun b' s4 => b' = t1 a b ∧ Kall s3 s4 ∧ (t1 a b = true → W (A ρ2 s4) fun d s5 => d = f a b ∧ Kall s4 s5)))
    (q : ∀ s, s[st.length]? = some (flat2 t in1 t1 f l) → Kall st s → Q (.lst st.length) s) : W (lc2Run (l.map emb, chk) G T I1 G1 T1 A vs vs1 ρ st) Q := by
  unfold lc2Run
  rw [if_pos hs]
  have key : ∀ (r : List α) (i : Nat) (s : Store), l.drop i = r → s[st.length]? = some (flat2 t in1 t1 f (l.take i)) → Kall st s → ∃ s', lc2Go chk (l.map emb) G T I1 G1 T1 A vs1 st.length (wipeD ρ vs) (r.map emb) s = some s' ∧ s'[st.length]? = some (flat2 t in1 t1 f l) ∧ Kall st s' := by
    intro r
    induction r with
    | nil =>
      intro i s hd he K
      have hi : l.take i = l := by
        have : l.length ≤ i := by
          have := congrArg List.length hd
          rw [List.length_drop, List.length_nil] at this; omega
        exact List.take_of_length_le this
      rw [hi] at he
      refine ⟨s, ?_, he, K⟩
      unfold lc2Go
      rw [List.map_nil]
      dsimp only
      rw [if_pos (still_of hs K)]
    | cons a r ih =>
      intro i s hd he K
      have hlt : i < l.length := by
        have := congrArg List.length hd
        rw [List.length_drop, List.length_cons] at this
        omega
      have hx : l[i]? = some a := by
        rw [List.drop_eq_getElem_cons hlt] at hd
        rw [List.getElem?_eq_getElem hlt]
        exact congrArg some (List.cons.inj hd).1
      have hr : l.drop (i + 1) = r := by
        rw [List.drop_eq_getElem_cons hlt] at hd
        exact (List.cons.inj hd).2
      have hm := List.mem_of_getElem? hx
      obtain ⟨ρ1, g1, g2⟩ := step a hm
      obtain ⟨b, s1, e1, eb, K1, h1⟩ := g2 s K (lt_of_get he)
      subst eb
      have tk : flat2 t in1 t1 f (l.take (i + 1)) = flat2 t in1 t1 f (l.take i) ++ (if t a then ((in1 a).filter (t1 a)).map (f a) else []) := by
        unfold flat2
        rw [List.take_succ, hx, List.flatMap_append]; simp
      rw [List.map_cons]
      unfold lc2Go
      rw [if_pos (still_of hs K), g1]
      simp only [Option.bind_some, e1]
      cases ht : t a with
      | false =>
        simp only [Bool.false_eq_true, if_false]
        refine ih (i + 1) s1 hr ?_ (K.trans K1)
        rw [K1.get he, tk, ht]; simp
      | true =>
        obtain ⟨c, s2, e2, K2, st2, nk, emb1, ec, inner⟩ := h1 ht
        simp only [if_true, e2, Option.bind_some, if_pos st2]
        have stl : ∀ s3, Kp st.length s2 s3 → Still c.2 c.1 s3 := fun s3 K k ys e => K.get (st2 k ys e) (nk k ys e)
        have Ks2 : Kall st s2 := (K.trans K1).trans K2
        obtain ⟨s3, e3, p1, p2⟩ := lcW (chk := c.2) (all := c.1) (G := G1) (T := T1) (A := A) (k := st.length) (ρ := wipeD ρ1 vs1) (Q := fun _ s => s[st.length]? = some (flat2 t in1 t1 f (l.take (i + 1))) ∧ Kall st s)
          (fun j acc s => acc = flat2 t in1 t1 f (l.take i) ++ (((in1 a).take j).filter (t1 a)).map (f a) ∧ Kp st.length s2 s ∧ Kall st s) (by
            rintro j x acc s' hx' ⟨rfl, Kp', Ka⟩ he'
            rw [ec, List.getElem?_map] at hx'
            obtain ⟨y, hy, rfl⟩ := Option.map_eq_some_iff.mp hx'
            obtain ⟨ρ2, g3, g4⟩ := inner y (List.mem_of_getElem? hy)
            refine ⟨stl s' Kp', ρ2, g3, (g4 s' Kp' Ka).mono fun b s4 ⟨eb, K4, h4⟩ => ⟨fun hb => ?_, fun hb => ?_⟩⟩
            · subst eb
              refine (h4 hb).mono fun d s5 ⟨ed, K5⟩ => ⟨(K4.trans K5).get he', ?_, ?_, ?_, kall_fresh ((Ka.trans K4).trans K5) (Nat.le_refl _)⟩
              · have z1 := hl i
                have z2 := hin a hm
                have z3 : (((in1 a).take j).filter (t1 a)).length ≤ ((in1 a).take j).length := List.length_filter_le ..
                rw [List.length_take] at z3
                rw [List.length_append, List.length_map]; omega
              · rw [List.take_succ, hy, List.filter_append]; simp [hb, ed]
              · have z := ((Kp'.trans (K4 _)).trans (K5 _))
                exact ⟨by rw [List.length_set]; exact z.le, fun k k1 k2 => by rw [List.getElem?_set_ne (Ne.symm k2)]; exact z.eq k k1 k2⟩
            · subst eb
              refine ⟨K4.get he', ?_, Kp'.trans (K4 _), Ka.trans K4⟩
              rw [List.take_succ, hy, List.filter_append]; simp [hb]) (by
            rintro acc s' ⟨rfl, Kp', Ka⟩ he'
            refine ⟨stl s' Kp', ?_, Ka⟩
            rw [he', tk, ht, ec, List.length_map, List.take_length]; simp) c.1 0 (flat2 t in1 t1 f (l.take i)) s2 rfl (Nat.zero_le _) ⟨by simp, Kp.refl, Ks2⟩ ((K1.trans K2).get he)
        rw [e3]
        simp only [Option.bind_some]
        exact ih (i + 1) s3 hr p1 p2
  obtain ⟨s', e1, e2, K⟩ := key l 0 (st ++ [[]]) rfl (by simp [flat2]) Kall.push
  exact ⟨_, s', by simp only [e1, Option.bind_some], q s' e2 K⟩
end
end Ev
namespace Ev
open PySem L2
noncomputable def genRun (b : Bool) (p : It1) (G : SG) (A : SE) (vs : List Nat) (ρ : Rho) (st : Store) : Option (D × Store) := genGo b p.2 p.1 G A (wipeD ρ vs) p.1 st
theorem w_genN {b : Bool} {I : SI} {G : SG} {A : SE} {vs : List Nat} {ρ : Rho} {st : Store} {Q : D → Store → Prop} (h : W (I ρ st) fun p s => Still p.2 p.1 s ∧ W (genRun b p G A vs ρ s) Q) : W (sGenB b I G A vs ρ st) Q := w_bind (h.mono fun p s ⟨z, h⟩ => by
  dsimp only
  rw [if_pos z]; exact h)
theorem still_no {ys : List D} {s : Store} {X : Prop} (h : X) : Still none ys s ∧ X := ⟨Still.none, h⟩
theorem genL {b : Bool} {ds : List D} {bs : List Bool} {chk : Option (Nat × List D)} {G : SG} {A : SE} {vs : List Nat} {ρ : Rho} {st : Store} {Q : D → Store → Prop} (hl : ds.length = bs.length) (hs : Still chk ds st)
    (step : ∀ (i : Nat) x k, ds[i]? = some x → bs[i]? = some k → ∃ ρ1, G x (wipeD ρ vs) = some ρ1 ∧ ∀ s, Kall st s → W (A ρ1 s) fun d s2 => d = .bl k ∧ Kall s s2)
    (q : ∀ s, Kall st s → Q (.bl (if b then bs.all id else bs.any id)) s) : W (genRun b (ds, chk) G A vs ρ st) Q := by
  unfold genRun
  refine genBW (fun i s => (∀ k ∈ bs.take i, k = b) ∧ Kall st s) ?_ ?_ ds 0 st rfl (Nat.zero_le _) ⟨by simp, Kall.refl⟩
  · rintro i x s hx ⟨h, K⟩
    have hi : i < ds.length := (List.getElem?_eq_some_iff.mp hx).1
    obtain ⟨k, hk⟩ : ∃ k, bs[i]? = some k := ⟨_, List.getElem?_eq_getElem (by omega)⟩
    obtain ⟨ρ1, g1, g2⟩ := step i x k hx hk
    refine ⟨still_of hs K, ρ1, g1, (g2 s K).mono fun d s2 ⟨ed, K2⟩ => ⟨k, ed, fun e => ⟨fun y hy => ?_, K.trans K2⟩, fun e => ?_⟩⟩
    · rw [List.take_succ, hk] at hy
      rcases List.mem_append.mp hy with hy | hy
      · exact h y hy
      · have : y = k := by simpa using hy
        rw [this]; exact e
    · have hm := List.mem_of_getElem? hk
      have e2 : (if b then bs.all id else bs.any id) = !b := by
        cases b with
        | true => simp only [if_true, Bool.not_true]; rw [List.all_eq_false]; exact ⟨k, hm, by rw [e]; simp⟩
        | false => simp only [Bool.false_eq_true, if_false, Bool.not_false]; rw [List.any_eq_true]; exact ⟨k, hm, by rw [e]; rfl⟩
      have := q s2 (K.trans K2)
      rwa [e2] at this
  · rintro s ⟨h, K⟩
    rw [hl, List.take_length] at h
    have e2 : (if b then bs.all id else bs.any id) = b := by
      cases b with
      | true => simp only [if_true]; rw [List.all_eq_true]; exact h
      | false => simp only [Bool.false_eq_true, if_false]; rw [List.any_eq_false]; exact fun x hx => by rw [h x hx]; simp
    have := q s K
    rw [e2] at this
    exact ⟨still_of hs K, this⟩
end Ev
namespace Ev
open PySem L2
section
variable {Q : D → Store → Prop} {st : Store}
theorem p_eqSt {x : Str} (q : Q (.bl true) st) : W (fEq (.str x) (.str x) st) Q := p_eqS (by rw [decide_eq_true rfl]; exact q)
theorem p_eqSf {x y : Str} (h : ¬ x = y) (q : Q (.bl false) st) : W (fEq (.str x) (.str y) st) Q := p_eqS (by rw [decide_eq_false h]; exact q)
end
end Ev
namespace Ev
open PySem L2
theorem lcIx {ds fs : List D} {chk : Option (Nat × List D)} {G : SG} {A : SE} {vs : List Nat} {ρ : Rho} {st : Store} {Q : D → Store → Prop} (hl : ds.length = fs.length) (hs : Still chk ds st) (hz : ds.length ≤ 100000)
    (step : ∀ (i : Nat) x f, ds[i]? = some x → fs[i]? = some f → ∃ ρ1, G x (wipeD ρ vs) = some ρ1 ∧ ∀ s, Kall st s → st.length < s.length → W (A ρ1 s) fun d s2 => d = f ∧ Kall s s2)
    (q : ∀ s, s[st.length]? = some fs → Kall st s → Q (.lst st.length) s) : W (lcRun (ds, chk) G bYes A vs ρ st) Q := by
  have e : ds = ds.map id := (List.map_id ds).symm
  rw [e] at hs ⊢
  refine lcI (fun i acc s => acc = fs.take i ∧ Kall st s) hs ⟨rfl, Kall.push⟩ ?_ ?_
  · rintro i x acc s hx ⟨rfl, K⟩ he
    have hi : i < ds.length := (List.getElem?_eq_some_iff.mp hx).1
    obtain ⟨f, hf⟩ : ∃ f, fs[i]? = some f := ⟨_, List.getElem?_eq_getElem (by omega)⟩
    obtain ⟨ρ1, g1, g2⟩ := step i x f hx hf
    refine ⟨still_of hs K, ρ1, g1, w_yes ⟨fun _ => ?_, fun z => (by cases z)⟩⟩
    refine (g2 s K (lt_of_get he)).mono fun d s2 ⟨ed, K2⟩ => ⟨K2.get he, by rw [List.length_take]; omega, ?_, kall_fresh (K.trans K2) (Nat.le_refl _)⟩
    rw [List.take_succ, hf, ed]; rfl
  · rintro acc s ⟨rfl, K⟩ he
    rw [hl, List.take_length] at he
    exact ⟨still_of hs K, q s he K⟩
end Ev
namespace Ev
open PySem L2
theorem p_eqB {a b : Bool} {st : Store} {Q : D → Store → Prop} (q : Q (.bl (decide (a = b))) st) : W (fEq (.bl a) (.bl b) st) Q := ⟨_, st, by simp [fEq, fOr, fEqS, flat, scal], q⟩
end Ev
namespace Ev
open PySem L2
end Ev
namespace Ev
open PySem L2
theorem p_neB {a b : Bool} {st : Store} {Q : D → Store → Prop} (q : Q (.bl (!decide (a = b))) st) : W (fNe (.bl a) (.bl b) st) Q := ⟨_, st, by simp [fNe, fOr, fEqS, flat, scal], q⟩
end Ev
set_option maxHeartbeats 4000000
namespace My
open PySem L2 Ev
def top (i : Nat) : Stmt := PySem.Challenge.pw_pistonrounds_k40_rests_of_groups.main.body.getD i (.Pass ⟨0, 0, 0, 0⟩)
abbrev s_is_int : Stmt := top 1
abbrev N_is_int : List Str := ["thing"]
abbrev P_is_int : List Str := ["thing"]
noncomputable def b_is_int (Γ : Nat → FS) : SS :=
  (kRet (sAndV (sIsi "int" (sVar 0)) (sNotV (sIsi "bool" (sVar 0)))))
abbrev s_is_within : Stmt := top 2
abbrev N_is_within : List Str := ["thing", "least", "greatest"]
abbrev P_is_within : List Str := ["thing", "least", "greatest"]
noncomputable def b_is_within (Γ : Nat → FS) : SS :=
  (kRet (sAndV (sCall (Γ 0) (sCons (sVar 0) sNil)) (sChain fLe fLe (sVar 1) (sVar 0) (sVar 2))))
abbrev s_is_rising : Stmt := top 4
abbrev N_is_rising : List Str := ["things", "thing", "following"]
abbrev P_is_rising : List Str := ["things"]
noncomputable def b_is_rising (Γ : Nat → FS) : SS :=
  (kRet (sCall (fQuant true) (sCons (sLc (iZip2 (sCons (sVar 0) (sCons (sSlA (sVar 0) (sPart (sC (.int 1))) sNo) sNil))) (gT [1, 2]) bYes (sOp2 fLt (sVar 1) (sVar 2)) [1, 2]) sNil)))
abbrev s_are_rising_numbers : Stmt := top 5
abbrev N_are_rising_numbers : List Str := ["thing", "many", "part"]
abbrev P_are_rising_numbers : List Str := ["thing", "many"]
noncomputable def b_are_rising_numbers (Γ : Nat → FS) (Γ₂ : Nat → FS) : SS :=
  (kSeq (kIf (bOr (bNot (sTru (sIsi "tuple" (sVar 0)))) (sVal (sOp2 fEq (sCall fLen (sCons (sVar 0) sNil)) (sC (.int 0))))) (kRet (sC (.bl false))) kNext)
    (kRet (sAndV (sGenB true (iSeq (sVar 0)) (gN 2) (sCall (Γ₂ 1) (sCons (sVar 2) (sCons (sC (.int 0)) (sCons (sOp2 fSub (sVar 1) (sC (.int 1))) sNil)))) [2]) (sCall (Γ 2) (sCons (sVar 0) sNil)))))
abbrev s_cam_place : Stmt := top 10
abbrev N_cam_place : List Str := ["j"]
abbrev P_cam_place : List Str := ["j"]
noncomputable def b_cam_place (Γ : Nat → FS) : SS :=
  (kRet (sOp2 fMulA (sC (.int 2)) (sVar 0)))
abbrev s_end_cam : Stmt := top 11
abbrev N_end_cam : List Str := ["sections", "p", "side"]
abbrev P_end_cam : List Str := ["sections", "p", "side"]
noncomputable def b_end_cam (Γ : Nat → FS) : SS :=
  (kRet (sIf (sVal (sOp2 fEq (sVar 2) (sC (.int 1)))) (sOp2 fIx (sVar 0) (sVar 1)) (sC (.int 0))))
abbrev s_end_place : Stmt := top 12
abbrev N_end_place : List Str := ["sections", "p", "side"]
abbrev P_end_place : List Str := ["sections", "p", "side"]
noncomputable def b_end_place (Γ : Nat → FS) : SS :=
  (kRet (sCall (Γ 4) (sCons (sCall (Γ 5) (sCons (sVar 0) (sCons (sVar 1) (sCons (sVar 2) sNil)))) sNil)))
abbrev s_pistons_of : Stmt := top 14
abbrev N_pistons_of : List Str := ["step", "p", "side"]
abbrev P_pistons_of : List Str := ["step"]
noncomputable def b_pistons_of (Γ : Nat → FS) : SS :=
  (kRet (sLc (iSeq (sVar 0)) (gT [1, 2]) bYes (sVar 1) [1, 2]))
abbrev s_sides_of : Stmt := top 15
abbrev N_sides_of : List Str := ["steps", "p", "step", "mover", "side"]
abbrev P_sides_of : List Str := ["steps", "p"]
noncomputable def b_sides_of (Γ : Nat → FS) : SS :=
  (kRet (sLc2 (iSeq (sVar 0)) (gN 2) bYes (iSeq (sVar 2)) (gT [3, 4]) (sVal (sOp2 fEq (sVar 3) (sVar 1))) (sVar 4) [2, 3, 4] [3, 4]))
abbrev s_between : Stmt := top 16
abbrev N_between : List Str := ["sections", "steps", "i", "p"]
abbrev P_between : List Str := ["sections", "steps", "i"]
noncomputable def b_between (Γ : Nat → FS) : SS :=
  (kRet (sCall fTuple (sCons (sLc (iRange (sCons (sCall fLen (sCons (sVar 0) sNil)) sNil)) (gN 3) bYes (sCall (Γ 10) (sCons (sVar 0) (sCons (sVar 1) (sCons (sVar 2) (sCons (sVar 3) sNil))))) [3]) sNil)))
abbrev s_place_ahead : Stmt := top 17
abbrev N_place_ahead : List Str := ["sections", "steps", "i", "p", "sides"]
abbrev P_place_ahead : List Str := ["sections", "steps", "i", "p"]
noncomputable def b_place_ahead (Γ : Nat → FS) : SS :=
  (kSeq (kAsg (sCall (Γ 8) (sCons (sOp2 fAddA (sSlA (sVar 1) (sPart (sVar 2)) sNo) (sSlA (sVar 1) sNo (sPart (sVar 2)))) (sCons (sVar 3) sNil))) (gN 4))
    (kRet (sIf (sTru (sVar 4)) (sCall (Γ 6) (sCons (sVar 0) (sCons (sVar 3) (sCons (sOp2 fIx (sVar 4) (sNeg (sC (.int 1)))) sNil)))) (sC (.int 0)))))
abbrev s_is_cut : Stmt := top 19
abbrev N_is_cut : List Str := ["steps", "thing", "m"]
abbrev P_is_cut : List Str := ["steps", "thing"]
noncomputable def b_is_cut (Γ : Nat → FS) : SS :=
  (kSeq (kIf (bNot (sTru (sCall (Γ 3) (sCons (sVar 1) (sCons (sCall fLen (sCons (sVar 0) sNil)) sNil))))) (kRet (sC (.bl false))) kNext)
    (kRet (sCall (fQuant true) (sCons (sLc (iRange (sCons (sCall fLen (sCons (sVar 1) sNil)) sNil)) (gN 2) bYes (sCall (Γ 13) (sCons (sCall (Γ 12) (sCons (sVar 0) (sCons (sVar 1) (sCons (sVar 2) sNil)))) sNil)) [2]) sNil))))
abbrev s_group_steps : Stmt := top 20
abbrev N_group_steps : List Str := ["steps", "cut", "m", "begin", "following", "around"]
abbrev P_group_steps : List Str := ["steps", "cut", "m"]
noncomputable def b_group_steps (Γ : Nat → FS) : SS :=
  (kSeq (kAsg (sOp2 fIx (sVar 1) (sVar 2)) (gN 3))
    (kSeq (kAsg (sOp2 fIx (sVar 1) (sOp2 fMod (sOp2 fAddA (sVar 2) (sC (.int 1))) (sCall fLen (sCons (sVar 1) sNil)))) (gN 4))
    (kSeq (kAsg (sOp2 fAddA (sSlA (sVar 0) (sPart (sVar 3)) sNo) (sSlA (sVar 0) sNo (sPart (sVar 3)))) (gN 5))
    (kRet (sSlA (sVar 5) sNo (sPart (sOp2 fAddA (sOp2 fMod (sOp2 fSub (sOp2 fSub (sVar 4) (sVar 3)) (sC (.int 1))) (sCall fLen (sCons (sVar 0) sNil))) (sC (.int 1)))))))))
abbrev s_no_piston_twice : Stmt := top 21
abbrev N_no_piston_twice : List Str := ["group", "movers", "step", "p"]
abbrev P_no_piston_twice : List Str := ["group"]
noncomputable def b_no_piston_twice (Γ : Nat → FS) : SS :=
  (kSeq (kAsg (sLc2 (iSeq (sVar 0)) (gN 2) bYes (iSeq (sCall (Γ 7) (sCons (sVar 2) sNil))) (gN 3) bYes (sVar 3) [2, 3] [3]) (gN 1))
    (kRet (sOp2 fEq (sCall fLenSet (sCons (sVar 1) sNil)) (sCall fLen (sCons (sVar 1) sNil)))))
abbrev s_group_of : Stmt := top 22
abbrev N_group_of : List Str := ["steps", "cut", "i", "begun", "begin"]
abbrev P_group_of : List Str := ["steps", "cut", "i"]
noncomputable def b_group_of (Γ : Nat → FS) : SS :=
  (kSeq (kAsg (sLc (iSeq (sVar 1)) (gN 4) (sVal (sOp2 fLe (sVar 4) (sVar 2))) (sVar 4) [4]) (gN 3))
    (kRet (sOp2 fMod (sOp2 fSub (sCall fLen (sCons (sVar 3) sNil)) (sC (.int 1))) (sCall fLen (sCons (sVar 1) sNil)))))
abbrev s_rest_with : Stmt := top 25
abbrev N_rest_with : List Str := ["sections", "steps", "marks", "places", "valves", "p", "place"]
abbrev P_rest_with : List Str := ["sections", "steps", "marks"]
noncomputable def b_rest_with (Γ : Nat → FS) : SS :=
  (kSeq (kAsg (sCall (Γ 9) (sCons (sVar 0) (sCons (sVar 1) (sCons (sC (.int 0)) sNil)))) (gN 3))
    (kSeq (kAsg (sCall fTuple (sCons (sLc (iEnumA (sCons (sVar 3) sNil)) (gT [5, 6]) bYes (sIf (sVal (sOp2 fEq (sVar 6) (sCall (Γ 6) (sCons (sVar 0) (sCons (sVar 5) (sCons (sC (.int 1)) sNil)))))) (sC (.int 1)) (sC (.int 0))) [5, 6]) sNil)) (gN 4))
    (kRet (sTup (sCons (sVar 3) (sCons (sVar 4) (sCons (sVar 2) (sCons (sOp2 fMulA (sTup (sCons (sC (.int 0)) sNil)) (sC (.int 2))) sNil))))))))
abbrev s_made_cut : Stmt := top 27
abbrev N_made_cut : List Str := ["steps", "thing"]
abbrev P_made_cut : List Str := ["steps", "thing"]
noncomputable def b_made_cut (Γ : Nat → FS) : SS :=
  (kSeq (kIf (bNot (sTru (sCall (Γ 11) (sCons (sVar 0) (sCons (sVar 1) sNil))))) kNever kNext)
    (kRet (sVar 1)))
abbrev s_group_rest : Stmt := top 28
abbrev N_group_rest : List Str := ["sections", "steps", "cut", "last", "m"]
abbrev P_group_rest : List Str := ["sections", "steps", "cut"]
noncomputable def b_group_rest (Γ : Nat → FS) : SS :=
  (kSeq (kDrop (sCall (Γ 16) (sCons (sVar 1) (sCons (sVar 2) sNil))))
    (kSeq (kAsg (sCall (Γ 14) (sCons (sVar 1) (sCons (sVar 2) (sCons (sOp2 fSub (sCall fLen (sCons (sVar 1) sNil)) (sC (.int 1))) sNil)))) (gN 3))
    (kRet (sCall (Γ 15) (sCons (sVar 0) (sCons (sVar 1) (sCons (sCall fTuple (sCons (sLc (iRange (sCons (sCall fLen (sCons (sVar 2) sNil)) sNil)) (gN 4) bYes (sIf (sVal (sOp2 fEq (sVar 4) (sVar 3))) (sC (.int 1)) (sC (.int 0))) [4]) sNil)) sNil)))))))
abbrev s__law_stream : Stmt := top 30
abbrev N__law_stream : List Str := ["_law_script", "_law_k", "_law_cell", "_law_mixed"]
abbrev P__law_stream : List Str := ["_law_script", "_law_k"]
noncomputable def b__law_stream (Γ : Nat → FS) : SS :=
  (kSeq (kIf (sVal (sOp2 fLt (sVar 1) (sCall fLen (sCons (sVar 0) sNil)))) (kSeq (kAsg (sCall fAbs (sCons (sOp2 fIx (sVar 0) (sVar 1)) sNil)) (gN 2))
    (kSeq (kAsg (sOp2 fAddA (sOp2 fAddA (sOp2 fMod (sVar 2) (sC (.int 2147483629))) (sOp2 fMulA (sVar 1) (sVar 1))) (sC (.int 1))) (gN 3))
    (kSeq (kIf (sVal (sOp2 fLt (sVar 2) (sOp2 fPow (sC (.int 10)) (sC (.int 18))))) (kAsg (sC (.int 0)) (gN 2)) kNext)
    (kRet (sLst (sCons (sVar 2) (sCons (sVar 3) sNil))))))) kNext)
    (kRet (sLst (sCons (sC (.int 0)) (sCons (sOp2 fAddA (sOp2 fMulA (sVar 1) (sVar 1)) (sC (.int 11))) sNil)))))
abbrev s__law_take : Stmt := top 31
abbrev N__law_take : List Str := ["_law_stream_here", "_law_most", "_law_digit"]
abbrev P__law_take : List Str := ["_law_stream_here", "_law_most"]
noncomputable def b__law_take (Γ : Nat → FS) : SS :=
  (kSeq (kIf (sVal (sOp2 fEq (sOp2 fIx (sVar 0) (sC (.int 0))) (sC (.int 0)))) (kSeq (kPut (sOp2 fMod (sOp2 fAddA (sOp2 fMulA (sOp2 fIx (sVar 0) (sC (.int 1))) (sC (.int 48271))) (sC (.int 12345))) (sC (.int 2147483647))) (sVar 0) (sC (.int 1)))
    (kRet (sOp2 fMod (sOp2 fMod (sOp2 fMulA (sOp2 fIx (sVar 0) (sC (.int 1))) (sOp2 fIx (sVar 0) (sC (.int 1)))) (sC (.int 2147483629))) (sVar 1)))) kNext)
    (kSeq (kAsg (sOp2 fMod (sOp2 fIx (sVar 0) (sC (.int 0))) (sVar 1)) (gN 2))
    (kSeq (kPut (sOp2 fDiv (sOp2 fIx (sVar 0) (sC (.int 0))) (sVar 1)) (sVar 0) (sC (.int 0)))
    (kRet (sVar 2)))))
abbrev s__law_sections : Stmt := top 32
abbrev N__law_sections : List Str := ["_law_stream_here", "_law_many", "_law_most", "_law_piston"]
abbrev P__law_sections : List Str := ["_law_stream_here", "_law_many"]
noncomputable def b__law_sections (Γ : Nat → FS) : SS :=
  (kSeq (kAsg (sOp2 fIx (sLst (sCons (sC (.int 1)) (sCons (sC (.int 2)) (sCons (sC (.int 2)) (sCons (sC (.int 4)) sNil))))) (sCall (Γ 19) (sCons (sVar 0) (sCons (sC (.int 4)) sNil)))) (gN 2))
    (kRet (sCall fTuple (sCons (sLc (iRange (sCons (sVar 1) sNil)) (gN 3) bYes (sOp2 fAddA (sC (.int 1)) (sCall (Γ 19) (sCons (sVar 0) (sCons (sVar 2) sNil)))) [3]) sNil))))
abbrev s__law_moves : Stmt := top 33
abbrev N__law_moves : List Str := ["_law_stream_here", "_law_length", "_law_thin", "_law_own", "_law_at", "_law_step"]
abbrev P__law_moves : List Str := ["_law_stream_here", "_law_length"]
noncomputable def b__law_moves (Γ : Nat → FS) : SS :=
  (kSeq (kAsg (sOp2 fAddA (sC (.int 2)) (sCall (Γ 19) (sCons (sVar 0) (sCons (sC (.int 3)) sNil)))) (gN 2))
    (kSeq (kAsg (sLc (iRange (sCons (sVar 1) sNil)) (gN 5) bYes (sCall fInt (sCons (sOp2 fEq (sCall (Γ 19) (sCons (sVar 0) (sCons (sVar 2) sNil))) (sC (.int 0))) sNil)) [5]) (gN 3))
    (kSeq (kIf (sVal (sOp2 fEq (sOp2 fMod (sCall fSum (sCons (sVar 3) sNil)) (sC (.int 2))) (sC (.int 1)))) (kSeq (kAsg (sCall (Γ 19) (sCons (sVar 0) (sCons (sVar 1) sNil))) (gN 4))
    (kPut (sOp2 fSub (sC (.int 1)) (sOp2 fIx (sVar 3) (sVar 4))) (sVar 3) (sVar 4))) kNext)
    (kRet (sVar 3)))))
abbrev s__law_steps : Stmt := top 34
abbrev N__law_steps : List Str := ["_law_stream_here", "_law_many", "_law_length", "_law_table", "_law_piston", "_law_found", "_law_side", "_law_step", "_law_is_moved", "_law_row"]
abbrev P__law_steps : List Str := ["_law_stream_here", "_law_many", "_law_length"]
noncomputable def b__law_steps (Γ : Nat → FS) : SS :=
  (kSeq (kAsg (sLc (iRange (sCons (sVar 2) sNil)) (gN 7) bYes (sLst sNil) [7]) (gN 3))
    (kSeq (kFor (iRange (sCons (sVar 1) sNil)) (gN 4) (kSeq (kAsg (sCall (Γ 19) (sCons (sVar 0) (sCons (sC (.int 2)) sNil))) (gN 6))
    (kFor (iEnumA (sCons (sCall (Γ 21) (sCons (sVar 0) (sCons (sVar 2) sNil))) sNil)) (gT [7, 8]) (kIf (sVal (sOp2 fEq (sVar 8) (sC (.int 1)))) (kSeq (kDrop (sMeth mAppend (sOp2 fIx (sVar 3) (sVar 7)) (sCons (sTup (sCons (sVar 4) (sCons (sVar 6) sNil))) sNil)))
    (kAsg (sOp2 fSub (sC (.int 1)) (sVar 6)) (gN 6))) kNext))))
    (kSeq (kAsg (sCall fTuple (sCons (sLc (iSeq (sVar 3)) (gN 9) (sVal (sOp2 fNe (sVar 9) (sLst sNil))) (sCall fTuple (sCons (sVar 9) sNil)) [9]) sNil)) (gN 5))
    (kSeq (kIf (sVal (sOp2 fEq (sVar 5) (sTup sNil))) (kRet (sTup (sCons (sTup (sCons (sTup (sCons (sC (.int 0)) (sCons (sC (.int 1)) sNil))) sNil)) (sCons (sTup (sCons (sTup (sCons (sC (.int 0)) (sCons (sC (.int 0)) sNil))) sNil)) sNil)))) kNext)
    (kRet (sVar 5))))))
abbrev s__law_drawn : Stmt := top 35
abbrev N__law_drawn : List Str := ["_law_stream_here", "_law_great", "_law_many", "_law_length"]
abbrev P__law_drawn : List Str := ["_law_stream_here"]
noncomputable def b__law_drawn (Γ : Nat → FS) : SS :=
  (kSeq (kAsg (sCall fInt (sCons (sOp2 fEq (sCall (Γ 19) (sCons (sVar 0) (sCons (sC (.int 8)) sNil))) (sC (.int 5))) sNil)) (gN 1))
    (kSeq (kAsg (sOp2 fAddA (sC (.int 1)) (sCall (Γ 19) (sCons (sVar 0) (sCons (sOp2 fIx (sLst (sCons (sC (.int 3)) (sCons (sC (.int 6)) sNil))) (sVar 1)) sNil)))) (gN 2))
    (kSeq (kAsg (sOp2 fAddA (sC (.int 2)) (sCall (Γ 19) (sCons (sVar 0) (sCons (sOp2 fIx (sLst (sCons (sC (.int 5)) (sCons (sC (.int 11)) sNil))) (sVar 1)) sNil)))) (gN 3))
    (kRet (sTup (sCons (sCall (Γ 20) (sCons (sVar 0) (sCons (sVar 2) sNil))) (sCons (sCall (Γ 22) (sCons (sVar 0) (sCons (sVar 2) (sCons (sVar 3) sNil)))) sNil)))))))
abbrev s__law_groups : Stmt := top 36
abbrev N__law_groups : List Str := ["_law_steps_here", "_law_cut_here", "_law_found", "_law_group", "_law_at", "_law_own"]
abbrev P__law_groups : List Str := ["_law_steps_here", "_law_cut_here"]
noncomputable def b__law_groups (Γ : Nat → FS) : SS :=
  (kSeq (kAsg (sLst sNil) (gN 2))
    (kSeq (kFor (iRange (sCons (sCall fLen (sCons (sVar 1) sNil)) sNil)) (gN 3) (kSeq (kAsg (sOp2 fIx (sVar 1) (sVar 3)) (gN 4))
    (kSeq (kAsg (sLst (sCons (sVar 4) sNil)) (gN 5))
    (kSeq (kWhile 100000 (sVal (sOp2 (fInA true) (sOp2 fMod (sOp2 fAddA (sVar 4) (sC (.int 1))) (sCall fLen (sCons (sVar 0) sNil))) (sVar 1))) (kSeq (kAsg (sOp2 fMod (sOp2 fAddA (sVar 4) (sC (.int 1))) (sCall fLen (sCons (sVar 0) sNil))) (gN 4))
    (kDrop (sMeth mAppend (sVar 5) (sCons (sVar 4) sNil)))))
    (kDrop (sMeth mAppend (sVar 2) (sCons (sVar 5) sNil)))))))
    (kRet (sVar 2))))
abbrev s__law_once : Stmt := top 37
abbrev N__law_once : List Str := ["_law_steps_here", "_law_numbers", "_law_moved", "_law_number", "_law_at", "_law_piston", "_law_side"]
abbrev P__law_once : List Str := ["_law_steps_here", "_law_numbers"]
noncomputable def b__law_once (Γ : Nat → FS) : SS :=
  (kSeq (kAsg (sLst sNil) (gN 2))
    (kSeq (kFor (iSeq (sVar 1)) (gN 3) (kAsg (sOp2 fAddA (sVar 2) (sLc (iSeq (sOp2 fIx (sVar 0) (sVar 3))) (gT [5, 6]) bYes (sVar 5) [5, 6])) (gN 2)))
    (kRet (sOp2 fEq (sLc (iEnumA (sCons (sVar 2) sNil)) (gT [4, 5]) (sVal (sOp2 (fInA false) (sVar 5) (sSlA (sVar 2) sNo (sPart (sVar 4))))) (sVar 4) [4, 5]) (sLst sNil)))))
abbrev s__law_greedy : Stmt := top 38
abbrev N__law_greedy : List Str := ["_law_steps_here", "_law_first", "_law_begins", "_law_own", "_law_turn", "_law_at"]
abbrev P__law_greedy : List Str := ["_law_steps_here", "_law_first"]
noncomputable def b__law_greedy (Γ : Nat → FS) : SS :=
  (kSeq (kAsg (sLst (sCons (sVar 1) sNil)) (gN 2))
    (kSeq (kAsg (sLst (sCons (sVar 1) sNil)) (gN 3))
    (kSeq (kFor (iRange2 (sCons (sC (.int 1)) (sCons (sCall fLen (sCons (sVar 0) sNil)) sNil))) (gN 4) (kSeq (kAsg (sOp2 fMod (sOp2 fAddA (sVar 1) (sVar 4)) (sCall fLen (sCons (sVar 0) sNil))) (gN 5))
    (kSeq (kIf (bNot (sTru (sCall (Γ 25) (sCons (sVar 0) (sCons (sOp2 fAddA (sVar 3) (sLst (sCons (sVar 5) sNil))) sNil))))) (kSeq (kDrop (sMeth mAppend (sVar 2) (sCons (sVar 5) sNil)))
    (kAsg (sLst sNil) (gN 3))) kNext)
    (kDrop (sMeth mAppend (sVar 3) (sCons (sVar 5) sNil))))))
    (kRet (sCall fTuple (sCons (sCall fSortA (sCons (sVar 2) sNil)) sNil))))))
abbrev s__law_cut : Stmt := top 39
abbrev N__law_cut : List Str := ["_law_stream_here", "_law_steps_here", "_law_found", "_law_turn", "_law_other"]
abbrev P__law_cut : List Str := ["_law_stream_here", "_law_steps_here"]
noncomputable def b__law_cut (Γ : Nat → FS) : SS :=
  (kSeq (kAsg (sCall fList (sCons (sCall (Γ 26) (sCons (sVar 1) (sCons (sCall (Γ 19) (sCons (sVar 0) (sCons (sCall fLen (sCons (sVar 1) sNil)) sNil))) sNil))) sNil)) (gN 2))
    (kSeq (kFor (iRange (sCons (sCall (Γ 19) (sCons (sVar 0) (sCons (sC (.int 4)) sNil))) sNil)) (gN 3) (kSeq (kAsg (sCall (Γ 19) (sCons (sVar 0) (sCons (sCall fLen (sCons (sVar 1) sNil)) sNil))) (gN 4))
    (kIf (sVal (sOp2 (fInA true) (sVar 4) (sVar 2))) (kDrop (sMeth mAppend (sVar 2) (sCons (sVar 4) sNil))) kNext)))
    (kRet (sCall fTuple (sCons (sCall fSortA (sCons (sVar 2) sNil)) sNil)))))
abbrev s__law_between : Stmt := top 40
abbrev N__law_between : List Str := ["_law_sections_here", "_law_steps_here", "_law_number", "_law_places", "_law_at", "_law_piston", "_law_side"]
abbrev P__law_between : List Str := ["_law_sections_here", "_law_steps_here", "_law_number"]
noncomputable def b__law_between (Γ : Nat → FS) : SS :=
  (kSeq (kAsg (sOp2 fMulA (sLst (sCons (sC (.int 0)) sNil)) (sCall fLen (sCons (sVar 0) sNil))) (gN 3))
    (kSeq (kFor (iRange2 (sCons (sVar 2) (sCons (sOp2 fAddA (sVar 2) (sCall fLen (sCons (sVar 1) sNil))) sNil))) (gN 4) (kFor (iSeq (sOp2 fIx (sVar 1) (sOp2 fMod (sVar 4) (sCall fLen (sCons (sVar 1) sNil))))) (gT [5, 6]) (kPut (sOp2 fMulA (sOp2 fMulA (sC (.int 2)) (sOp2 fIx (sVar 0) (sVar 5))) (sVar 6)) (sVar 3) (sVar 5))))
    (kRet (sCall fTuple (sCons (sVar 3) sNil)))))
abbrev s__law_rest : Stmt := top 41
abbrev N__law_rest : List Str := ["_law_sections_here", "_law_steps_here", "_law_cut_here", "_law_places", "_law_valves", "_law_marks", "_law_own", "_law_place"]
abbrev P__law_rest : List Str := ["_law_sections_here", "_law_steps_here", "_law_cut_here"]
noncomputable def b__law_rest (Γ : Nat → FS) : SS :=
  (kSeq (kAsg (sCall (Γ 28) (sCons (sVar 0) (sCons (sVar 1) (sCons (sC (.int 0)) sNil)))) (gN 3))
    (kSeq (kAsg (sCall fTuple (sCons (sLc (iSeq (sVar 3)) (gN 7) bYes (sCall fInt (sCons (sOp2 fGt (sVar 7) (sC (.int 0))) sNil)) [7]) sNil)) (gN 4))
    (kSeq (kAsg (sLc (iSeq (sCall (Γ 24) (sCons (sVar 1) (sCons (sVar 2) sNil)))) (gN 6) bYes (sCall fInt (sCons (sOp2 (fInA false) (sOp2 fSub (sCall fLen (sCons (sVar 1) sNil)) (sC (.int 1))) (sVar 6)) sNil)) [6]) (gN 5))
    (kRet (sTup (sCons (sVar 3) (sCons (sVar 4) (sCons (sCall fTuple (sCons (sVar 5) sNil)) (sCons (sTup (sCons (sC (.int 0)) (sCons (sC (.int 0)) sNil))) sNil)))))))))
abbrev s_law : Stmt := top 42
abbrev N_law : List Str := ["_law_script", "_law_k", "_law_stream_here", "_law_cut_here", "_law_sections_here", "_law_steps_here", "_law_found", "_law_others", "_law_one"]
abbrev P_law : List Str := ["_law_script"]
noncomputable def b_law (Γ : Nat → FS) : SS :=
  (kSeq (kFor (iRange (sCons (sC (.int 5)) sNil)) (gN 1) (kSeq (kAsg (sCall (Γ 18) (sCons (sVar 0) (sCons (sVar 1) sNil))) (gN 2))
    (kSeq (kAsg (sCall (Γ 23) (sCons (sVar 2) sNil)) (gT [4, 5]))
    (kFor (iSeq (sLst (sCons (sCall (Γ 27) (sCons (sVar 2) (sCons (sVar 5) sNil))) (sCons (sCall fTuple (sCons (sCall fLRng1 (sCons (sCall fLen (sCons (sVar 5) sNil)) sNil)) sNil)) sNil)))) (gN 3) (kSeq (kAsg (sCall (Γ 17) (sCons (sVar 4) (sCons (sVar 5) (sCons (sVar 3) sNil)))) (gN 6))
    (kSeq (kAsg (sCall fTuple (sCons (sLc (iSeq (sVar 4)) (gN 8) bYes (sOp2 fSub (sC (.int 5)) (sVar 8)) [8]) sNil)) (gN 7))
    (kSeq (kIf (sVal (sOp2 fNe (sCall fRepr (sCons (sCall (Γ 17) (sCons (sVar 7) (sCons (sVar 5) (sCons (sVar 3) sNil)))) sNil)) (sCall fRepr (sCons (sCall (Γ 29) (sCons (sVar 7) (sCons (sVar 5) (sCons (sVar 3) sNil)))) sNil)))) (kRet (sC (.bl false))) kNext)
    (kIf (bOr (sVal (sOp2 fNe (sCall fRepr (sCons (sVar 6) sNil)) (sCall fRepr (sCons (sCall (Γ 29) (sCons (sVar 4) (sCons (sVar 5) (sCons (sVar 3) sNil)))) sNil)))) (sVal (sOp2 fNe (sCall (Γ 17) (sCons (sVar 4) (sCons (sVar 5) (sCons (sVar 3) sNil)))) (sVar 6)))) (kRet (sC (.bl false))) kNext))))))))
    (kRet (sC (.bl true))))
noncomputable def meaning (i : Nat) (Γ Γ₂ : Nat → FS) : FS := match i with
  | 0 => defF 1 1 (b_is_int Γ)
  | 1 => defF 3 3 (b_is_within Γ)
  | 2 => defF 3 1 (b_is_rising Γ)
  | 3 => defF 3 2 (b_are_rising_numbers Γ Γ₂)
  | 4 => defF 1 1 (b_cam_place Γ)
  | 5 => defF 3 3 (b_end_cam Γ)
  | 6 => defF 3 3 (b_end_place Γ)
  | 7 => defF 3 1 (b_pistons_of Γ)
  | 8 => defF 5 2 (b_sides_of Γ)
  | 9 => defF 4 3 (b_between Γ)
  | 10 => defF 5 4 (b_place_ahead Γ)
  | 11 => defF 3 2 (b_is_cut Γ)
  | 12 => defF 6 3 (b_group_steps Γ)
  | 13 => defF 4 1 (b_no_piston_twice Γ)
  | 14 => defF 5 3 (b_group_of Γ)
  | 15 => defF 7 3 (b_rest_with Γ)
  | 16 => defF 2 2 (b_made_cut Γ)
  | 17 => defF 5 3 (b_group_rest Γ)
  | 18 => defF 4 2 (b__law_stream Γ)
  | 19 => defF 3 2 (b__law_take Γ)
  | 20 => defF 4 2 (b__law_sections Γ)
  | 21 => defF 6 2 (b__law_moves Γ)
  | 22 => defF 10 3 (b__law_steps Γ)
  | 23 => defF 4 1 (b__law_drawn Γ)
  | 24 => defF 6 2 (b__law_groups Γ)
  | 25 => defF 7 2 (b__law_once Γ)
  | 26 => defF 6 2 (b__law_greedy Γ)
  | 27 => defF 5 2 (b__law_cut Γ)
  | 28 => defF 7 3 (b__law_between Γ)
  | 29 => defF 8 3 (b__law_rest Γ)
  | 30 => defF 9 1 (b_law Γ)
  | _ => fun _ _ => none
def isGen (i : Nat) : Bool := [3].contains i
noncomputable def G : Nat → Nat → FS
  | 0, _ => fun _ _ => none
  | 1, i => if isGen i then fun _ _ => none else meaning i (G 0) (G 0)
  | k + 2, i => meaning i (G (k + 1)) (G k)
theorem Gw_is_int {n : Nat} {a0 : D} {st : Store} {Q : D → Store → Prop} (h : W (b_is_int (G n) [some a0] st) (RetQ Q)) : W (G (n + 1) 0 [a0] st) Q := by cases n <;> exact w_def (N := 1) (ds := [a0]) rfl h
theorem Gw_is_within {n : Nat} {a0 a1 a2 : D} {st : Store} {Q : D → Store → Prop} (h : W (b_is_within (G n) [some a0, some a1, some a2] st) (RetQ Q)) : W (G (n + 1) 1 [a0, a1, a2] st) Q := by cases n <;> exact w_def (N := 3) (ds := [a0, a1, a2]) rfl h
theorem Gw_is_rising {n : Nat} {a0 : D} {st : Store} {Q : D → Store → Prop} (h : W (b_is_rising (G n) [some a0, none, none] st) (RetQ Q)) : W (G (n + 1) 2 [a0] st) Q := by cases n <;> exact w_def (N := 3) (ds := [a0]) rfl h
theorem Gw_are_rising_numbers {n : Nat} {a0 a1 : D} {st : Store} {Q : D → Store → Prop} (h : W (b_are_rising_numbers (G (n + 1)) (G n) [some a0, some a1, none] st) (RetQ Q)) : W (G (n + 2) 3 [a0, a1] st) Q := w_def (N := 3) (ds := [a0, a1]) rfl h
theorem Gw_cam_place {n : Nat} {a0 : D} {st : Store} {Q : D → Store → Prop} (h : W (b_cam_place (G n) [some a0] st) (RetQ Q)) : W (G (n + 1) 4 [a0] st) Q := by cases n <;> exact w_def (N := 1) (ds := [a0]) rfl h
theorem Gw_end_cam {n : Nat} {a0 a1 a2 : D} {st : Store} {Q : D → Store → Prop} (h : W (b_end_cam (G n) [some a0, some a1, some a2] st) (RetQ Q)) : W (G (n + 1) 5 [a0, a1, a2] st) Q := by cases n <;> exact w_def (N := 3) (ds := [a0, a1, a2]) rfl h
theorem Gw_end_place {n : Nat} {a0 a1 a2 : D} {st : Store} {Q : D → Store → Prop} (h : W (b_end_place (G n) [some a0, some a1, some a2] st) (RetQ Q)) : W (G (n + 1) 6 [a0, a1, a2] st) Q := by cases n <;> exact w_def (N := 3) (ds := [a0, a1, a2]) rfl h
theorem Gw_pistons_of {n : Nat} {a0 : D} {st : Store} {Q : D → Store → Prop} (h : W (b_pistons_of (G n) [some a0, none, none] st) (RetQ Q)) : W (G (n + 1) 7 [a0] st) Q := by cases n <;> exact w_def (N := 3) (ds := [a0]) rfl h
theorem Gw_sides_of {n : Nat} {a0 a1 : D} {st : Store} {Q : D → Store → Prop} (h : W (b_sides_of (G n) [some a0, some a1, none, none, none] st) (RetQ Q)) : W (G (n + 1) 8 [a0, a1] st) Q := by cases n <;> exact w_def (N := 5) (ds := [a0, a1]) rfl h
theorem Gw_between {n : Nat} {a0 a1 a2 : D} {st : Store} {Q : D → Store → Prop} (h : W (b_between (G n) [some a0, some a1, some a2, none] st) (RetQ Q)) : W (G (n + 1) 9 [a0, a1, a2] st) Q := by cases n <;> exact w_def (N := 4) (ds := [a0, a1, a2]) rfl h
theorem Gw_place_ahead {n : Nat} {a0 a1 a2 a3 : D} {st : Store} {Q : D → Store → Prop} (h : W (b_place_ahead (G n) [some a0, some a1, some a2, some a3, none] st) (RetQ Q)) : W (G (n + 1) 10 [a0, a1, a2, a3] st) Q := by cases n <;> exact w_def (N := 5) (ds := [a0, a1, a2, a3]) rfl h
theorem Gw_is_cut {n : Nat} {a0 a1 : D} {st : Store} {Q : D → Store → Prop} (h : W (b_is_cut (G n) [some a0, some a1, none] st) (RetQ Q)) : W (G (n + 1) 11 [a0, a1] st) Q := by cases n <;> exact w_def (N := 3) (ds := [a0, a1]) rfl h
theorem Gw_group_steps {n : Nat} {a0 a1 a2 : D} {st : Store} {Q : D → Store → Prop} (h : W (b_group_steps (G n) [some a0, some a1, some a2, none, none, none] st) (RetQ Q)) : W (G (n + 1) 12 [a0, a1, a2] st) Q := by cases n <;> exact w_def (N := 6) (ds := [a0, a1, a2]) rfl h
theorem Gw_no_piston_twice {n : Nat} {a0 : D} {st : Store} {Q : D → Store → Prop} (h : W (b_no_piston_twice (G n) [some a0, none, none, none] st) (RetQ Q)) : W (G (n + 1) 13 [a0] st) Q := by cases n <;> exact w_def (N := 4) (ds := [a0]) rfl h
theorem Gw_group_of {n : Nat} {a0 a1 a2 : D} {st : Store} {Q : D → Store → Prop} (h : W (b_group_of (G n) [some a0, some a1, some a2, none, none] st) (RetQ Q)) : W (G (n + 1) 14 [a0, a1, a2] st) Q := by cases n <;> exact w_def (N := 5) (ds := [a0, a1, a2]) rfl h
theorem Gw_rest_with {n : Nat} {a0 a1 a2 : D} {st : Store} {Q : D → Store → Prop} (h : W (b_rest_with (G n) [some a0, some a1, some a2, none, none, none, none] st) (RetQ Q)) : W (G (n + 1) 15 [a0, a1, a2] st) Q := by cases n <;> exact w_def (N := 7) (ds := [a0, a1, a2]) rfl h
theorem Gw_made_cut {n : Nat} {a0 a1 : D} {st : Store} {Q : D → Store → Prop} (h : W (b_made_cut (G n) [some a0, some a1] st) (RetQ Q)) : W (G (n + 1) 16 [a0, a1] st) Q := by cases n <;> exact w_def (N := 2) (ds := [a0, a1]) rfl h
theorem Gw_group_rest {n : Nat} {a0 a1 a2 : D} {st : Store} {Q : D → Store → Prop} (h : W (b_group_rest (G n) [some a0, some a1, some a2, none, none] st) (RetQ Q)) : W (G (n + 1) 17 [a0, a1, a2] st) Q := by cases n <;> exact w_def (N := 5) (ds := [a0, a1, a2]) rfl h
theorem Gw__law_stream {n : Nat} {a0 a1 : D} {st : Store} {Q : D → Store → Prop} (h : W (b__law_stream (G n) [some a0, some a1, none, none] st) (RetQ Q)) : W (G (n + 1) 18 [a0, a1] st) Q := by cases n <;> exact w_def (N := 4) (ds := [a0, a1]) rfl h
theorem Gw__law_take {n : Nat} {a0 a1 : D} {st : Store} {Q : D → Store → Prop} (h : W (b__law_take (G n) [some a0, some a1, none] st) (RetQ Q)) : W (G (n + 1) 19 [a0, a1] st) Q := by cases n <;> exact w_def (N := 3) (ds := [a0, a1]) rfl h
theorem Gw__law_sections {n : Nat} {a0 a1 : D} {st : Store} {Q : D → Store → Prop} (h : W (b__law_sections (G n) [some a0, some a1, none, none] st) (RetQ Q)) : W (G (n + 1) 20 [a0, a1] st) Q := by cases n <;> exact w_def (N := 4) (ds := [a0, a1]) rfl h
theorem Gw__law_moves {n : Nat} {a0 a1 : D} {st : Store} {Q : D → Store → Prop} (h : W (b__law_moves (G n) [some a0, some a1, none, none, none, none] st) (RetQ Q)) : W (G (n + 1) 21 [a0, a1] st) Q := by cases n <;> exact w_def (N := 6) (ds := [a0, a1]) rfl h
theorem Gw__law_steps {n : Nat} {a0 a1 a2 : D} {st : Store} {Q : D → Store → Prop} (h : W (b__law_steps (G n) [some a0, some a1, some a2, none, none, none, none, none, none, none] st) (RetQ Q)) : W (G (n + 1) 22 [a0, a1, a2] st) Q := by cases n <;> exact w_def (N := 10) (ds := [a0, a1, a2]) rfl h
theorem Gw__law_drawn {n : Nat} {a0 : D} {st : Store} {Q : D → Store → Prop} (h : W (b__law_drawn (G n) [some a0, none, none, none] st) (RetQ Q)) : W (G (n + 1) 23 [a0] st) Q := by cases n <;> exact w_def (N := 4) (ds := [a0]) rfl h
theorem Gw__law_groups {n : Nat} {a0 a1 : D} {st : Store} {Q : D → Store → Prop} (h : W (b__law_groups (G n) [some a0, some a1, none, none, none, none] st) (RetQ Q)) : W (G (n + 1) 24 [a0, a1] st) Q := by cases n <;> exact w_def (N := 6) (ds := [a0, a1]) rfl h
theorem Gw__law_once {n : Nat} {a0 a1 : D} {st : Store} {Q : D → Store → Prop} (h : W (b__law_once (G n) [some a0, some a1, none, none, none, none, none] st) (RetQ Q)) : W (G (n + 1) 25 [a0, a1] st) Q := by cases n <;> exact w_def (N := 7) (ds := [a0, a1]) rfl h
theorem Gw__law_greedy {n : Nat} {a0 a1 : D} {st : Store} {Q : D → Store → Prop} (h : W (b__law_greedy (G n) [some a0, some a1, none, none, none, none] st) (RetQ Q)) : W (G (n + 1) 26 [a0, a1] st) Q := by cases n <;> exact w_def (N := 6) (ds := [a0, a1]) rfl h
theorem Gw__law_cut {n : Nat} {a0 a1 : D} {st : Store} {Q : D → Store → Prop} (h : W (b__law_cut (G n) [some a0, some a1, none, none, none] st) (RetQ Q)) : W (G (n + 1) 27 [a0, a1] st) Q := by cases n <;> exact w_def (N := 5) (ds := [a0, a1]) rfl h
theorem Gw__law_between {n : Nat} {a0 a1 a2 : D} {st : Store} {Q : D → Store → Prop} (h : W (b__law_between (G n) [some a0, some a1, some a2, none, none, none, none] st) (RetQ Q)) : W (G (n + 1) 28 [a0, a1, a2] st) Q := by cases n <;> exact w_def (N := 7) (ds := [a0, a1, a2]) rfl h
theorem Gw__law_rest {n : Nat} {a0 a1 a2 : D} {st : Store} {Q : D → Store → Prop} (h : W (b__law_rest (G n) [some a0, some a1, some a2, none, none, none, none, none] st) (RetQ Q)) : W (G (n + 1) 29 [a0, a1, a2] st) Q := by cases n <;> exact w_def (N := 8) (ds := [a0, a1, a2]) rfl h
theorem Gw_law {n : Nat} {a0 : D} {st : Store} {Q : D → Store → Prop} (h : W (b_law (G n) [some a0, none, none, none, none, none, none, none, none] st) (RetQ Q)) : W (G (n + 1) 30 [a0] st) Q := by cases n <;> exact w_def (N := 9) (ds := [a0]) rfl h
end My
namespace My
open PySem L2 Ev
structure Txt (K : PySem.W.Frag) (mg : Str → Option Value) (f : Nat → Addr) (fd : Nat → FuncData) : Prop where
  F0 : Fun K "is_int" "is_int" s_is_int (f 0) (fd 0)
  b0 : Binds K (fd 0) P_is_int []
  m0 : mg "is_int" = some (.ref (f 0))
  F1 : Fun K "is_within" "is_within" s_is_within (f 1) (fd 1)
  b1 : Binds K (fd 1) P_is_within []
  m1 : mg "is_within" = some (.ref (f 1))
  F2 : Fun K "is_rising" "is_rising" s_is_rising (f 2) (fd 2)
  b2 : Binds K (fd 2) P_is_rising []
  m2 : mg "is_rising" = some (.ref (f 2))
  F3 : Fun K "are_rising_numbers" "are_rising_numbers" s_are_rising_numbers (f 3) (fd 3)
  b3 : Binds K (fd 3) P_are_rising_numbers []
  m3 : mg "are_rising_numbers" = some (.ref (f 3))
  g3 : Gx.genAt K (fd 3).code = true
  F4 : Fun K "cam_place" "cam_place" s_cam_place (f 4) (fd 4)
  b4 : Binds K (fd 4) P_cam_place []
  m4 : mg "cam_place" = some (.ref (f 4))
  F5 : Fun K "end_cam" "end_cam" s_end_cam (f 5) (fd 5)
  b5 : Binds K (fd 5) P_end_cam []
  m5 : mg "end_cam" = some (.ref (f 5))
  F6 : Fun K "end_place" "end_place" s_end_place (f 6) (fd 6)
  b6 : Binds K (fd 6) P_end_place []
  m6 : mg "end_place" = some (.ref (f 6))
  F7 : Fun K "pistons_of" "pistons_of" s_pistons_of (f 7) (fd 7)
  b7 : Binds K (fd 7) P_pistons_of []
  m7 : mg "pistons_of" = some (.ref (f 7))
  F8 : Fun K "sides_of" "sides_of" s_sides_of (f 8) (fd 8)
  b8 : Binds K (fd 8) P_sides_of []
  m8 : mg "sides_of" = some (.ref (f 8))
  F9 : Fun K "between" "between" s_between (f 9) (fd 9)
  b9 : Binds K (fd 9) P_between []
  m9 : mg "between" = some (.ref (f 9))
  F10 : Fun K "place_ahead" "place_ahead" s_place_ahead (f 10) (fd 10)
  b10 : Binds K (fd 10) P_place_ahead []
  m10 : mg "place_ahead" = some (.ref (f 10))
  F11 : Fun K "is_cut" "is_cut" s_is_cut (f 11) (fd 11)
  b11 : Binds K (fd 11) P_is_cut []
  m11 : mg "is_cut" = some (.ref (f 11))
  F12 : Fun K "group_steps" "group_steps" s_group_steps (f 12) (fd 12)
  b12 : Binds K (fd 12) P_group_steps []
  m12 : mg "group_steps" = some (.ref (f 12))
  F13 : Fun K "no_piston_twice" "no_piston_twice" s_no_piston_twice (f 13) (fd 13)
  b13 : Binds K (fd 13) P_no_piston_twice []
  m13 : mg "no_piston_twice" = some (.ref (f 13))
  F14 : Fun K "group_of" "group_of" s_group_of (f 14) (fd 14)
  b14 : Binds K (fd 14) P_group_of []
  m14 : mg "group_of" = some (.ref (f 14))
  F15 : Fun K "rest_with" "rest_with" s_rest_with (f 15) (fd 15)
  b15 : Binds K (fd 15) P_rest_with []
  m15 : mg "rest_with" = some (.ref (f 15))
  F16 : Fun K "made_cut" "made_cut" s_made_cut (f 16) (fd 16)
  b16 : Binds K (fd 16) P_made_cut []
  m16 : mg "made_cut" = some (.ref (f 16))
  F17 : Fun K "group_rest" "group_rest" s_group_rest (f 17) (fd 17)
  b17 : Binds K (fd 17) P_group_rest []
  m17 : mg "group_rest" = some (.ref (f 17))
  F18 : Fun K "_law_stream" "_law_stream" s__law_stream (f 18) (fd 18)
  b18 : Binds K (fd 18) P__law_stream []
  m18 : mg "_law_stream" = some (.ref (f 18))
  F19 : Fun K "_law_take" "_law_take" s__law_take (f 19) (fd 19)
  b19 : Binds K (fd 19) P__law_take []
  m19 : mg "_law_take" = some (.ref (f 19))
  F20 : Fun K "_law_sections" "_law_sections" s__law_sections (f 20) (fd 20)
  b20 : Binds K (fd 20) P__law_sections []
  m20 : mg "_law_sections" = some (.ref (f 20))
  F21 : Fun K "_law_moves" "_law_moves" s__law_moves (f 21) (fd 21)
  b21 : Binds K (fd 21) P__law_moves []
  m21 : mg "_law_moves" = some (.ref (f 21))
  F22 : Fun K "_law_steps" "_law_steps" s__law_steps (f 22) (fd 22)
  b22 : Binds K (fd 22) P__law_steps []
  m22 : mg "_law_steps" = some (.ref (f 22))
  F23 : Fun K "_law_drawn" "_law_drawn" s__law_drawn (f 23) (fd 23)
  b23 : Binds K (fd 23) P__law_drawn []
  m23 : mg "_law_drawn" = some (.ref (f 23))
  F24 : Fun K "_law_groups" "_law_groups" s__law_groups (f 24) (fd 24)
  b24 : Binds K (fd 24) P__law_groups []
  m24 : mg "_law_groups" = some (.ref (f 24))
  F25 : Fun K "_law_once" "_law_once" s__law_once (f 25) (fd 25)
  b25 : Binds K (fd 25) P__law_once []
  m25 : mg "_law_once" = some (.ref (f 25))
  F26 : Fun K "_law_greedy" "_law_greedy" s__law_greedy (f 26) (fd 26)
  b26 : Binds K (fd 26) P__law_greedy []
  m26 : mg "_law_greedy" = some (.ref (f 26))
  F27 : Fun K "_law_cut" "_law_cut" s__law_cut (f 27) (fd 27)
  b27 : Binds K (fd 27) P__law_cut []
  m27 : mg "_law_cut" = some (.ref (f 27))
  F28 : Fun K "_law_between" "_law_between" s__law_between (f 28) (fd 28)
  b28 : Binds K (fd 28) P__law_between []
  m28 : mg "_law_between" = some (.ref (f 28))
  F29 : Fun K "_law_rest" "_law_rest" s__law_rest (f 29) (fd 29)
  b29 : Binds K (fd 29) P__law_rest []
  m29 : mg "_law_rest" = some (.ref (f 29))
  F30 : Fun K "law" "law" s_law (f 30) (fd 30)
  b30 : Binds K (fd 30) P_law []
  m30 : mg "law" = some (.ref (f 30))
  z_abs : mg "abs" = none
  z_all : mg "all" = none
  z_bool : mg "bool" = none
  z_enumerate : mg "enumerate" = none
  z_int : mg "int" = none
  z_isinstance : mg "isinstance" = none
  z_len : mg "len" = none
  z_list : mg "list" = none
  z_range : mg "range" = none
  z_repr : mg "repr" = none
  z_set : mg "set" = none
  z_sorted : mg "sorted" = none
  z_sum : mg "sum" = none
  z_tuple : mg "tuple" = none
  z_zip : mg "zip" = none
  c_KEYS : ∃ t, mg "KEYS" = some (.int 2 t)
def pars (i : Nat) : List Str := match i with
  | 0 => P_is_int
  | 1 => P_is_within
  | 2 => P_is_rising
  | 3 => P_are_rising_numbers
  | 4 => P_cam_place
  | 5 => P_end_cam
  | 6 => P_end_place
  | 7 => P_pistons_of
  | 8 => P_sides_of
  | 9 => P_between
  | 10 => P_place_ahead
  | 11 => P_is_cut
  | 12 => P_group_steps
  | 13 => P_no_piston_twice
  | 14 => P_group_of
  | 15 => P_rest_with
  | 16 => P_made_cut
  | 17 => P_group_rest
  | 18 => P__law_stream
  | 19 => P__law_take
  | 20 => P__law_sections
  | 21 => P__law_moves
  | 22 => P__law_steps
  | 23 => P__law_drawn
  | 24 => P__law_groups
  | 25 => P__law_once
  | 26 => P__law_greedy
  | 27 => P__law_cut
  | 28 => P__law_between
  | 29 => P__law_rest
  | 30 => P_law
  | _ => []
theorem sc_is_int : FnScope N_is_int P_is_int (defScope s_is_int) := ⟨rfl, rfl, rfl, by decide +kernel, rfl, by decide +kernel, by decide +kernel⟩
theorem ok_is_int {P : Program} {w : World} {K : PySem.W.Frag} {mg : Str → Option Value} {base : Heap} {f : Nat → Addr} {fd : Nat → FuncData} {k : Nat} (T : Txt K mg f fd)
    (IH : ∀ i, FnOk P w K mg base CX0 k (f i) (fd i) (pars i) (spOf K (G k i))) : FnOk P w K mg base CX0 (k + 1) (f 0) (fd 0) (pars 0) (spOf K (defF 1 1 (b_is_int (G k)))) := by
  refine fn_ev (N := N_is_int) (ps := P_is_int) (B := b_is_int (G k)) T.F0 sc_is_int fun cdv A outer s H E hr => ?_
  have nd := sc_is_int.nd
  exact (ess_one (es_ret (ev_and (ev_isiI T.z_isinstance T.z_int (ev_var 0)) (ev_one (ev_not (ev_isiB T.z_isinstance T.z_bool (ev_var 0)))))))
theorem sc_is_within : FnScope N_is_within P_is_within (defScope s_is_within) := ⟨rfl, rfl, rfl, by decide +kernel, rfl, by decide +kernel, by decide +kernel⟩
theorem ok_is_within {P : Program} {w : World} {K : PySem.W.Frag} {mg : Str → Option Value} {base : Heap} {f : Nat → Addr} {fd : Nat → FuncData} {k : Nat} (T : Txt K mg f fd)
    (IH : ∀ i, FnOk P w K mg base CX0 k (f i) (fd i) (pars i) (spOf K (G k i))) : FnOk P w K mg base CX0 (k + 1) (f 1) (fd 1) (pars 1) (spOf K (defF 3 3 (b_is_within (G k)))) := by
  refine fn_ev (N := N_is_within) (ps := P_is_within) (B := b_is_within (G k)) T.F1 sc_is_within fun cdv A outer s H E hr => ?_
  have nd := sc_is_within.nd
  exact (ess_one (es_ret (ev_and (ev_call (IH 0) hr T.m0 T.F0.kp T.b0 (ea_cons (ev_var 0) ea_nil)) (ev_one (ev_lele (ev_var 1) (ev_var 0) (ev_var 2))))))
theorem sc_is_rising : FnScope N_is_rising P_is_rising (defScope s_is_rising) := ⟨rfl, rfl, rfl, by decide +kernel, rfl, by decide +kernel, by decide +kernel⟩
theorem ok_is_rising {P : Program} {w : World} {K : PySem.W.Frag} {mg : Str → Option Value} {base : Heap} {f : Nat → Addr} {fd : Nat → FuncData} {k : Nat} (T : Txt K mg f fd)
    (IH : ∀ i, FnOk P w K mg base CX0 k (f i) (fd i) (pars i) (spOf K (G k i))) : FnOk P w K mg base CX0 (k + 1) (f 2) (fd 2) (pars 2) (spOf K (defF 3 1 (b_is_rising (G k)))) := by
  refine fn_ev (N := N_is_rising) (ps := P_is_rising) (B := b_is_rising (G k)) T.F2 sc_is_rising fun cdv A outer s H E hr => ?_
  have nd := sc_is_rising.nd
  exact (ess_one (es_ret (ev_allL rfl T.z_all (ea_cons (ev_lc rfl nd (ei_zip2 T.z_zip (ea_cons (ev_var 0) (ea_cons (ev_slA (ev_var 0) (eo_some ev_int) eo_none) ea_nil))) (blkOk_by (own := [("thing", 1), ("following", 2)]) (N := N_is_rising) (sc := defScope s_is_rising) (by decide +kernel)) rfl (vs := [1, 2]) (gok_tup (is := [1, 2]) (by decide) rfl) (fun _ _ _ _ _ => (pg_tup rfl (pgs_cons (pg_name (i := 1) nd rfl (by first | exact Or.inl rfl | exact Or.inr rfl)) (pgs_cons (pg_name (i := 2) nd rfl (by first | exact Or.inl rfl | exact Or.inr rfl)) pgs_nil)))) (fun _ _ _ _ _ => ets_nil) (fun _ _ _ _ _ => (ev_lt (ev_var 1) (ev_var 2)))) ea_nil))))
theorem sc_are_rising_numbers : FnScope N_are_rising_numbers P_are_rising_numbers (defScope s_are_rising_numbers) := ⟨rfl, rfl, rfl, by decide +kernel, rfl, by decide +kernel, by decide +kernel⟩
theorem ok_are_rising_numbers {P : Program} {w : World} {K : PySem.W.Frag} {mg : Str → Option Value} {base : Heap} {f : Nat → Addr} {fd : Nat → FuncData} {k : Nat} (T : Txt K mg f fd) (hb : Gx.BmOk base mg)
    (IH : ∀ i, FnOk P w K mg base CX0 (k + 1) (f i) (fd i) (pars i) (spOf K (G (k + 1) i))) (IH2 : ∀ i, FnOk P w K mg base CX0 k (f i) (fd i) (pars i) (spOf K (G k i))) : FnOk P w K mg base CX0 (k + 2) (f 3) (fd 3) (pars 3) (spOf K (defF 3 2 (b_are_rising_numbers (G (k + 1)) (G k)))) := by
  refine fn_evG (N := N_are_rising_numbers) (ps := P_are_rising_numbers) (B := b_are_rising_numbers (G (k + 1)) (G k)) T.F3 sc_are_rising_numbers fun cdv A outer s H E hcd hr => ?_
  have nd := sc_are_rising_numbers.nd
  have ge : Gx.genAt K cdv = true := by rw [← hcd]; exact T.g3
  exact (ess_cons (es_if (et_w (ew_or (et_not (et_tru (ev_isiT T.z_isinstance T.z_tuple (ev_var 0)))) (ew_or1 (et_eq hr (ev_len T.z_len (ea_cons (ev_var 0) ea_nil)) ev_int)))) (ess_one (es_ret ev_bl)) ess_nil)
    (ess_one (es_ret (ev_and (ev_all rfl hr nd (ei_seq (ev_var 0)) (blkOk_by (own := [("part", 2)]) (N := N_are_rising_numbers) (sc := defScope s_are_rising_numbers) (by decide +kernel)) rfl (vs := [2]) (gok_name (by decide)) ge hb (by decide +kernel) rfl rfl (fun _ _ _ _ _ _ _ h1 h2 h3 h4 => (pg_name (i := 2) nd rfl (by first | exact Or.inl rfl | exact Or.inr rfl))) (fun _ _ _ _ _ _ _ h1 h2 h3 h4 => (ev_call (IH2 1) (Room.gen hr h1 h2 h3 h4) T.m1 T.F1.kp T.b1 (ea_cons (ev_var 2) (ea_cons ev_int (ea_cons (ev_sub (ev_var 1) ev_int) ea_nil))))) T.z_all) (ev_one (ev_call (IH 2) hr T.m2 T.F2.kp T.b2 (ea_cons (ev_var 0) ea_nil)))))))
theorem sc_cam_place : FnScope N_cam_place P_cam_place (defScope s_cam_place) := ⟨rfl, rfl, rfl, by decide +kernel, rfl, by decide +kernel, by decide +kernel⟩
theorem ok_cam_place {P : Program} {w : World} {K : PySem.W.Frag} {mg : Str → Option Value} {base : Heap} {f : Nat → Addr} {fd : Nat → FuncData} {k : Nat} (T : Txt K mg f fd)
    (IH : ∀ i, FnOk P w K mg base CX0 k (f i) (fd i) (pars i) (spOf K (G k i))) : FnOk P w K mg base CX0 (k + 1) (f 4) (fd 4) (pars 4) (spOf K (defF 1 1 (b_cam_place (G k)))) := by
  refine fn_ev (N := N_cam_place) (ps := P_cam_place) (B := b_cam_place (G k)) T.F4 sc_cam_place fun cdv A outer s H E hr => ?_
  have nd := sc_cam_place.nd
  exact (ess_one (es_ret (ev_mulA ev_int (ev_var 0))))
theorem sc_end_cam : FnScope N_end_cam P_end_cam (defScope s_end_cam) := ⟨rfl, rfl, rfl, by decide +kernel, rfl, by decide +kernel, by decide +kernel⟩
theorem ok_end_cam {P : Program} {w : World} {K : PySem.W.Frag} {mg : Str → Option Value} {base : Heap} {f : Nat → Addr} {fd : Nat → FuncData} {k : Nat} (T : Txt K mg f fd)
    (IH : ∀ i, FnOk P w K mg base CX0 k (f i) (fd i) (pars i) (spOf K (G k i))) : FnOk P w K mg base CX0 (k + 1) (f 5) (fd 5) (pars 5) (spOf K (defF 3 3 (b_end_cam (G k)))) := by
  refine fn_ev (N := N_end_cam) (ps := P_end_cam) (B := b_end_cam (G k)) T.F5 sc_end_cam fun cdv A outer s H E hr => ?_
  have nd := sc_end_cam.nd
  exact (ess_one (es_ret (ev_ifx (et_eq hr (ev_var 2) ev_int) (ev_sb (ev_var 0) (ev_var 1)) ev_int)))
theorem sc_end_place : FnScope N_end_place P_end_place (defScope s_end_place) := ⟨rfl, rfl, rfl, by decide +kernel, rfl, by decide +kernel, by decide +kernel⟩
theorem ok_end_place {P : Program} {w : World} {K : PySem.W.Frag} {mg : Str → Option Value} {base : Heap} {f : Nat → Addr} {fd : Nat → FuncData} {k : Nat} (T : Txt K mg f fd)
    (IH : ∀ i, FnOk P w K mg base CX0 k (f i) (fd i) (pars i) (spOf K (G k i))) : FnOk P w K mg base CX0 (k + 1) (f 6) (fd 6) (pars 6) (spOf K (defF 3 3 (b_end_place (G k)))) := by
  refine fn_ev (N := N_end_place) (ps := P_end_place) (B := b_end_place (G k)) T.F6 sc_end_place fun cdv A outer s H E hr => ?_
  have nd := sc_end_place.nd
  exact (ess_one (es_ret (ev_call (IH 4) hr T.m4 T.F4.kp T.b4 (ea_cons (ev_call (IH 5) hr T.m5 T.F5.kp T.b5 (ea_cons (ev_var 0) (ea_cons (ev_var 1) (ea_cons (ev_var 2) ea_nil)))) ea_nil))))
theorem sc_pistons_of : FnScope N_pistons_of P_pistons_of (defScope s_pistons_of) := ⟨rfl, rfl, rfl, by decide +kernel, rfl, by decide +kernel, by decide +kernel⟩
theorem ok_pistons_of {P : Program} {w : World} {K : PySem.W.Frag} {mg : Str → Option Value} {base : Heap} {f : Nat → Addr} {fd : Nat → FuncData} {k : Nat} (T : Txt K mg f fd)
    (IH : ∀ i, FnOk P w K mg base CX0 k (f i) (fd i) (pars i) (spOf K (G k i))) : FnOk P w K mg base CX0 (k + 1) (f 7) (fd 7) (pars 7) (spOf K (defF 3 1 (b_pistons_of (G k)))) := by
  refine fn_ev (N := N_pistons_of) (ps := P_pistons_of) (B := b_pistons_of (G k)) T.F7 sc_pistons_of fun cdv A outer s H E hr => ?_
  have nd := sc_pistons_of.nd
  exact (ess_one (es_ret (ev_lc rfl nd (ei_seq (ev_var 0)) (blkOk_by (own := [("p", 1), ("side", 2)]) (N := N_pistons_of) (sc := defScope s_pistons_of) (by decide +kernel)) rfl (vs := [1, 2]) (gok_tup (is := [1, 2]) (by decide) rfl) (fun _ _ _ _ _ => (pg_tup rfl (pgs_cons (pg_name (i := 1) nd rfl (by first | exact Or.inl rfl | exact Or.inr rfl)) (pgs_cons (pg_name (i := 2) nd rfl (by first | exact Or.inl rfl | exact Or.inr rfl)) pgs_nil)))) (fun _ _ _ _ _ => ets_nil) (fun _ _ _ _ _ => (ev_var 1)))))
theorem sc_sides_of : FnScope N_sides_of P_sides_of (defScope s_sides_of) := ⟨rfl, rfl, rfl, by decide +kernel, rfl, by decide +kernel, by decide +kernel⟩
theorem ok_sides_of {P : Program} {w : World} {K : PySem.W.Frag} {mg : Str → Option Value} {base : Heap} {f : Nat → Addr} {fd : Nat → FuncData} {k : Nat} (T : Txt K mg f fd)
    (IH : ∀ i, FnOk P w K mg base CX0 k (f i) (fd i) (pars i) (spOf K (G k i))) : FnOk P w K mg base CX0 (k + 1) (f 8) (fd 8) (pars 8) (spOf K (defF 5 2 (b_sides_of (G k)))) := by
  refine fn_ev (N := N_sides_of) (ps := P_sides_of) (B := b_sides_of (G k)) T.F8 sc_sides_of fun cdv A outer s H E hr => ?_
  have nd := sc_sides_of.nd
  exact (ess_one (es_ret (ev_lc2 rfl nd (ei_seq (ev_var 0)) (blkOk_by (own := [("step", 2), ("mover", 3), ("side", 4)]) (N := N_sides_of) (sc := defScope s_sides_of) (by decide +kernel)) rfl (vs := [2, 3, 4]) (vs1 := [3, 4]) (by decide) (gok_name (by decide)) (gok_tup (is := [3, 4]) (by decide) rfl) (fun _ _ _ _ _ => (pg_name (i := 2) nd rfl (by first | exact Or.inl rfl | exact Or.inr rfl))) (fun _ _ _ _ _ => ets_nil) (fun _ _ _ _ _ => (ei_seq (ev_var 2))) (fun _ _ _ _ _ => (pg_tup rfl (pgs_cons (pg_name (i := 3) nd rfl (by first | exact Or.inl rfl | exact Or.inr rfl)) (pgs_cons (pg_name (i := 4) nd rfl (by first | exact Or.inl rfl | exact Or.inr rfl)) pgs_nil)))) (fun _ _ _ _ _ => (ets_one (et_eq hr (ev_var 3) (ev_var 1)))) (fun _ _ _ _ _ => (ev_var 4)))))
theorem sc_between : FnScope N_between P_between (defScope s_between) := ⟨rfl, rfl, rfl, by decide +kernel, rfl, by decide +kernel, by decide +kernel⟩
theorem ok_between {P : Program} {w : World} {K : PySem.W.Frag} {mg : Str → Option Value} {base : Heap} {f : Nat → Addr} {fd : Nat → FuncData} {k : Nat} (T : Txt K mg f fd)
    (IH : ∀ i, FnOk P w K mg base CX0 k (f i) (fd i) (pars i) (spOf K (G k i))) : FnOk P w K mg base CX0 (k + 1) (f 9) (fd 9) (pars 9) (spOf K (defF 4 3 (b_between (G k)))) := by
  refine fn_ev (N := N_between) (ps := P_between) (B := b_between (G k)) T.F9 sc_between fun cdv A outer s H E hr => ?_
  have nd := sc_between.nd
  exact (ess_one (es_ret (ev_tupleC T.z_tuple (ea_cons (ev_lc rfl nd (ei_range1 T.z_range (ea_cons (ev_len T.z_len (ea_cons (ev_var 0) ea_nil)) ea_nil)) (blkOk_by (own := [("p", 3)]) (N := N_between) (sc := defScope s_between) (by decide +kernel)) rfl (vs := [3]) (gok_name (by decide)) (fun _ _ _ _ _ => (pg_name (i := 3) nd rfl (by first | exact Or.inl rfl | exact Or.inr rfl))) (fun _ _ _ _ _ => ets_nil) (fun _ _ _ _ _ => (ev_call (IH 10) hr T.m10 T.F10.kp T.b10 (ea_cons (ev_var 0) (ea_cons (ev_var 1) (ea_cons (ev_var 2) (ea_cons (ev_var 3) ea_nil))))))) ea_nil))))
theorem sc_place_ahead : FnScope N_place_ahead P_place_ahead (defScope s_place_ahead) := ⟨rfl, rfl, rfl, by decide +kernel, rfl, by decide +kernel, by decide +kernel⟩
theorem ok_place_ahead {P : Program} {w : World} {K : PySem.W.Frag} {mg : Str → Option Value} {base : Heap} {f : Nat → Addr} {fd : Nat → FuncData} {k : Nat} (T : Txt K mg f fd)
    (IH : ∀ i, FnOk P w K mg base CX0 k (f i) (fd i) (pars i) (spOf K (G k i))) : FnOk P w K mg base CX0 (k + 1) (f 10) (fd 10) (pars 10) (spOf K (defF 5 4 (b_place_ahead (G k)))) := by
  refine fn_ev (N := N_place_ahead) (ps := P_place_ahead) (B := b_place_ahead (G k)) T.F10 sc_place_ahead fun cdv A outer s H E hr => ?_
  have nd := sc_place_ahead.nd
  exact (ess_cons (es_set 4 nd (ev_call (IH 8) hr T.m8 T.F8.kp T.b8 (ea_cons (ev_addA (ev_slA (ev_var 1) (eo_some (ev_var 2)) eo_none) (ev_slA (ev_var 1) eo_none (eo_some (ev_var 2)))) (ea_cons (ev_var 3) ea_nil))))
    (ess_one (es_ret (ev_ifx (et_tru (ev_var 4)) (ev_call (IH 6) hr T.m6 T.F6.kp T.b6 (ea_cons (ev_var 0) (ea_cons (ev_var 3) (ea_cons (ev_sb (ev_var 4) (ev_neg ev_int)) ea_nil)))) ev_int))))
theorem sc_is_cut : FnScope N_is_cut P_is_cut (defScope s_is_cut) := ⟨rfl, rfl, rfl, by decide +kernel, rfl, by decide +kernel, by decide +kernel⟩
theorem ok_is_cut {P : Program} {w : World} {K : PySem.W.Frag} {mg : Str → Option Value} {base : Heap} {f : Nat → Addr} {fd : Nat → FuncData} {k : Nat} (T : Txt K mg f fd)
    (IH : ∀ i, FnOk P w K mg base CX0 k (f i) (fd i) (pars i) (spOf K (G k i))) : FnOk P w K mg base CX0 (k + 1) (f 11) (fd 11) (pars 11) (spOf K (defF 3 2 (b_is_cut (G k)))) := by
  refine fn_ev (N := N_is_cut) (ps := P_is_cut) (B := b_is_cut (G k)) T.F11 sc_is_cut fun cdv A outer s H E hr => ?_
  have nd := sc_is_cut.nd
  exact (ess_cons (es_if (et_not (et_tru (ev_call (IH 3) hr T.m3 T.F3.kp T.b3 (ea_cons (ev_var 1) (ea_cons (ev_len T.z_len (ea_cons (ev_var 0) ea_nil)) ea_nil))))) (ess_one (es_ret ev_bl)) ess_nil)
    (ess_one (es_ret (ev_allL rfl T.z_all (ea_cons (ev_lc rfl nd (ei_range1 T.z_range (ea_cons (ev_len T.z_len (ea_cons (ev_var 1) ea_nil)) ea_nil)) (blkOk_by (own := [("m", 2)]) (N := N_is_cut) (sc := defScope s_is_cut) (by decide +kernel)) rfl (vs := [2]) (gok_name (by decide)) (fun _ _ _ _ _ => (pg_name (i := 2) nd rfl (by first | exact Or.inl rfl | exact Or.inr rfl))) (fun _ _ _ _ _ => ets_nil) (fun _ _ _ _ _ => (ev_call (IH 13) hr T.m13 T.F13.kp T.b13 (ea_cons (ev_call (IH 12) hr T.m12 T.F12.kp T.b12 (ea_cons (ev_var 0) (ea_cons (ev_var 1) (ea_cons (ev_var 2) ea_nil)))) ea_nil)))) ea_nil)))))
theorem sc_group_steps : FnScope N_group_steps P_group_steps (defScope s_group_steps) := ⟨rfl, rfl, rfl, by decide +kernel, rfl, by decide +kernel, by decide +kernel⟩
theorem ok_group_steps {P : Program} {w : World} {K : PySem.W.Frag} {mg : Str → Option Value} {base : Heap} {f : Nat → Addr} {fd : Nat → FuncData} {k : Nat} (T : Txt K mg f fd)
    (IH : ∀ i, FnOk P w K mg base CX0 k (f i) (fd i) (pars i) (spOf K (G k i))) : FnOk P w K mg base CX0 (k + 1) (f 12) (fd 12) (pars 12) (spOf K (defF 6 3 (b_group_steps (G k)))) := by
  refine fn_ev (N := N_group_steps) (ps := P_group_steps) (B := b_group_steps (G k)) T.F12 sc_group_steps fun cdv A outer s H E hr => ?_
  have nd := sc_group_steps.nd
  exact (ess_cons (es_set 3 nd (ev_sb (ev_var 1) (ev_var 2)))
    (ess_cons (es_set 4 nd (ev_sb (ev_var 1) (ev_mod (ev_addA (ev_var 2) ev_int) (ev_len T.z_len (ea_cons (ev_var 1) ea_nil)))))
    (ess_cons (es_set 5 nd (ev_addA (ev_slA (ev_var 0) (eo_some (ev_var 3)) eo_none) (ev_slA (ev_var 0) eo_none (eo_some (ev_var 3)))))
    (ess_one (es_ret (ev_slA (ev_var 5) eo_none (eo_some (ev_addA (ev_mod (ev_sub (ev_sub (ev_var 4) (ev_var 3)) ev_int) (ev_len T.z_len (ea_cons (ev_var 0) ea_nil))) ev_int))))))))
theorem sc_no_piston_twice : FnScope N_no_piston_twice P_no_piston_twice (defScope s_no_piston_twice) := ⟨rfl, rfl, rfl, by decide +kernel, rfl, by decide +kernel, by decide +kernel⟩
theorem ok_no_piston_twice {P : Program} {w : World} {K : PySem.W.Frag} {mg : Str → Option Value} {base : Heap} {f : Nat → Addr} {fd : Nat → FuncData} {k : Nat} (T : Txt K mg f fd)
    (IH : ∀ i, FnOk P w K mg base CX0 k (f i) (fd i) (pars i) (spOf K (G k i))) : FnOk P w K mg base CX0 (k + 1) (f 13) (fd 13) (pars 13) (spOf K (defF 4 1 (b_no_piston_twice (G k)))) := by
  refine fn_ev (N := N_no_piston_twice) (ps := P_no_piston_twice) (B := b_no_piston_twice (G k)) T.F13 sc_no_piston_twice fun cdv A outer s H E hr => ?_
  have nd := sc_no_piston_twice.nd
  exact (ess_cons (es_setLc2 1 rfl nd (ei_seq (ev_var 0)) (blkOk_by (own := [("step", 2), ("p", 3)]) (N := N_no_piston_twice) (sc := defScope s_no_piston_twice) (by decide +kernel)) rfl (vs := [2, 3]) (vs1 := [3]) (by decide) (gok_name (by decide)) (gok_name (by decide)) (fun _ _ _ _ _ => (pg_name (i := 2) nd rfl (by first | exact Or.inl rfl | exact Or.inr rfl))) (fun _ _ _ _ _ => ets_nil) (fun _ _ _ _ _ => (ei_seq (ev_call (IH 7) hr T.m7 T.F7.kp T.b7 (ea_cons (ev_var 2) ea_nil)))) (fun _ _ _ _ _ => (pg_name (i := 3) nd rfl (by first | exact Or.inl rfl | exact Or.inr rfl))) (fun _ _ _ _ _ => ets_nil) (fun _ _ _ _ _ => (ev_var 3)) (sw_true rfl rfl rfl (by decide +kernel)))
    (ess_one (es_ret (ev_eq hr (ev_lenSet rfl T.z_len T.z_set (ea_cons (ev_var 1) ea_nil)) (ev_len T.z_len (ea_cons (ev_var 1) ea_nil))))))
theorem sc_group_of : FnScope N_group_of P_group_of (defScope s_group_of) := ⟨rfl, rfl, rfl, by decide +kernel, rfl, by decide +kernel, by decide +kernel⟩
theorem ok_group_of {P : Program} {w : World} {K : PySem.W.Frag} {mg : Str → Option Value} {base : Heap} {f : Nat → Addr} {fd : Nat → FuncData} {k : Nat} (T : Txt K mg f fd)
    (IH : ∀ i, FnOk P w K mg base CX0 k (f i) (fd i) (pars i) (spOf K (G k i))) : FnOk P w K mg base CX0 (k + 1) (f 14) (fd 14) (pars 14) (spOf K (defF 5 3 (b_group_of (G k)))) := by
  refine fn_ev (N := N_group_of) (ps := P_group_of) (B := b_group_of (G k)) T.F14 sc_group_of fun cdv A outer s H E hr => ?_
  have nd := sc_group_of.nd
  exact (ess_cons (es_setLc 3 rfl nd (ei_seq (ev_var 1)) (blkOk_by (own := [("begin", 4)]) (N := N_group_of) (sc := defScope s_group_of) (by decide +kernel)) rfl (vs := [4]) (gok_name (by decide)) (fun _ _ _ _ _ => (pg_name (i := 4) nd rfl (by first | exact Or.inl rfl | exact Or.inr rfl))) (fun _ _ _ _ _ => (ets_one (et_le (ev_var 4) (ev_var 2)))) (fun _ _ _ _ _ => (ev_var 4)) (sw_true rfl rfl rfl (by decide +kernel)))
    (ess_one (es_ret (ev_mod (ev_sub (ev_len T.z_len (ea_cons (ev_var 3) ea_nil)) ev_int) (ev_len T.z_len (ea_cons (ev_var 1) ea_nil))))))
theorem sc_rest_with : FnScope N_rest_with P_rest_with (defScope s_rest_with) := ⟨rfl, rfl, rfl, by decide +kernel, rfl, by decide +kernel, by decide +kernel⟩
theorem ok_rest_with {P : Program} {w : World} {K : PySem.W.Frag} {mg : Str → Option Value} {base : Heap} {f : Nat → Addr} {fd : Nat → FuncData} {k : Nat} (T : Txt K mg f fd)
    (IH : ∀ i, FnOk P w K mg base CX0 k (f i) (fd i) (pars i) (spOf K (G k i))) : FnOk P w K mg base CX0 (k + 1) (f 15) (fd 15) (pars 15) (spOf K (defF 7 3 (b_rest_with (G k)))) := by
  refine fn_ev (N := N_rest_with) (ps := P_rest_with) (B := b_rest_with (G k)) T.F15 sc_rest_with fun cdv A outer s H E hr => ?_
  have nd := sc_rest_with.nd
  exact (ess_cons (es_set 3 nd (ev_call (IH 9) hr T.m9 T.F9.kp T.b9 (ea_cons (ev_var 0) (ea_cons (ev_var 1) (ea_cons ev_int ea_nil)))))
    (ess_cons (es_set 4 nd (ev_tupleC T.z_tuple (ea_cons (ev_lc rfl nd (ei_enumA T.z_enumerate (ea_cons (ev_var 3) ea_nil)) (blkOk_by (own := [("p", 5), ("place", 6)]) (N := N_rest_with) (sc := defScope s_rest_with) (by decide +kernel)) rfl (vs := [5, 6]) (gok_tup (is := [5, 6]) (by decide) rfl) (fun _ _ _ _ _ => (pg_tup rfl (pgs_cons (pg_name (i := 5) nd rfl (by first | exact Or.inl rfl | exact Or.inr rfl)) (pgs_cons (pg_name (i := 6) nd rfl (by first | exact Or.inl rfl | exact Or.inr rfl)) pgs_nil)))) (fun _ _ _ _ _ => ets_nil) (fun _ _ _ _ _ => (ev_ifx (et_eq hr (ev_var 6) (ev_call (IH 6) hr T.m6 T.F6.kp T.b6 (ea_cons (ev_var 0) (ea_cons (ev_var 5) (ea_cons ev_int ea_nil))))) ev_int ev_int))) ea_nil)))
    (ess_one (es_ret (ev_tup (ea_cons (ev_var 3) (ea_cons (ev_var 4) (ea_cons (ev_var 2) (ea_cons (ev_mulA (ev_tup (ea_cons ev_int ea_nil)) (Exists.elim T.c_KEYS fun _ h => ev_globI h)) ea_nil)))))))))
theorem sc_made_cut : FnScope N_made_cut P_made_cut (defScope s_made_cut) := ⟨rfl, rfl, rfl, by decide +kernel, rfl, by decide +kernel, by decide +kernel⟩
theorem ok_made_cut {P : Program} {w : World} {K : PySem.W.Frag} {mg : Str → Option Value} {base : Heap} {f : Nat → Addr} {fd : Nat → FuncData} {k : Nat} (T : Txt K mg f fd)
    (IH : ∀ i, FnOk P w K mg base CX0 k (f i) (fd i) (pars i) (spOf K (G k i))) : FnOk P w K mg base CX0 (k + 1) (f 16) (fd 16) (pars 16) (spOf K (defF 2 2 (b_made_cut (G k)))) := by
  refine fn_ev (N := N_made_cut) (ps := P_made_cut) (B := b_made_cut (G k)) T.F16 sc_made_cut fun cdv A outer s H E hr => ?_
  have nd := sc_made_cut.nd
  exact (ess_cons (es_if (et_not (et_tru (ev_call (IH 11) hr T.m11 T.F11.kp T.b11 (ea_cons (ev_var 0) (ea_cons (ev_var 1) ea_nil))))) (ess_one es_never) ess_nil)
    (ess_one (es_ret (ev_var 1))))
theorem sc_group_rest : FnScope N_group_rest P_group_rest (defScope s_group_rest) := ⟨rfl, rfl, rfl, by decide +kernel, rfl, by decide +kernel, by decide +kernel⟩
theorem ok_group_rest {P : Program} {w : World} {K : PySem.W.Frag} {mg : Str → Option Value} {base : Heap} {f : Nat → Addr} {fd : Nat → FuncData} {k : Nat} (T : Txt K mg f fd)
    (IH : ∀ i, FnOk P w K mg base CX0 k (f i) (fd i) (pars i) (spOf K (G k i))) : FnOk P w K mg base CX0 (k + 1) (f 17) (fd 17) (pars 17) (spOf K (defF 5 3 (b_group_rest (G k)))) := by
  refine fn_ev (N := N_group_rest) (ps := P_group_rest) (B := b_group_rest (G k)) T.F17 sc_group_rest fun cdv A outer s H E hr => ?_
  have nd := sc_group_rest.nd
  exact (ess_cons (es_expr (ev_call (IH 16) hr T.m16 T.F16.kp T.b16 (ea_cons (ev_var 1) (ea_cons (ev_var 2) ea_nil))))
    (ess_cons (es_set 3 nd (ev_call (IH 14) hr T.m14 T.F14.kp T.b14 (ea_cons (ev_var 1) (ea_cons (ev_var 2) (ea_cons (ev_sub (ev_len T.z_len (ea_cons (ev_var 1) ea_nil)) ev_int) ea_nil)))))
    (ess_one (es_ret (ev_call (IH 15) hr T.m15 T.F15.kp T.b15 (ea_cons (ev_var 0) (ea_cons (ev_var 1) (ea_cons (ev_tupleC T.z_tuple (ea_cons (ev_lc rfl nd (ei_range1 T.z_range (ea_cons (ev_len T.z_len (ea_cons (ev_var 2) ea_nil)) ea_nil)) (blkOk_by (own := [("m", 4)]) (N := N_group_rest) (sc := defScope s_group_rest) (by decide +kernel)) rfl (vs := [4]) (gok_name (by decide)) (fun _ _ _ _ _ => (pg_name (i := 4) nd rfl (by first | exact Or.inl rfl | exact Or.inr rfl))) (fun _ _ _ _ _ => ets_nil) (fun _ _ _ _ _ => (ev_ifx (et_eq hr (ev_var 4) (ev_var 3)) ev_int ev_int))) ea_nil)) ea_nil))))))))
theorem sc__law_stream : FnScope N__law_stream P__law_stream (defScope s__law_stream) := ⟨rfl, rfl, rfl, by decide +kernel, rfl, by decide +kernel, by decide +kernel⟩
theorem ok__law_stream {P : Program} {w : World} {K : PySem.W.Frag} {mg : Str → Option Value} {base : Heap} {f : Nat → Addr} {fd : Nat → FuncData} {k : Nat} (T : Txt K mg f fd)
    (IH : ∀ i, FnOk P w K mg base CX0 k (f i) (fd i) (pars i) (spOf K (G k i))) : FnOk P w K mg base CX0 (k + 1) (f 18) (fd 18) (pars 18) (spOf K (defF 4 2 (b__law_stream (G k)))) := by
  refine fn_ev (N := N__law_stream) (ps := P__law_stream) (B := b__law_stream (G k)) T.F18 sc__law_stream fun cdv A outer s H E hr => ?_
  have nd := sc__law_stream.nd
  exact (ess_cons (es_if (et_lt (ev_var 1) (ev_len T.z_len (ea_cons (ev_var 0) ea_nil))) (ess_cons (es_set 2 nd (ev_abs T.z_abs (ea_cons (ev_sb (ev_var 0) (ev_var 1)) ea_nil)))
    (ess_cons (es_set 3 nd (ev_addA (ev_addA (ev_mod (ev_var 2) ev_int) (ev_mulA (ev_var 1) (ev_var 1))) ev_int))
    (ess_cons (es_if (et_lt (ev_var 2) (ev_pow ev_int ev_int)) (ess_one (es_set 2 nd ev_int)) ess_nil)
    (ess_one (es_ret (ev_lst (ea_cons (ev_var 2) (ea_cons (ev_var 3) ea_nil)))))))) ess_nil)
    (ess_one (es_ret (ev_lst (ea_cons ev_int (ea_cons (ev_addA (ev_mulA (ev_var 1) (ev_var 1)) ev_int) ea_nil))))))
theorem sc__law_take : FnScope N__law_take P__law_take (defScope s__law_take) := ⟨rfl, rfl, rfl, by decide +kernel, rfl, by decide +kernel, by decide +kernel⟩
theorem ok__law_take {P : Program} {w : World} {K : PySem.W.Frag} {mg : Str → Option Value} {base : Heap} {f : Nat → Addr} {fd : Nat → FuncData} {k : Nat} (T : Txt K mg f fd)
    (IH : ∀ i, FnOk P w K mg base CX0 k (f i) (fd i) (pars i) (spOf K (G k i))) : FnOk P w K mg base CX0 (k + 1) (f 19) (fd 19) (pars 19) (spOf K (defF 3 2 (b__law_take (G k)))) := by
  refine fn_ev (N := N__law_take) (ps := P__law_take) (B := b__law_take (G k)) T.F19 sc__law_take fun cdv A outer s H E hr => ?_
  have nd := sc__law_take.nd
  exact (ess_cons (es_if (et_eq hr (ev_sb (ev_var 0) ev_int) ev_int) (ess_cons (es_put (ev_mod (ev_addA (ev_mulA (ev_sb (ev_var 0) ev_int) ev_int) ev_int) ev_int) (ev_var 0) ev_int)
    (ess_one (es_ret (ev_mod (ev_mod (ev_mulA (ev_sb (ev_var 0) ev_int) (ev_sb (ev_var 0) ev_int)) ev_int) (ev_var 1))))) ess_nil)
    (ess_cons (es_set 2 nd (ev_mod (ev_sb (ev_var 0) ev_int) (ev_var 1)))
    (ess_cons (es_put (ev_div (ev_sb (ev_var 0) ev_int) (ev_var 1)) (ev_var 0) ev_int)
    (ess_one (es_ret (ev_var 2))))))
theorem sc__law_sections : FnScope N__law_sections P__law_sections (defScope s__law_sections) := ⟨rfl, rfl, rfl, by decide +kernel, rfl, by decide +kernel, by decide +kernel⟩
theorem ok__law_sections {P : Program} {w : World} {K : PySem.W.Frag} {mg : Str → Option Value} {base : Heap} {f : Nat → Addr} {fd : Nat → FuncData} {k : Nat} (T : Txt K mg f fd)
    (IH : ∀ i, FnOk P w K mg base CX0 k (f i) (fd i) (pars i) (spOf K (G k i))) : FnOk P w K mg base CX0 (k + 1) (f 20) (fd 20) (pars 20) (spOf K (defF 4 2 (b__law_sections (G k)))) := by
  refine fn_ev (N := N__law_sections) (ps := P__law_sections) (B := b__law_sections (G k)) T.F20 sc__law_sections fun cdv A outer s H E hr => ?_
  have nd := sc__law_sections.nd
  exact (ess_cons (es_set 2 nd (ev_sb (ev_lst (ea_cons ev_int (ea_cons ev_int (ea_cons ev_int (ea_cons ev_int ea_nil))))) (ev_call (IH 19) hr T.m19 T.F19.kp T.b19 (ea_cons (ev_var 0) (ea_cons ev_int ea_nil)))))
    (ess_one (es_ret (ev_tupleC T.z_tuple (ea_cons (ev_lc rfl nd (ei_range1 T.z_range (ea_cons (ev_var 1) ea_nil)) (blkOk_by (own := [("_law_piston", 3)]) (N := N__law_sections) (sc := defScope s__law_sections) (by decide +kernel)) rfl (vs := [3]) (gok_name (by decide)) (fun _ _ _ _ _ => (pg_name (i := 3) nd rfl (by first | exact Or.inl rfl | exact Or.inr rfl))) (fun _ _ _ _ _ => ets_nil) (fun _ _ _ _ _ => (ev_addA ev_int (ev_call (IH 19) hr T.m19 T.F19.kp T.b19 (ea_cons (ev_var 0) (ea_cons (ev_var 2) ea_nil)))))) ea_nil)))))
theorem sc__law_moves : FnScope N__law_moves P__law_moves (defScope s__law_moves) := ⟨rfl, rfl, rfl, by decide +kernel, rfl, by decide +kernel, by decide +kernel⟩
theorem ok__law_moves {P : Program} {w : World} {K : PySem.W.Frag} {mg : Str → Option Value} {base : Heap} {f : Nat → Addr} {fd : Nat → FuncData} {k : Nat} (T : Txt K mg f fd)
    (IH : ∀ i, FnOk P w K mg base CX0 k (f i) (fd i) (pars i) (spOf K (G k i))) : FnOk P w K mg base CX0 (k + 1) (f 21) (fd 21) (pars 21) (spOf K (defF 6 2 (b__law_moves (G k)))) := by
  refine fn_ev (N := N__law_moves) (ps := P__law_moves) (B := b__law_moves (G k)) T.F21 sc__law_moves fun cdv A outer s H E hr => ?_
  have nd := sc__law_moves.nd
  exact (ess_cons (es_set 2 nd (ev_addA ev_int (ev_call (IH 19) hr T.m19 T.F19.kp T.b19 (ea_cons (ev_var 0) (ea_cons ev_int ea_nil)))))
    (ess_cons (es_setLc 3 rfl nd (ei_range1 T.z_range (ea_cons (ev_var 1) ea_nil)) (blkOk_by (own := [("_law_step", 5)]) (N := N__law_moves) (sc := defScope s__law_moves) (by decide +kernel)) rfl (vs := [5]) (gok_name (by decide)) (fun _ _ _ _ _ => (pg_name (i := 5) nd rfl (by first | exact Or.inl rfl | exact Or.inr rfl))) (fun _ _ _ _ _ => ets_nil) (fun _ _ _ _ _ => (ev_intC T.z_int (ea_cons (ev_eq hr (ev_call (IH 19) hr T.m19 T.F19.kp T.b19 (ea_cons (ev_var 0) (ea_cons (ev_var 2) ea_nil))) ev_int) ea_nil))) (sw_true rfl rfl rfl (by decide +kernel)))
    (ess_cons (es_if (et_eq hr (ev_mod (ev_sum rfl T.z_sum (ea_cons (ev_var 3) ea_nil)) ev_int) ev_int) (ess_cons (es_set 4 nd (ev_call (IH 19) hr T.m19 T.F19.kp T.b19 (ea_cons (ev_var 0) (ea_cons (ev_var 1) ea_nil))))
    (ess_one (es_put (ev_sub ev_int (ev_sb (ev_var 3) (ev_var 4))) (ev_var 3) (ev_var 4)))) ess_nil)
    (ess_one (es_ret (ev_var 3))))))
theorem sc__law_steps : FnScope N__law_steps P__law_steps (defScope s__law_steps) := ⟨rfl, rfl, rfl, by decide +kernel, rfl, by decide +kernel, by decide +kernel⟩
theorem ok__law_steps {P : Program} {w : World} {K : PySem.W.Frag} {mg : Str → Option Value} {base : Heap} {f : Nat → Addr} {fd : Nat → FuncData} {k : Nat} (T : Txt K mg f fd)
    (IH : ∀ i, FnOk P w K mg base CX0 k (f i) (fd i) (pars i) (spOf K (G k i))) : FnOk P w K mg base CX0 (k + 1) (f 22) (fd 22) (pars 22) (spOf K (defF 10 3 (b__law_steps (G k)))) := by
  refine fn_ev (N := N__law_steps) (ps := P__law_steps) (B := b__law_steps (G k)) T.F22 sc__law_steps fun cdv A outer s H E hr => ?_
  have nd := sc__law_steps.nd
  exact (ess_cons (es_setLc 3 rfl nd (ei_range1 T.z_range (ea_cons (ev_var 2) ea_nil)) (blkOk_by (own := [("_law_step", 7)]) (N := N__law_steps) (sc := defScope s__law_steps) (by decide +kernel)) rfl (vs := [7]) (gok_name (by decide)) (fun _ _ _ _ _ => (pg_name (i := 7) nd rfl (by first | exact Or.inl rfl | exact Or.inr rfl))) (fun _ _ _ _ _ => ets_nil) (fun _ _ _ _ _ => (ev_lst ea_nil)) (sw_true rfl rfl rfl (by decide +kernel)))
    (ess_cons (es_for rfl (ei_range1 T.z_range (ea_cons (ev_var 1) ea_nil)) (pg_name (i := 4) nd rfl (by first | exact Or.inl rfl | exact Or.inr rfl)) (vs := [4]) (gok_name (by decide)) (ess_cons (es_set 6 nd (ev_call (IH 19) hr T.m19 T.F19.kp T.b19 (ea_cons (ev_var 0) (ea_cons ev_int ea_nil))))
    (ess_one (es_for rfl (ei_enumA T.z_enumerate (ea_cons (ev_call (IH 21) hr T.m21 T.F21.kp T.b21 (ea_cons (ev_var 0) (ea_cons (ev_var 2) ea_nil))) ea_nil)) (pg_tup rfl (pgs_cons (pg_name (i := 7) nd rfl (by first | exact Or.inl rfl | exact Or.inr rfl)) (pgs_cons (pg_name (i := 8) nd rfl (by first | exact Or.inl rfl | exact Or.inr rfl)) pgs_nil))) (vs := [7, 8]) (gok_tup (is := [7, 8]) (by decide) rfl) (ess_one (es_if (et_eq hr (ev_var 8) ev_int) (ess_cons (es_expr (ev_append (ev_sb (ev_var 3) (ev_var 7)) (ea_cons (ev_tup (ea_cons (ev_var 4) (ea_cons (ev_var 6) ea_nil))) ea_nil)))
    (ess_one (es_set 6 nd (ev_sub ev_int (ev_var 6))))) ess_nil))))))
    (ess_cons (es_set 5 nd (ev_tupleC T.z_tuple (ea_cons (ev_lc rfl nd (ei_seq (ev_var 3)) (blkOk_by (own := [("_law_row", 9)]) (N := N__law_steps) (sc := defScope s__law_steps) (by decide +kernel)) rfl (vs := [9]) (gok_name (by decide)) (fun _ _ _ _ _ => (pg_name (i := 9) nd rfl (by first | exact Or.inl rfl | exact Or.inr rfl))) (fun _ _ _ _ _ => (ets_one (et_ne hr (ev_var 9) (ev_lst ea_nil)))) (fun _ _ _ _ _ => (ev_tupleC T.z_tuple (ea_cons (ev_var 9) ea_nil)))) ea_nil)))
    (ess_cons (es_if (et_eq hr (ev_var 5) (ev_tup ea_nil)) (ess_one (es_ret (ev_tup (ea_cons (ev_tup (ea_cons (ev_tup (ea_cons ev_int (ea_cons ev_int ea_nil))) ea_nil)) (ea_cons (ev_tup (ea_cons (ev_tup (ea_cons ev_int (ea_cons ev_int ea_nil))) ea_nil)) ea_nil))))) ess_nil)
    (ess_one (es_ret (ev_var 5)))))))
theorem sc__law_drawn : FnScope N__law_drawn P__law_drawn (defScope s__law_drawn) := ⟨rfl, rfl, rfl, by decide +kernel, rfl, by decide +kernel, by decide +kernel⟩
theorem ok__law_drawn {P : Program} {w : World} {K : PySem.W.Frag} {mg : Str → Option Value} {base : Heap} {f : Nat → Addr} {fd : Nat → FuncData} {k : Nat} (T : Txt K mg f fd)
    (IH : ∀ i, FnOk P w K mg base CX0 k (f i) (fd i) (pars i) (spOf K (G k i))) : FnOk P w K mg base CX0 (k + 1) (f 23) (fd 23) (pars 23) (spOf K (defF 4 1 (b__law_drawn (G k)))) := by
  refine fn_ev (N := N__law_drawn) (ps := P__law_drawn) (B := b__law_drawn (G k)) T.F23 sc__law_drawn fun cdv A outer s H E hr => ?_
  have nd := sc__law_drawn.nd
  exact (ess_cons (es_set 1 nd (ev_intC T.z_int (ea_cons (ev_eq hr (ev_call (IH 19) hr T.m19 T.F19.kp T.b19 (ea_cons (ev_var 0) (ea_cons ev_int ea_nil))) ev_int) ea_nil)))
    (ess_cons (es_set 2 nd (ev_addA ev_int (ev_call (IH 19) hr T.m19 T.F19.kp T.b19 (ea_cons (ev_var 0) (ea_cons (ev_sb (ev_lst (ea_cons ev_int (ea_cons ev_int ea_nil))) (ev_var 1)) ea_nil)))))
    (ess_cons (es_set 3 nd (ev_addA ev_int (ev_call (IH 19) hr T.m19 T.F19.kp T.b19 (ea_cons (ev_var 0) (ea_cons (ev_sb (ev_lst (ea_cons ev_int (ea_cons ev_int ea_nil))) (ev_var 1)) ea_nil)))))
    (ess_one (es_ret (ev_tup (ea_cons (ev_call (IH 20) hr T.m20 T.F20.kp T.b20 (ea_cons (ev_var 0) (ea_cons (ev_var 2) ea_nil))) (ea_cons (ev_call (IH 22) hr T.m22 T.F22.kp T.b22 (ea_cons (ev_var 0) (ea_cons (ev_var 2) (ea_cons (ev_var 3) ea_nil)))) ea_nil))))))))
theorem sc__law_groups : FnScope N__law_groups P__law_groups (defScope s__law_groups) := ⟨rfl, rfl, rfl, by decide +kernel, rfl, by decide +kernel, by decide +kernel⟩
theorem ok__law_groups {P : Program} {w : World} {K : PySem.W.Frag} {mg : Str → Option Value} {base : Heap} {f : Nat → Addr} {fd : Nat → FuncData} {k : Nat} (T : Txt K mg f fd)
    (IH : ∀ i, FnOk P w K mg base CX0 k (f i) (fd i) (pars i) (spOf K (G k i))) : FnOk P w K mg base CX0 (k + 1) (f 24) (fd 24) (pars 24) (spOf K (defF 6 2 (b__law_groups (G k)))) := by
  refine fn_ev (N := N__law_groups) (ps := P__law_groups) (B := b__law_groups (G k)) T.F24 sc__law_groups fun cdv A outer s H E hr => ?_
  have nd := sc__law_groups.nd
  exact (ess_cons (es_set 2 nd (ev_lst ea_nil))
    (ess_cons (es_for rfl (ei_range1 T.z_range (ea_cons (ev_len T.z_len (ea_cons (ev_var 1) ea_nil)) ea_nil)) (pg_name (i := 3) nd rfl (by first | exact Or.inl rfl | exact Or.inr rfl)) (vs := [3]) (gok_name (by decide)) (ess_cons (es_set 4 nd (ev_sb (ev_var 1) (ev_var 3)))
    (ess_cons (es_set 5 nd (ev_lst (ea_cons (ev_var 4) ea_nil)))
    (ess_cons (es_while 100000 (et_niA hr (ev_mod (ev_addA (ev_var 4) ev_int) (ev_len T.z_len (ea_cons (ev_var 0) ea_nil))) (ev_var 1)) (ess_cons (es_set 4 nd (ev_mod (ev_addA (ev_var 4) ev_int) (ev_len T.z_len (ea_cons (ev_var 0) ea_nil))))
    (ess_one (es_expr (ev_append (ev_var 5) (ea_cons (ev_var 4) ea_nil))))))
    (ess_one (es_expr (ev_append (ev_var 2) (ea_cons (ev_var 5) ea_nil))))))))
    (ess_one (es_ret (ev_var 2)))))
theorem sc__law_once : FnScope N__law_once P__law_once (defScope s__law_once) := ⟨rfl, rfl, rfl, by decide +kernel, rfl, by decide +kernel, by decide +kernel⟩
theorem ok__law_once {P : Program} {w : World} {K : PySem.W.Frag} {mg : Str → Option Value} {base : Heap} {f : Nat → Addr} {fd : Nat → FuncData} {k : Nat} (T : Txt K mg f fd)
    (IH : ∀ i, FnOk P w K mg base CX0 k (f i) (fd i) (pars i) (spOf K (G k i))) : FnOk P w K mg base CX0 (k + 1) (f 25) (fd 25) (pars 25) (spOf K (defF 7 2 (b__law_once (G k)))) := by
  refine fn_ev (N := N__law_once) (ps := P__law_once) (B := b__law_once (G k)) T.F25 sc__law_once fun cdv A outer s H E hr => ?_
  have nd := sc__law_once.nd
  exact (ess_cons (es_set 2 nd (ev_lst ea_nil))
    (ess_cons (es_for rfl (ei_seq (ev_var 1)) (pg_name (i := 3) nd rfl (by first | exact Or.inl rfl | exact Or.inr rfl)) (vs := [3]) (gok_name (by decide)) (ess_one (es_set 2 nd (ev_addA (ev_var 2) (ev_lc rfl nd (ei_seq (ev_sb (ev_var 0) (ev_var 3))) (blkOk_by (own := [("_law_piston", 5), ("_law_side", 6)]) (N := N__law_once) (sc := defScope s__law_once) (by decide +kernel)) rfl (vs := [5, 6]) (gok_tup (is := [5, 6]) (by decide) rfl) (fun _ _ _ _ _ => (pg_tup rfl (pgs_cons (pg_name (i := 5) nd rfl (by first | exact Or.inl rfl | exact Or.inr rfl)) (pgs_cons (pg_name (i := 6) nd rfl (by first | exact Or.inl rfl | exact Or.inr rfl)) pgs_nil)))) (fun _ _ _ _ _ => ets_nil) (fun _ _ _ _ _ => (ev_var 5)))))))
    (ess_one (es_ret (ev_eq hr (ev_lc rfl nd (ei_enumA T.z_enumerate (ea_cons (ev_var 2) ea_nil)) (blkOk_by (own := [("_law_at", 4), ("_law_piston", 5)]) (N := N__law_once) (sc := defScope s__law_once) (by decide +kernel)) rfl (vs := [4, 5]) (gok_tup (is := [4, 5]) (by decide) rfl) (fun _ _ _ _ _ => (pg_tup rfl (pgs_cons (pg_name (i := 4) nd rfl (by first | exact Or.inl rfl | exact Or.inr rfl)) (pgs_cons (pg_name (i := 5) nd rfl (by first | exact Or.inl rfl | exact Or.inr rfl)) pgs_nil)))) (fun _ _ _ _ _ => (ets_one (et_inA hr (ev_var 5) (ev_slA (ev_var 2) eo_none (eo_some (ev_var 4)))))) (fun _ _ _ _ _ => (ev_var 4))) (ev_lst ea_nil))))))
theorem sc__law_greedy : FnScope N__law_greedy P__law_greedy (defScope s__law_greedy) := ⟨rfl, rfl, rfl, by decide +kernel, rfl, by decide +kernel, by decide +kernel⟩
theorem ok__law_greedy {P : Program} {w : World} {K : PySem.W.Frag} {mg : Str → Option Value} {base : Heap} {f : Nat → Addr} {fd : Nat → FuncData} {k : Nat} (T : Txt K mg f fd)
    (IH : ∀ i, FnOk P w K mg base CX0 k (f i) (fd i) (pars i) (spOf K (G k i))) : FnOk P w K mg base CX0 (k + 1) (f 26) (fd 26) (pars 26) (spOf K (defF 6 2 (b__law_greedy (G k)))) := by
  refine fn_ev (N := N__law_greedy) (ps := P__law_greedy) (B := b__law_greedy (G k)) T.F26 sc__law_greedy fun cdv A outer s H E hr => ?_
  have nd := sc__law_greedy.nd
  exact (ess_cons (es_set 2 nd (ev_lst (ea_cons (ev_var 1) ea_nil)))
    (ess_cons (es_set 3 nd (ev_lst (ea_cons (ev_var 1) ea_nil)))
    (ess_cons (es_for rfl (ei_range2 T.z_range (ea_cons ev_int (ea_cons (ev_len T.z_len (ea_cons (ev_var 0) ea_nil)) ea_nil))) (pg_name (i := 4) nd rfl (by first | exact Or.inl rfl | exact Or.inr rfl)) (vs := [4]) (gok_name (by decide)) (ess_cons (es_set 5 nd (ev_mod (ev_addA (ev_var 1) (ev_var 4)) (ev_len T.z_len (ea_cons (ev_var 0) ea_nil))))
    (ess_cons (es_if (et_not (et_tru (ev_call (IH 25) hr T.m25 T.F25.kp T.b25 (ea_cons (ev_var 0) (ea_cons (ev_addA (ev_var 3) (ev_lst (ea_cons (ev_var 5) ea_nil))) ea_nil))))) (ess_cons (es_expr (ev_append (ev_var 2) (ea_cons (ev_var 5) ea_nil)))
    (ess_one (es_set 3 nd (ev_lst ea_nil)))) ess_nil)
    (ess_one (es_expr (ev_append (ev_var 3) (ea_cons (ev_var 5) ea_nil)))))))
    (ess_one (es_ret (ev_tupleC T.z_tuple (ea_cons (ev_sortedA T.z_sorted (ea_cons (ev_var 2) ea_nil)) ea_nil)))))))
theorem sc__law_cut : FnScope N__law_cut P__law_cut (defScope s__law_cut) := ⟨rfl, rfl, rfl, by decide +kernel, rfl, by decide +kernel, by decide +kernel⟩
theorem ok__law_cut {P : Program} {w : World} {K : PySem.W.Frag} {mg : Str → Option Value} {base : Heap} {f : Nat → Addr} {fd : Nat → FuncData} {k : Nat} (T : Txt K mg f fd)
    (IH : ∀ i, FnOk P w K mg base CX0 k (f i) (fd i) (pars i) (spOf K (G k i))) : FnOk P w K mg base CX0 (k + 1) (f 27) (fd 27) (pars 27) (spOf K (defF 5 2 (b__law_cut (G k)))) := by
  refine fn_ev (N := N__law_cut) (ps := P__law_cut) (B := b__law_cut (G k)) T.F27 sc__law_cut fun cdv A outer s H E hr => ?_
  have nd := sc__law_cut.nd
  exact (ess_cons (es_set 2 nd (ev_listC T.z_list (ea_cons (ev_call (IH 26) hr T.m26 T.F26.kp T.b26 (ea_cons (ev_var 1) (ea_cons (ev_call (IH 19) hr T.m19 T.F19.kp T.b19 (ea_cons (ev_var 0) (ea_cons (ev_len T.z_len (ea_cons (ev_var 1) ea_nil)) ea_nil))) ea_nil))) ea_nil)))
    (ess_cons (es_for rfl (ei_range1 T.z_range (ea_cons (ev_call (IH 19) hr T.m19 T.F19.kp T.b19 (ea_cons (ev_var 0) (ea_cons ev_int ea_nil))) ea_nil)) (pg_name (i := 3) nd rfl (by first | exact Or.inl rfl | exact Or.inr rfl)) (vs := [3]) (gok_name (by decide)) (ess_cons (es_set 4 nd (ev_call (IH 19) hr T.m19 T.F19.kp T.b19 (ea_cons (ev_var 0) (ea_cons (ev_len T.z_len (ea_cons (ev_var 1) ea_nil)) ea_nil))))
    (ess_one (es_if (et_niA hr (ev_var 4) (ev_var 2)) (ess_one (es_expr (ev_append (ev_var 2) (ea_cons (ev_var 4) ea_nil)))) ess_nil))))
    (ess_one (es_ret (ev_tupleC T.z_tuple (ea_cons (ev_sortedA T.z_sorted (ea_cons (ev_var 2) ea_nil)) ea_nil))))))
theorem sc__law_between : FnScope N__law_between P__law_between (defScope s__law_between) := ⟨rfl, rfl, rfl, by decide +kernel, rfl, by decide +kernel, by decide +kernel⟩
theorem ok__law_between {P : Program} {w : World} {K : PySem.W.Frag} {mg : Str → Option Value} {base : Heap} {f : Nat → Addr} {fd : Nat → FuncData} {k : Nat} (T : Txt K mg f fd)
    (IH : ∀ i, FnOk P w K mg base CX0 k (f i) (fd i) (pars i) (spOf K (G k i))) : FnOk P w K mg base CX0 (k + 1) (f 28) (fd 28) (pars 28) (spOf K (defF 7 3 (b__law_between (G k)))) := by
  refine fn_ev (N := N__law_between) (ps := P__law_between) (B := b__law_between (G k)) T.F28 sc__law_between fun cdv A outer s H E hr => ?_
  have nd := sc__law_between.nd
  exact (ess_cons (es_set 3 nd (ev_mulA (ev_lst (ea_cons ev_int ea_nil)) (ev_len T.z_len (ea_cons (ev_var 0) ea_nil))))
    (ess_cons (es_for rfl (ei_range2 T.z_range (ea_cons (ev_var 2) (ea_cons (ev_addA (ev_var 2) (ev_len T.z_len (ea_cons (ev_var 1) ea_nil))) ea_nil))) (pg_name (i := 4) nd rfl (by first | exact Or.inl rfl | exact Or.inr rfl)) (vs := [4]) (gok_name (by decide)) (ess_one (es_for rfl (ei_seq (ev_sb (ev_var 1) (ev_mod (ev_var 4) (ev_len T.z_len (ea_cons (ev_var 1) ea_nil))))) (pg_tup rfl (pgs_cons (pg_name (i := 5) nd rfl (by first | exact Or.inl rfl | exact Or.inr rfl)) (pgs_cons (pg_name (i := 6) nd rfl (by first | exact Or.inl rfl | exact Or.inr rfl)) pgs_nil))) (vs := [5, 6]) (gok_tup (is := [5, 6]) (by decide) rfl) (ess_one (es_put (ev_mulA (ev_mulA ev_int (ev_sb (ev_var 0) (ev_var 5))) (ev_var 6)) (ev_var 3) (ev_var 5))))))
    (ess_one (es_ret (ev_tupleC T.z_tuple (ea_cons (ev_var 3) ea_nil))))))
theorem sc__law_rest : FnScope N__law_rest P__law_rest (defScope s__law_rest) := ⟨rfl, rfl, rfl, by decide +kernel, rfl, by decide +kernel, by decide +kernel⟩
theorem ok__law_rest {P : Program} {w : World} {K : PySem.W.Frag} {mg : Str → Option Value} {base : Heap} {f : Nat → Addr} {fd : Nat → FuncData} {k : Nat} (T : Txt K mg f fd)
    (IH : ∀ i, FnOk P w K mg base CX0 k (f i) (fd i) (pars i) (spOf K (G k i))) : FnOk P w K mg base CX0 (k + 1) (f 29) (fd 29) (pars 29) (spOf K (defF 8 3 (b__law_rest (G k)))) := by
  refine fn_ev (N := N__law_rest) (ps := P__law_rest) (B := b__law_rest (G k)) T.F29 sc__law_rest fun cdv A outer s H E hr => ?_
  have nd := sc__law_rest.nd
  exact (ess_cons (es_set 3 nd (ev_call (IH 28) hr T.m28 T.F28.kp T.b28 (ea_cons (ev_var 0) (ea_cons (ev_var 1) (ea_cons ev_int ea_nil)))))
    (ess_cons (es_set 4 nd (ev_tupleC T.z_tuple (ea_cons (ev_lc rfl nd (ei_seq (ev_var 3)) (blkOk_by (own := [("_law_place", 7)]) (N := N__law_rest) (sc := defScope s__law_rest) (by decide +kernel)) rfl (vs := [7]) (gok_name (by decide)) (fun _ _ _ _ _ => (pg_name (i := 7) nd rfl (by first | exact Or.inl rfl | exact Or.inr rfl))) (fun _ _ _ _ _ => ets_nil) (fun _ _ _ _ _ => (ev_intC T.z_int (ea_cons (ev_gt (ev_var 7) ev_int) ea_nil)))) ea_nil)))
    (ess_cons (es_setLc 5 rfl nd (ei_seq (ev_call (IH 24) hr T.m24 T.F24.kp T.b24 (ea_cons (ev_var 1) (ea_cons (ev_var 2) ea_nil)))) (blkOk_by (own := [("_law_own", 6)]) (N := N__law_rest) (sc := defScope s__law_rest) (by decide +kernel)) rfl (vs := [6]) (gok_name (by decide)) (fun _ _ _ _ _ => (pg_name (i := 6) nd rfl (by first | exact Or.inl rfl | exact Or.inr rfl))) (fun _ _ _ _ _ => ets_nil) (fun _ _ _ _ _ => (ev_intC T.z_int (ea_cons (ev_inA hr (ev_sub (ev_len T.z_len (ea_cons (ev_var 1) ea_nil)) ev_int) (ev_var 6)) ea_nil))) (sw_true rfl rfl rfl (by decide +kernel)))
    (ess_one (es_ret (ev_tup (ea_cons (ev_var 3) (ea_cons (ev_var 4) (ea_cons (ev_tupleC T.z_tuple (ea_cons (ev_var 5) ea_nil)) (ea_cons (ev_tup (ea_cons ev_int (ea_cons ev_int ea_nil))) ea_nil))))))))))
theorem sc_law : FnScope N_law P_law (defScope s_law) := ⟨rfl, rfl, rfl, by decide +kernel, rfl, by decide +kernel, by decide +kernel⟩
theorem ok_law {P : Program} {w : World} {K : PySem.W.Frag} {mg : Str → Option Value} {base : Heap} {f : Nat → Addr} {fd : Nat → FuncData} {k : Nat} (T : Txt K mg f fd)
    (IH : ∀ i, FnOk P w K mg base CX0 k (f i) (fd i) (pars i) (spOf K (G k i))) : FnOk P w K mg base CX0 (k + 1) (f 30) (fd 30) (pars 30) (spOf K (defF 9 1 (b_law (G k)))) := by
  refine fn_ev (N := N_law) (ps := P_law) (B := b_law (G k)) T.F30 sc_law fun cdv A outer s H E hr => ?_
  have nd := sc_law.nd
  exact (ess_cons (es_for rfl (ei_range1 T.z_range (ea_cons ev_int ea_nil)) (pg_name (i := 1) nd rfl (by first | exact Or.inl rfl | exact Or.inr rfl)) (vs := [1]) (gok_name (by decide)) (ess_cons (es_set 2 nd (ev_call (IH 18) hr T.m18 T.F18.kp T.b18 (ea_cons (ev_var 0) (ea_cons (ev_var 1) ea_nil))))
    (ess_cons (es_asg (ev_call (IH 23) hr T.m23 T.F23.kp T.b23 (ea_cons (ev_var 2) ea_nil)) (pg_tup rfl (pgs_cons (pg_name (i := 4) nd rfl (by first | exact Or.inl rfl | exact Or.inr rfl)) (pgs_cons (pg_name (i := 5) nd rfl (by first | exact Or.inl rfl | exact Or.inr rfl)) pgs_nil))) (vs := [4, 5]) (gok_tup (is := [4, 5]) (by decide) rfl))
    (ess_one (es_for rfl (ei_seq (ev_lst (ea_cons (ev_call (IH 27) hr T.m27 T.F27.kp T.b27 (ea_cons (ev_var 2) (ea_cons (ev_var 5) ea_nil))) (ea_cons (ev_tupleC T.z_tuple (ea_cons (ev_lrng1 rfl T.z_list T.z_range (ea_cons (ev_len T.z_len (ea_cons (ev_var 5) ea_nil)) ea_nil)) ea_nil)) ea_nil)))) (pg_name (i := 3) nd rfl (by first | exact Or.inl rfl | exact Or.inr rfl)) (vs := [3]) (gok_name (by decide)) (ess_cons (es_set 6 nd (ev_call (IH 17) hr T.m17 T.F17.kp T.b17 (ea_cons (ev_var 4) (ea_cons (ev_var 5) (ea_cons (ev_var 3) ea_nil)))))
    (ess_cons (es_set 7 nd (ev_tupleC T.z_tuple (ea_cons (ev_lc rfl nd (ei_seq (ev_var 4)) (blkOk_by (own := [("_law_one", 8)]) (N := N_law) (sc := defScope s_law) (by decide +kernel)) rfl (vs := [8]) (gok_name (by decide)) (fun _ _ _ _ _ => (pg_name (i := 8) nd rfl (by first | exact Or.inl rfl | exact Or.inr rfl))) (fun _ _ _ _ _ => ets_nil) (fun _ _ _ _ _ => (ev_sub ev_int (ev_var 8)))) ea_nil)))
    (ess_cons (es_if (et_ne hr (ev_repr hr T.z_repr (ea_cons (ev_call (IH 17) hr T.m17 T.F17.kp T.b17 (ea_cons (ev_var 7) (ea_cons (ev_var 5) (ea_cons (ev_var 3) ea_nil)))) ea_nil)) (ev_repr hr T.z_repr (ea_cons (ev_call (IH 29) hr T.m29 T.F29.kp T.b29 (ea_cons (ev_var 7) (ea_cons (ev_var 5) (ea_cons (ev_var 3) ea_nil)))) ea_nil))) (ess_one (es_ret ev_bl)) ess_nil)
    (ess_one (es_if (et_w (ew_or (et_ne hr (ev_repr hr T.z_repr (ea_cons (ev_var 6) ea_nil)) (ev_repr hr T.z_repr (ea_cons (ev_call (IH 29) hr T.m29 T.F29.kp T.b29 (ea_cons (ev_var 4) (ea_cons (ev_var 5) (ea_cons (ev_var 3) ea_nil)))) ea_nil))) (ew_or1 (et_ne hr (ev_call (IH 17) hr T.m17 T.F17.kp T.b17 (ea_cons (ev_var 4) (ea_cons (ev_var 5) (ea_cons (ev_var 3) ea_nil)))) (ev_var 6))))) (ess_one (es_ret ev_bl)) ess_nil))))))))))
    (ess_one (es_ret ev_bl)))
theorem none_left {P : Program} {w : World} {K : PySem.W.Frag} {mg : Str → Option Value} {base : Heap} {f : Addr} {fd : FuncData} {ps : List Str} {i k : Nat} (hn : ∀ ds st, G k i ds st = none) : FnOk P w K mg base CX0 k f fd ps (spOf K (G k i)) := by
  have no : ∀ vs H Q E, ¬ spOf K (G k i) vs H Q E := fun vs H Q E h => by
    obtain ⟨_, ds, st, _, _, _, _, e, _⟩ := h
    rw [hn ds st] at e
    cases e
  exact ⟨fun vs H Q E h => absurd h (no vs H Q E), fun A outer s H args us vs Q E _ _ _ _ h => absurd h (no vs H Q E)⟩
theorem all_ok {P : Program} {w : World} {K : PySem.W.Frag} {mg : Str → Option Value} {base : Heap} {f : Nat → Addr} {fd : Nat → FuncData} (T : Txt K mg f fd) (hb : Gx.BmOk base mg) : ∀ k i, FnOk P w K mg base CX0 k (f i) (fd i) (pars i) (spOf K (G k i))
  | 0, i => none_left fun _ _ => rfl
  | 1, i => by
    have IH := all_ok (P := P) (w := w) (base := base) T hb 0
    match i with
    | 0 => exact ok_is_int T IH
    | 1 => exact ok_is_within T IH
    | 2 => exact ok_is_rising T IH
    | 3 => exact none_left fun _ _ => rfl
    | 4 => exact ok_cam_place T IH
    | 5 => exact ok_end_cam T IH
    | 6 => exact ok_end_place T IH
    | 7 => exact ok_pistons_of T IH
    | 8 => exact ok_sides_of T IH
    | 9 => exact ok_between T IH
    | 10 => exact ok_place_ahead T IH
    | 11 => exact ok_is_cut T IH
    | 12 => exact ok_group_steps T IH
    | 13 => exact ok_no_piston_twice T IH
    | 14 => exact ok_group_of T IH
    | 15 => exact ok_rest_with T IH
    | 16 => exact ok_made_cut T IH
    | 17 => exact ok_group_rest T IH
    | 18 => exact ok__law_stream T IH
    | 19 => exact ok__law_take T IH
    | 20 => exact ok__law_sections T IH
    | 21 => exact ok__law_moves T IH
    | 22 => exact ok__law_steps T IH
    | 23 => exact ok__law_drawn T IH
    | 24 => exact ok__law_groups T IH
    | 25 => exact ok__law_once T IH
    | 26 => exact ok__law_greedy T IH
    | 27 => exact ok__law_cut T IH
    | 28 => exact ok__law_between T IH
    | 29 => exact ok__law_rest T IH
    | 30 => exact ok_law T IH
    | m + 31 =>
      refine none_left fun _ _ => ?_
      show (if isGen (m + 31) then (fun _ _ => none : FS) else meaning (m + 31) (G 0) (G 0)) _ _ = none
      split <;> rfl
  | k + 2, i => by
    have IH := all_ok (P := P) (w := w) (base := base) T hb (k + 1)
    have IH2 := all_ok (P := P) (w := w) (base := base) T hb k
    match i with
    | 0 => exact ok_is_int T IH
    | 1 => exact ok_is_within T IH
    | 2 => exact ok_is_rising T IH
    | 3 => exact ok_are_rising_numbers T hb IH IH2
    | 4 => exact ok_cam_place T IH
    | 5 => exact ok_end_cam T IH
    | 6 => exact ok_end_place T IH
    | 7 => exact ok_pistons_of T IH
    | 8 => exact ok_sides_of T IH
    | 9 => exact ok_between T IH
    | 10 => exact ok_place_ahead T IH
    | 11 => exact ok_is_cut T IH
    | 12 => exact ok_group_steps T IH
    | 13 => exact ok_no_piston_twice T IH
    | 14 => exact ok_group_of T IH
    | 15 => exact ok_rest_with T IH
    | 16 => exact ok_made_cut T IH
    | 17 => exact ok_group_rest T IH
    | 18 => exact ok__law_stream T IH
    | 19 => exact ok__law_take T IH
    | 20 => exact ok__law_sections T IH
    | 21 => exact ok__law_moves T IH
    | 22 => exact ok__law_steps T IH
    | 23 => exact ok__law_drawn T IH
    | 24 => exact ok__law_groups T IH
    | 25 => exact ok__law_once T IH
    | 26 => exact ok__law_greedy T IH
    | 27 => exact ok__law_cut T IH
    | 28 => exact ok__law_between T IH
    | 29 => exact ok__law_rest T IH
    | 30 => exact ok_law T IH
    | _ + 31 => exact none_left fun _ _ => rfl
end My
namespace My
open PySem L2 Ev
local macro_rules | `(tactic| walk_at "vk") => `(tactic| (refine kall_fresh ?_ (by omega)))
local macro_rules | `(tactic| walk_at "vk") => `(tactic| (refine Kall.trans ?_ (by assumption)))
local macro_rules | `(tactic| walk_at "vk") => `(tactic| (with_reducible refine Kall.trans ?_ Kall.push))
local macro_rules | `(tactic| walk_at "vk") => `(tactic| exact Kall.push)
local macro_rules | `(tactic| walk_at "vk") => `(tactic| assumption)
local macro_rules | `(tactic| walk_at "vk") => `(tactic| exact Kall.refl)
local macro_rules | `(tactic| walk_at "vg") => `(tactic| (refine Kall.get ?_ (by assumption); (iterate 12 (first | walk_at "vk" | fail)); done))
local macro_rules | `(tactic| walk_at "vg") => `(tactic| exact Kall.push.get (by assumption))
local macro_rules | `(tactic| walk_at "vg") => `(tactic| exact get_new)
local macro_rules | `(tactic| walk_at "vg") => `(tactic| exact get_set (by assumption))
local macro_rules | `(tactic| walk_at "vg") => `(tactic| assumption)
local macro_rules | `(tactic| walk_at "vq0") => `(tactic| ((with_reducible (apply p_append)); (first | walk_at "vg" | fail); assumption))
local macro_rules | `(tactic| walk_at "vq0") => `(tactic| ((with_reducible (apply p_ixT)); (first | assumption | rfl)))
local macro_rules | `(tactic| walk_at "vq0") => `(tactic| ((with_reducible (apply p_ixL)); (first | walk_at "vg" | fail); (first | assumption | rfl)))
local macro_rules | `(tactic| walk_at "vq0") => `(tactic| ((with_reducible (apply p_tupL)); (first | walk_at "vg" | fail)))
local macro_rules | `(tactic| walk_at "vq0") => `(tactic| ((with_reducible (apply p_lenL)); (first | walk_at "vg" | fail)))
local macro_rules | `(tactic| walk_at "vq0") => `(tactic| (dsimp only [List.set_cons_zero, List.set_cons_succ, List.set_nil]))
local macro_rules | `(tactic| walk_at "vq0") => `(tactic| ((with_reducible (apply put_is)); (first | walk_at "vg" | fail); (first | assumption | rfl); assumption))
local macro_rules | `(tactic| walk_at "vq0") => `(tactic| ((with_reducible (apply meth_is)); (first | walk_at "vg" | fail)))
local macro_rules | `(tactic| walk_at "vq0") => `(tactic| (with_reducible refine ⟨_, rfl, ?_⟩))
local macro_rules | `(tactic| walk_at "vq0") => `(tactic| ((with_reducible (refine len_and ?_ ?_)); exact rfl))
local macro_rules | `(tactic| walk_at "vq0") => `(tactic| (with_reducible refine br_ndec (fun hc => ?_) (fun hc => ?_)))
local macro_rules | `(tactic| walk_at "vq0") => `(tactic| (with_reducible refine br_dec (fun hc => ?_) (fun hc => ?_)))
local macro_rules | `(tactic| walk_at "vq0") => `(tactic| (with_reducible refine br_nf ?_))
local macro_rules | `(tactic| walk_at "vq0") => `(tactic| (with_reducible refine br_nt ?_))
local macro_rules | `(tactic| walk_at "vq0") => `(tactic| (with_reducible refine br_f ?_))
local macro_rules | `(tactic| walk_at "vq0") => `(tactic| (with_reducible refine br_t ?_))
local macro_rules | `(tactic| walk_at "vq0") => `(tactic| (with_reducible refine p_pow ?_ ?_))
local macro_rules | `(tactic| walk_at "vq0") => `(tactic| (with_reducible refine p_div ?_ ?_))
local macro_rules | `(tactic| walk_at "vq0") => `(tactic| (with_reducible refine p_mod ?_ ?_))
local macro_rules | `(tactic| walk_at "vq0") => `(tactic| (with_reducible refine p_mul ?_ ?_))
local macro_rules | `(tactic| walk_at "vq0") => `(tactic| (with_reducible refine p_mulA ?_ ?_))
local macro_rules | `(tactic| walk_at "vq0") => `(tactic| (with_reducible refine p_cutT ?_))
local macro_rules | `(tactic| walk_at "vq0") => `(tactic| (with_reducible refine p_abs ?_))
local macro_rules | `(tactic| walk_at "vq0") => `(tactic| (with_reducible refine p_max ?_))
local macro_rules | `(tactic| walk_at "vq0") => `(tactic| (with_reducible refine p_min ?_))
local macro_rules | `(tactic| walk_at "vq0") => `(tactic| (with_reducible refine p_intB ?_))
local macro_rules | `(tactic| walk_at "vq0") => `(tactic| (with_reducible refine p_intI ?_))
local macro_rules | `(tactic| walk_at "vq0") => `(tactic| (with_reducible refine p_tupT ?_))
local macro_rules | `(tactic| walk_at "vq0") => `(tactic| (with_reducible refine p_lenT ?_))
local macro_rules | `(tactic| walk_at "vq0") => `(tactic| (with_reducible refine p_neS ?_))
local macro_rules | `(tactic| walk_at "vq0") => `(tactic| (with_reducible refine p_eqS ?_))
local macro_rules | `(tactic| walk_at "vq0") => `(tactic| (with_reducible refine p_ne ?_))
local macro_rules | `(tactic| walk_at "vq0") => `(tactic| (with_reducible refine p_eq ?_))
local macro_rules | `(tactic| walk_at "vq0") => `(tactic| (with_reducible refine p_ge ?_))
local macro_rules | `(tactic| walk_at "vq0") => `(tactic| (with_reducible refine p_gt ?_))
local macro_rules | `(tactic| walk_at "vq0") => `(tactic| (with_reducible refine p_le ?_))
local macro_rules | `(tactic| walk_at "vq0") => `(tactic| (with_reducible refine p_lt ?_))
local macro_rules | `(tactic| walk_at "vq0") => `(tactic| (with_reducible refine p_sub ?_))
local macro_rules | `(tactic| walk_at "vq0") => `(tactic| (with_reducible refine p_add ?_))
local macro_rules | `(tactic| walk_at "vq0") => `(tactic| (with_reducible refine turn_rt ?_))
local macro_rules | `(tactic| walk_at "vq0") => `(tactic| (with_reducible refine turn_bk ?_))
local macro_rules | `(tactic| walk_at "vq0") => `(tactic| (with_reducible refine turn_ct ?_))
local macro_rules | `(tactic| walk_at "vq0") => `(tactic| (with_reducible refine turn_nx ?_))
local macro_rules | `(tactic| walk_at "vq0") => `(tactic| (with_reducible refine ret_rt ?_))
local macro_rules | `(tactic| walk_at "vq0") => `(tactic| (with_reducible refine seq_ct ?_))
local macro_rules | `(tactic| walk_at "vq0") => `(tactic| (with_reducible refine seq_bk ?_))
local macro_rules | `(tactic| walk_at "vq0") => `(tactic| (with_reducible refine seq_rt ?_))
local macro_rules | `(tactic| walk_at "vq0") => `(tactic| (with_reducible refine seq_nx ?_))
local macro_rules | `(tactic| walk_at "vq0") => `(tactic| (with_reducible refine w_meth ?_))
local macro_rules | `(tactic| walk_at "vq0") => `(tactic| (with_reducible refine w_put ?_))
local macro_rules | `(tactic| walk_at "vq0") => `(tactic| (with_reducible refine w_cnt ?_))
local macro_rules | `(tactic| walk_at "vq0") => `(tactic| (with_reducible refine w_brk ?_))
local macro_rules | `(tactic| walk_at "vq0") => `(tactic| (with_reducible refine w_yes ?_))
local macro_rules | `(tactic| walk_at "vq0") => `(tactic| (with_reducible refine w_part ?_))
local macro_rules | `(tactic| walk_at "vq0") => `(tactic| (with_reducible refine w_no ?_))
local macro_rules | `(tactic| walk_at "vq0") => `(tactic| (with_reducible refine w_sl ?_))
local macro_rules | `(tactic| walk_at "vq0") => `(tactic| (with_reducible refine w_lst ?_))
local macro_rules | `(tactic| walk_at "vq0") => `(tactic| (with_reducible refine w_tup ?_))
local macro_rules | `(tactic| walk_at "vq0") => `(tactic| (with_reducible refine w_if ?_))
local macro_rules | `(tactic| walk_at "vq0") => `(tactic| (with_reducible refine w_or ?_))
local macro_rules | `(tactic| walk_at "vq0") => `(tactic| (with_reducible refine w_and ?_))
local macro_rules | `(tactic| walk_at "vq0") => `(tactic| (with_reducible refine w_notV ?_))
local macro_rules | `(tactic| walk_at "vq0") => `(tactic| (with_reducible refine w_orV ?_))
local macro_rules | `(tactic| walk_at "vq0") => `(tactic| (with_reducible refine w_andV ?_))
local macro_rules | `(tactic| walk_at "vq0") => `(tactic| (with_reducible refine w_not ?_))
local macro_rules | `(tactic| walk_at "vq0") => `(tactic| (with_reducible refine w_tru ?_))
local macro_rules | `(tactic| walk_at "vq0") => `(tactic| (with_reducible refine w_val ?_))
local macro_rules | `(tactic| walk_at "vq0") => `(tactic| (with_reducible refine w_next ?_))
local macro_rules | `(tactic| walk_at "vq0") => `(tactic| (with_reducible refine w_ifS ?_))
local macro_rules | `(tactic| walk_at "vq0") => `(tactic| (with_reducible refine w_drop ?_))
local macro_rules | `(tactic| walk_at "vq0") => `(tactic| (with_reducible refine w_ret ?_))
local macro_rules | `(tactic| walk_at "vq0") => `(tactic| (with_reducible refine w_asg ?_))
local macro_rules | `(tactic| walk_at "vq0") => `(tactic| (with_reducible refine w_c ?_))
local macro_rules | `(tactic| walk_at "vq0") => `(tactic| (with_reducible refine w_nil ?_))
local macro_rules | `(tactic| walk_at "vq0") => `(tactic| (with_reducible refine w_cons ?_))
local macro_rules | `(tactic| walk_at "vq0") => `(tactic| (with_reducible refine w_call ?_))
local macro_rules | `(tactic| walk_at "vq0") => `(tactic| (with_reducible refine w_op2 ?_))
local macro_rules | `(tactic| walk_at "vq0") => `(tactic| (with_reducible refine w_seq ?_))
local macro_rules | `(tactic| walk_at "vq0") => `(tactic| ((with_reducible (apply p_append)); (first | walk_at "vg" | fail); assumption; assumption))
local macro_rules | `(tactic| walk_at "vq0") => `(tactic| ((with_reducible (apply p_sum)); (first | walk_at "vg" | fail)))
local macro_rules | `(tactic| walk_at "vq0") => `(tactic| ((with_reducible (apply w_aug)); exact rfl))
local macro_rules | `(tactic| walk_at "vq0") => `(tactic| ((with_reducible (apply p_niL)); (first | walk_at "vg" | fail)))
local macro_rules | `(tactic| walk_at "vq0") => `(tactic| ((with_reducible (apply p_inL)); (first | walk_at "vg" | fail)))
local macro_rules | `(tactic| walk_at "vq0") => `(tactic| ((with_reducible (apply p_niLA)); (first | walk_at "vg" | fail)))
local macro_rules | `(tactic| walk_at "vq0") => `(tactic| ((with_reducible (apply p_inLA)); (first | walk_at "vg" | fail)))
local macro_rules | `(tactic| walk_at "vq0") => `(tactic| ((with_reducible (apply zip_lt)); (first | walk_at "vg" | fail)))
local macro_rules | `(tactic| walk_at "vq0") => `(tactic| ((with_reducible (apply zip_tl)); (first | walk_at "vg" | fail)))
local macro_rules | `(tactic| walk_at "vq0") => `(tactic| (with_reducible refine p_eqSf (by decide +kernel) ?_))
local macro_rules | `(tactic| walk_at "vq0") => `(tactic| (with_reducible refine asgT_is rfl ?_))
local macro_rules | `(tactic| walk_at "vq0") => `(tactic| (with_reducible refine rng2_is ?_ ?_))
local macro_rules | `(tactic| walk_at "vq0") => `(tactic| (with_reducible refine rng_is ?_ ?_))
local macro_rules | `(tactic| walk_at "vq0") => `(tactic| ((with_reducible (apply enum_l)); (first | walk_at "vg" | fail)))
local macro_rules | `(tactic| walk_at "vq0") => `(tactic| ((with_reducible (apply iseq_l)); (first | walk_at "vg" | fail)))
local macro_rules | `(tactic| walk_at "vq0") => `(tactic| (with_reducible refine p_niT ?_))
local macro_rules | `(tactic| walk_at "vq0") => `(tactic| (with_reducible refine p_inT ?_))
local macro_rules | `(tactic| walk_at "vq0") => `(tactic| (with_reducible refine w_isi ?_))
local macro_rules | `(tactic| walk_at "vq0") => `(tactic| (with_reducible refine w_asgN ?_))
local macro_rules | `(tactic| walk_at "vq0") => `(tactic| (with_reducible refine enum_t ?_))
local macro_rules | `(tactic| walk_at "vq0") => `(tactic| (with_reducible refine iseq_t ?_))
local macro_rules | `(tactic| walk_at "vq0") => `(tactic| (with_reducible refine w_enumN ?_))
local macro_rules | `(tactic| walk_at "vq0") => `(tactic| (with_reducible refine w_rng2N ?_))
local macro_rules | `(tactic| walk_at "vq0") => `(tactic| (with_reducible refine w_rngN ?_))
local macro_rules | `(tactic| walk_at "vq0") => `(tactic| (with_reducible refine w_iseqN ?_))
local macro_rules | `(tactic| walk_at "vq0") => `(tactic| (with_reducible refine w_lcN ?_))
local macro_rules | `(tactic| walk_at "vq0") => `(tactic| (with_reducible refine w_forN ?_))
local macro_rules | `(tactic| walk_at "vq0") => `(tactic| (with_reducible refine p_niTA ?_))
local macro_rules | `(tactic| walk_at "vq0") => `(tactic| (with_reducible refine p_inTA ?_))
local macro_rules | `(tactic| walk_at "vq0") => `(tactic| (with_reducible refine chain_is ?_))
local macro_rules | `(tactic| walk_at "vq0") => `(tactic| (with_reducible refine w_chain ?_))
local macro_rules | `(tactic| walk_at "vq0") => `(tactic| (with_reducible refine zip_tt ?_))
local macro_rules | `(tactic| walk_at "vq0") => `(tactic| (with_reducible refine w_zipN ?_))
local macro_rules | `(tactic| walk_at "vq0") => `(tactic| (with_reducible refine w_lc2N ?_))
local macro_rules | `(tactic| walk_at "vq0") => `(tactic| (with_reducible refine still_no ?_))
local macro_rules | `(tactic| walk_at "vq0") => `(tactic| (with_reducible refine w_genN ?_))
local macro_rules | `(tactic| walk_at "vq0") => `(tactic| (with_reducible refine p_eqSt ?_))
local macro_rules | `(tactic| walk_at "vq0") => `(tactic| (with_reducible refine p_eqB ?_))
local macro_rules | `(tactic| walk_at "vq0") => `(tactic| (with_reducible refine p_neB ?_))
local macro_rules | `(tactic| walk_at "vq0") => `(tactic| (with_reducible refine w_neg ?_))
local macro_rules | `(tactic| walk_at "vq0") => `(tactic| ((with_reducible (apply w_var)); exact rfl))
local macro_rules | `(tactic| walk_at "vcq") => `(tactic| repeat' (first | walk_at "vq0" | fail))
structure Sm (h : Nat) (s : Store) : Prop where
  pos : 0 < h
  is : ∃ a b : Int, s[h]? = some [.int a, .int b] ∧ 0 ≤ a
theorem Sm.lt {h : Nat} {s : Store} (x : Sm h s) : h < s.length := by obtain ⟨_, _, e, _⟩ := x.is; exact lt_of_get e
theorem Sm.kp {h : Nat} {s s' : Store} (x : Sm h s) (e : s'[h]? = s[h]?) : Sm h s' := ⟨x.pos, by obtain ⟨a, b, g, z⟩ := x.is; exact ⟨a, b, e.trans g, z⟩⟩
theorem Sm.all {h : Nat} {s s' : Store} (x : Sm h s) (K : Kall s s') : Sm h s' := ⟨x.pos, by obtain ⟨a, b, g, z⟩ := x.is; exact ⟨a, b, K.get g, z⟩⟩
theorem Sm.push {h : Nat} {s : Store} (x : Sm h s) (xs : List D) : Sm h (s ++ [xs]) := x.all Kall.push
theorem take_ok {n h : Nat} {s : Store} {m : Int} (hn : 1 ≤ n) (x : Sm h s) (m1 : 1 ≤ m) (m2 : m ≤ 1000000) : W (G n 19 [.lst h, .int m] s) fun d s' => (∃ r : Int, d = .int r ∧ 0 ≤ r ∧ r < m) ∧ Sm h s' ∧ Kp h s s' := by
  match n, hn with
  | n + 1, _ =>
  obtain ⟨h0, a, b, e, a0⟩ := x
  have c1 : CMul b 48271 := cmulR (by omega) (by omega)
  have w1 := fmod_b (b * 48271 + 12345) (b := 2147483647) (by omega)
  have c2 : CMul ((b * 48271 + 12345).fmod 2147483647) ((b * 48271 + 12345).fmod 2147483647) := cmulL (by omega) (by omega)
  have c3 : CDivN a m := ⟨by omega, by omega⟩
  have i0 : ixN [D.int a, D.int b].length 0 = some 0 := rfl
  have i1 : ixN [D.int a, D.int b].length 1 = some 1 := rfl
  refine Gw__law_take ?_
  unfold b__law_take
  walk_at "vcq"
  all_goals first | assumption | (show (_ : Int) ≠ 0; omega) | skip
  · refine ⟨⟨_, rfl, fmod_b _ (by omega)⟩, ⟨h0, _, _, get_set e, a0⟩, Kp.set⟩
  · refine ⟨⟨_, rfl, fmod_b _ (by omega)⟩, ⟨h0, _, _, get_set e, ?_⟩, Kp.set⟩
    rw [Int.fdiv_eq_ediv_of_nonneg _ (by omega)]
    exact Int.ediv_nonneg a0 (by omega)
theorem stream_ok {n : Nat} {ns : List Int} {s : Store} {k : Int} (hn : 1 ≤ n) (e : s[0]? = some (ns.map D.int)) (hl : ns.length ≤ 63) (k0 : 0 ≤ k) (k1 : k ≤ 1000) : W (G n 18 [.lst 0, .int k] s) fun d s' => ∃ h, d = .lst h ∧ s.length ≤ h ∧ Sm h s' ∧ Kall s s' := by
  match n, hn with
  | n + 1, _ =>
  have sl := lt_of_get e
  refine Gw__law_stream ?_
  unfold b__law_stream
  have c1 : CMul k k := cmulL (by omega) (by omega)
  have cp : CPow 10 18 := ⟨by decide, by decide, by decide⟩
  by_cases hk : k < ns.length
  · have hk' : k.toNat < ns.length := by omega
    have at1 : atI (ns.map D.int) k = some (.int ns[k.toNat]) := by
      have q : atI (ns.map D.int) ((k.toNat : Nat) : Int) = some (.int ns[k.toNat]) := at_ints (List.getElem?_eq_getElem hk')
      rwa [show ((k.toNat : Nat) : Int) = k by omega] at q
    walk_at "vcq"
    all_goals first | assumption | (show (_ : Int) ≠ 0; omega) | skip
    · exact ⟨Nat.le_refl _, ⟨sl, _, _, get_new, by omega⟩, Kall.push⟩
    · exact ⟨Nat.le_refl _, ⟨sl, _, _, get_new, by split <;> omega⟩, Kall.push⟩
    · rename_i hc
      exact absurd (by simpa using hk) hc
  · walk_at "vcq"
    all_goals first | assumption | skip
    · rename_i hc
      exact absurd (by simpa using hc) hk
    · exact ⟨Nat.le_refl _, ⟨sl, _, _, get_new, by omega⟩, Kall.push⟩
theorem pick_ok {l : List Int} {i : Int} (h0 : 0 ≤ i) (h1 : i < l.length) : ∃ v, v ∈ l ∧ atI (l.map D.int) i = some (.int v) := by
  have hk : i.toNat < l.length := by omega
  refine ⟨l[i.toNat], List.getElem_mem hk, ?_⟩
  have q : atI (l.map D.int) ((i.toNat : Nat) : Int) = some (.int l[i.toNat]) := at_ints (List.getElem?_eq_getElem hk)
  rwa [show ((i.toNat : Nat) : Int) = i by omega] at q
theorem sections_ok {n h : Nat} {s : Store} {m : Int} (hn : 2 ≤ n) (x : Sm h s) (m1 : 1 ≤ m) (m6 : m ≤ 6) : W (G n 20 [.lst h, .int m] s) fun d s' => (∃ ss : List Int, d = di ss ∧ (ss.length : Int) = m ∧ ∀ x ∈ ss, 1 ≤ x ∧ x ≤ 4) ∧ Sm h s' ∧ Kp h s s' := by
  match n, hn with
  | n + 2, _ =>
  have s0 : 0 < s.length := Nat.lt_of_le_of_lt (Nat.zero_le _) x.lt
  refine Gw__law_sections ?_
  unfold b__law_sections
  walk_at "vcq"
  refine (take_ok (n := n + 1) (m := 4) (by omega) (x.push _) (by omega) (by omega)).mono fun d s1 ⟨⟨r, ed, r0, r1⟩, x1, K1⟩ => ?_
  subst ed
  obtain ⟨v, hv, av⟩ := pick_ok (l := [1, 2, 2, 4]) r0 (by simpa using r1)
  have av : atI [D.int 1, D.int 2, D.int 2, D.int 4] r = some (.int v) := av
  have g1 : s1[s.length]? = some [D.int 1, D.int 2, D.int 2, D.int 4] := K1.get get_new (Nat.ne_of_gt x.lt)
  have vb : 1 ≤ v ∧ v ≤ 4 := by simp at hv; omega
  refine p_ixL g1 av ?_
  walk_at "vcq"
  · omega
  refine lcD (h := h) (Sm h) (fun _ d => ∃ y : Int, d = .int y ∧ 1 ≤ y ∧ y ≤ 4) Still.none (by rw [List.length_range]; omega) x1.lt (fun _ _ e => by cases e) x1 (fun s s' x e => x.kp e) (fun a _ => ⟨_, rfl, fun s2 K2 x2 => ?_⟩) fun s2 ds g2 l2 r2 K2 x2 => ?_
  · walk_at "vcq"
    refine (take_ok (n := n + 1) (m := v) (by omega) x2 (by omega) (by omega)).mono fun d s3 ⟨⟨r, ed, r0, r1⟩, x3, K3⟩ => ?_
    subst ed
    walk_at "vcq"
    exact ⟨⟨_, rfl, by omega, by omega⟩, K3, x3⟩
  · rw [List.length_range] at l2
    obtain ⟨ns, e1, e2, e3⟩ := ints_of (R := fun _ y => 1 ≤ y ∧ y ≤ 4) ds fun i d e => by
      have hi := (List.getElem?_eq_some_iff.mp e).1
      obtain ⟨y, ey, hy⟩ := r2 i i d (by rw [List.getElem?_range (by omega)]) e
      exact ⟨y, ey, hy⟩
    subst e1
    walk_at "vcq"
    refine ⟨⟨ns, rfl, by omega, fun x hx => ?_⟩, x2, (Kp.push.trans K1).trans K2⟩
    obtain ⟨i, hi⟩ := List.getElem?_of_mem hx
    exact e3 i x hi
theorem moves_ok {n h : Nat} {s : Store} {m : Int} (hn : 2 ≤ n) (x : Sm h s) (m1 : 1 ≤ m) (m6 : m ≤ 20) : W (G n 21 [.lst h, .int m] s) fun d s' => (∃ l, d = .lst l ∧ s.length ≤ l ∧ ∃ ns : List Int, s'[l]? = some (ns.map D.int) ∧ (ns.length : Int) = m) ∧ Sm h s' ∧ Kp h s s' := by
  match n, hn with
  | n + 2, _ =>
  have s0 : 0 < s.length := Nat.lt_of_le_of_lt (Nat.zero_le _) x.lt
  refine Gw__law_moves ?_
  unfold b__law_moves
  walk_at "vcq"
  refine (take_ok (n := n + 1) (m := 3) (by omega) x (by omega) (by omega)).mono fun d s1 ⟨⟨r, ed, r0, r1⟩, x1, K1⟩ => ?_
  subst ed
  walk_at "vcq"
  · omega
  have l1 := K1.le
  refine lcD (h := h) (Sm h) (fun _ d => ∃ y : Int, d = .int y ∧ 0 ≤ y ∧ y ≤ 1) Still.none (by rw [List.length_range]; omega) x1.lt (fun _ _ e => by cases e) x1 (fun s s' x e => x.kp e) (fun a _ => ⟨_, rfl, fun s2 K2 x2 => ?_⟩) fun s2 ds g2 l2 r2 K2 x2 => ?_
  · walk_at "vcq"
    refine (take_ok (n := n + 1) (m := 2 + r) (by omega) x2 (by omega) (by omega)).mono fun d s3 ⟨⟨r, ed, r0, r1⟩, x3, K3⟩ => ?_
    subst ed
    walk_at "vcq"
    exact ⟨⟨_, rfl, by split <;> omega, by split <;> omega⟩, K3, x3⟩
  · rw [List.length_range] at l2
    obtain ⟨ns, e1, e2, e3⟩ := ints_of (R := fun _ y => 0 ≤ y ∧ y ≤ 1) ds fun i d e => by
      have hi := (List.getElem?_eq_some_iff.mp e).1
      obtain ⟨y, ey, hy⟩ := r2 i i d (by rw [List.getElem?_range (by omega)]) e
      exact ⟨y, ey, hy⟩
    subst e1
    have l2' := lt_of_get g2
    have p1 : 0 < s1.length := by omega
    walk_at "vcq"
    · show (2 : Int) ≠ 0; omega
    · rename_i hc
      refine (take_ok (n := n + 1) (m := m) (by omega) x2 (by omega) (by omega)).mono fun d s3 ⟨⟨r, ed, r0, r1⟩, x3, K3⟩ => ?_
      subst ed
      have g3 : s3[s1.length]? = some (ns.map D.int) := K3.get g2 (Nat.ne_of_gt x1.lt)
      have hr : r.toNat < ns.length := by omega
      have at1 : atI (ns.map D.int) r = some (.int ns[r.toNat]) := by
        have q : atI (ns.map D.int) ((r.toNat : Nat) : Int) = some (.int ns[r.toNat]) := at_ints (List.getElem?_eq_getElem hr)
        rwa [show ((r.toNat : Nat) : Int) = r by omega] at q
      have ix : ixN (ns.map D.int).length r = some r.toNat := by
        rw [List.length_map]; unfold ixN; rw [if_pos r0, if_pos (by omega)]
      walk_at "vcq"
      refine ⟨⟨_, rfl, by omega, ns.set r.toNat (1 - ns[r.toNat]), ?_, by rw [List.length_set]; omega⟩, x3.kp (List.getElem?_set_ne (Nat.ne_of_gt x1.lt)), ((K1.trans K2).trans K3).fresh l1⟩
      rw [get_set g3, List.map_set]
    · exact ⟨⟨_, rfl, by omega, ns, g2, by omega⟩, x2, K1.trans K2⟩
def prD (q : Int × Int) : D := .tup [.int q.1, .int q.2]
def rowT (r : List (Int × Int)) : D := .tup (r.map prD)
abbrev Steps (rows : List (List (Int × Int))) : D := .tup (rows.map rowT)
structure Rw (m : Int) (r : List (Int × Int)) : Prop where
  each : ∀ q ∈ r, 0 ≤ q.1 ∧ q.1 < m ∧ (q.2 = 0 ∨ q.2 = 1)
  asc : r.Pairwise fun p q => p.1 < q.1
theorem Rw.nil {m : Int} : Rw m [] := ⟨fun _ h => (by cases h), .nil⟩
theorem Rw.up {m m' : Int} {r : List (Int × Int)} (h : Rw m r) (l : m ≤ m') : Rw m' r := ⟨fun q hq => by have := h.each q hq; omega, h.asc⟩
theorem Rw.snoc {m σ : Int} {r : List (Int × Int)} (h : Rw m r) (m0 : 0 ≤ m) (hs : σ = 0 ∨ σ = 1) : Rw (m + 1) (r ++ [(m, σ)]) := by
  refine ⟨fun q hq => ?_, List.pairwise_append.mpr ⟨h.asc, List.pairwise_singleton .., fun a ha b hb => ?_⟩⟩
  · rcases List.mem_append.mp hq with hq | hq
    · have := h.each q hq; omega
    · have : q = (m, σ) := by simpa using hq
      subst this
      exact ⟨m0, by show m < m + 1; omega, hs⟩
  · have : b = (m, σ) := by simpa using hb
    subst this
    exact (h.each a ha).2.1
theorem Rw.len {m : Int} {r : List (Int × Int)} (h : Rw m r) (m0 : 0 ≤ m) : (r.length : Int) ≤ m := by
  have key : ∀ (r : List (Int × Int)) (lo : Int), (∀ q ∈ r, lo ≤ q.1 ∧ q.1 < m) → r.Pairwise (fun p q => p.1 < q.1) → lo ≤ m → lo + (r.length : Int) ≤ m := by
    intro r
    induction r with
    | nil => intro lo _ _ h; simpa using h
    | cons q r ih =>
      intro lo hb pw _
      rw [List.pairwise_cons] at pw
      have hq := hb q List.mem_cons_self
      have := ih (q.1 + 1) (fun x hx => ⟨by have := pw.1 x hx; omega, (hb x (List.mem_cons_of_mem _ hx)).2⟩) pw.2 (by omega)
      rw [List.length_cons]
      omega
  have := key r 0 (fun q hq => by have := h.each q hq; omega) h.asc m0
  omega
structure Tab (b : Nat) (L : List (Nat × List (Int × Int))) (s : Store) : Prop where
  nd : (L.map (·.1)).Nodup
  at_ : ∀ p ∈ L, b < p.1 ∧ s[p.1]? = some (p.2.map prD)
theorem Tab.kp {b h : Nat} {L : List (Nat × List (Int × Int))} {s s' : Store} (x : Tab b L s) (hb : h ≤ b) (K : Kp h s s') : Tab b L s' := ⟨x.nd, fun p hp => by obtain ⟨a, e⟩ := x.at_ p hp; exact ⟨a, K.get e (by omega)⟩⟩
theorem set_map {L : List (Nat × List (Int × Int))} {i k : Nat} {r r' : List (Int × Int)} (h : L[i]? = some (k, r)) : (L.set i (k, r')).map (·.1) = L.map (·.1) := by
  rw [List.map_set]
  apply List.ext_getElem?
  intro j
  by_cases e : i = j
  · subst e
    have hi : i < (L.map (·.1)).length := by rw [List.length_map]; exact (List.getElem?_eq_some_iff.mp h).1
    rw [List.getElem?_set_self hi, List.getElem?_map, h]; rfl
  · rw [List.getElem?_set_ne e]
theorem Tab.put {b i k : Nat} {L : List (Nat × List (Int × Int))} {r r' : List (Int × Int)} {s : Store} (x : Tab b L s) (h : L[i]? = some (k, r)) : Tab b (L.set i (k, r')) (s.set k (r'.map prD)) := by
  refine ⟨by rw [set_map h]; exact x.nd, fun p hp => ?_⟩
  obtain ⟨j, hj⟩ := List.getElem?_of_mem hp
  obtain ⟨b0, e0⟩ := x.at_ (k, r) (List.mem_of_getElem? h)
  by_cases e : i = j
  · subst e
    rw [List.getElem?_set_self (List.getElem?_eq_some_iff.mp h).1] at hj
    cases hj
    exact ⟨b0, get_set e0⟩
  · rw [List.getElem?_set_ne e] at hj
    obtain ⟨b1, e1⟩ := x.at_ p (List.mem_of_getElem? hj)
    refine ⟨b1, ?_⟩
    rw [List.getElem?_set_ne]
    · exact e1
    · intro z
      have hl : i < (L.map (·.1)).length := by rw [List.length_map]; exact (List.getElem?_eq_some_iff.mp h).1
      have hl2 : j < (L.map (·.1)).length := by rw [List.length_map]; exact (List.getElem?_eq_some_iff.mp hj).1
      have q1 : (L.map (·.1))[i] = k := by rw [List.getElem_map, (List.getElem?_eq_some_iff.mp h).2]
      have q2 : (L.map (·.1))[j] = p.1 := by rw [List.getElem_map, (List.getElem?_eq_some_iff.mp hj).2]
      have nd := List.pairwise_iff_getElem.mp x.nd
      rcases Nat.lt_or_gt_of_ne e with lt | gt
      · exact nd i j hl hl2 lt (by rw [q1, q2]; exact z)
      · exact nd j i hl2 hl gt (by rw [q1, q2]; exact z.symm)
def hdl (p : Nat × List (Int × Int)) : D := .lst p.1
theorem t0_row (r : List (Int × Int)) : t0 2 (rowT r) = true := by
  show (r.map prD).all (t0 1) = true
  rw [List.all_eq_true]
  intro d hd
  obtain ⟨q, _, rfl⟩ := List.mem_map.mp hd
  rfl
theorem t0_steps (rows : List (List (Int × Int))) : t0 3 (Steps rows) = true := by
  show (rows.map rowT).all (t0 2) = true
  rw [List.all_eq_true]
  intro d hd
  obtain ⟨q, _, rfl⟩ := List.mem_map.mp hd
  exact t0_row q
theorem steps_ok {n h : Nat} {s : Store} {m L : Int} (hn : 3 ≤ n) (x : Sm h s) (m1 : 1 ≤ m) (m6 : m ≤ 6) (L1 : 2 ≤ L) (L2 : L ≤ 12) :
    W (G n 22 [.lst h, .int m, .int L] s) fun d s' => (∃ rows, d = Steps rows ∧ (∀ r ∈ rows, Rw m r ∧ r ≠ []) ∧ 1 ≤ rows.length ∧ rows.length ≤ 12) ∧ Sm h s' ∧ Kp h s s' := by
  match n, hn with
  | n + 3, _ =>
  have s0 : 0 < s.length := Nat.lt_of_le_of_lt (Nat.zero_le _) x.lt
  refine Gw__law_steps ?_
  unfold b__law_steps
  walk_at "vcq"
  · omega
  refine lcI (fun i acc s' => ∃ T : List (Nat × List (Int × Int)), acc = T.map hdl ∧ T.length = i ∧ Tab s.length T s' ∧ (∀ p ∈ T, p.2 = []) ∧ Kall s s') Still.none ⟨[], rfl, rfl, ⟨.nil, fun p hp => (by cases hp)⟩, fun p hp => (by cases hp), Kall.push⟩ ?_ ?_
  · rintro i a acc s1 hi ⟨T, rfl, lT, tb, em, K⟩ he
    refine ⟨Still.none, _, rfl, ?_⟩
    walk_at "vcq"
    have sl := lt_of_get he
    refine ⟨Kall.push.get he, by rw [List.length_map]; have := (List.getElem?_eq_some_iff.mp hi).1; rw [List.length_range] at this; omega, T ++ [(s1.length, [])], by simp [hdl], by simp [lT], ⟨?_, ?_⟩, ?_, kall_fresh (K.trans Kall.push) (Nat.le_refl _)⟩
    · rw [List.map_append, List.nodup_append]
      refine ⟨tb.nd, by simp, fun a ha b hb => ?_⟩
      obtain ⟨p, hp, rfl⟩ := List.mem_map.mp ha
      have : b = s1.length := by simpa using hb
      have := lt_of_get (tb.at_ p hp).2
      omega
    · intro p hp
      rcases List.mem_append.mp hp with hp | hp
      · obtain ⟨b1, e1⟩ := tb.at_ p hp
        refine ⟨b1, ?_⟩
        rw [List.getElem?_set_ne (by omega)]
        exact Kall.push.get e1
      · have : p = (s1.length, []) := by simpa using hp
        subst this
        refine ⟨sl, ?_⟩
        rw [List.getElem?_set_ne (by show s.length ≠ s1.length; omega)]
        exact get_new
    · intro p hp
      rcases List.mem_append.mp hp with hp | hp
      · exact em p hp
      · have : p = (s1.length, []) := by simpa using hp
        subst this; rfl
  rintro acc s1 ⟨T, rfl, lT, tb, em, K⟩ he
  refine ⟨Still.none, ?_⟩
  rw [List.length_range] at lT
  have hlt := x.lt
  have x1 : Sm h s1 := x.all K
  walk_at "vcq"
  · omega
  refine forT (fun j ρ s2 => ∃ (o4 o5 o6 o7 o8 o9 : Option D) (T : List (Nat × List (Int × Int))), ρ = [some (.lst h), some (.int m), some (.int L), some (.lst s.length), o4, o5, o6, o7, o8, o9] ∧ s2[s.length]? = some (T.map hdl) ∧ T.length = L.toNat ∧ Tab s.length T s2 ∧ (∀ p ∈ T, Rw (j : Int) p.2) ∧ Sm h s2 ∧ Kp h s s2)
    ⟨_, _, _, _, _, _, T, rfl, he, lT, tb, fun p hp => by rw [em p hp]; exact Rw.nil, x1, K h⟩ ?_ ?_
  · rintro j a ρ s2 hj ⟨o4, o5, o6, o7, o8, o9, T, rfl, he, lT, tb, rw', x2, K2⟩
    obtain rfl : a = j := by
      have hl := (List.getElem?_eq_some_iff.mp hj).1
      rw [List.length_range] at hl
      rw [List.getElem?_range hl] at hj
      cases hj; rfl
    refine ⟨Still.none, _, rfl, ?_⟩
    walk_at "vcq"
    refine (take_ok (n := n + 2) (m := 2) (by omega) x2 (by omega) (by omega)).mono fun d s3 ⟨⟨σ, ed, σ0, σ1⟩, x3, K3⟩ => ?_
    subst ed
    walk_at "vcq"
    refine (moves_ok (n := n + 2) (m := L) (by omega) x3 (by omega) (by omega)).mono fun d s4 ⟨⟨lm, ed, hlm, ns, gm, lns⟩, x4, K4⟩ => ?_
    subst ed
    have l3 := K3.le
    have l2 := lt_of_get he
    have he4 : s4[s.length]? = some (T.map hdl) := (K3.trans K4).get he (by omega)
    walk_at "vcq"
    refine w_forE (fun i ρ s5 => ∃ (σ : Int) (o5 o7 o8 o9 : Option D) (T : List (Nat × List (Int × Int))), ρ = [some (.lst h), some (.int m), some (.int L), some (.lst s.length), some (.int (a : Int)), o5, some (.int σ), o7, o8, o9] ∧ (σ = 0 ∨ σ = 1) ∧ s5[s.length]? = some (T.map hdl) ∧ T.length = L.toNat ∧ Tab s.length T s5 ∧ (∀ p ∈ T, p.1 < lm) ∧
        (∀ (k : Nat) p, T[k]? = some p → (k < i → Rw ((a : Int) + 1) p.2) ∧ (i ≤ k → Rw (a : Int) p.2)) ∧ s5[lm]? = some (ns.map D.int) ∧ Sm h s5 ∧ Kp h s s5)
      ⟨σ, _, _, _, _, T, rfl, by omega, he4, lT, tb.kp (by omega) (K3.trans K4), fun p hp => ?_, fun k p hp => ⟨fun z => by omega, fun _ => rw' p (List.mem_of_getElem? hp)⟩, gm, x4, (K2.trans K3).trans K4⟩ ?_ ?_
    · have := lt_of_get (tb.at_ p hp).2
      omega
    · rintro i y ρ s5 hy ⟨σ, o5, o7, o8, o9, T, rfl, hσ, he, lT, tb, hT, rT, gm, x5, K5⟩
      refine ⟨Still.of gm, _, rfl, ?_⟩
      have hi : i < T.length := by have := (List.getElem?_eq_some_iff.mp hy).1; omega
      obtain ⟨⟨k, r⟩, hk⟩ : ∃ p, T[i]? = some p := ⟨_, List.getElem?_eq_getElem hi⟩
      have at1 : atI (T.map hdl) (i : Int) = some (.lst k) := atI_list hk
      obtain ⟨bk, gk⟩ := tb.at_ _ (List.mem_of_getElem? hk)
      have gk : s5[k]? = some (r.map prD) := gk
      have bk : s.length < k := bk
      have klm : k < lm := hT _ (List.mem_of_getElem? hk)
      have rr : Rw (a : Int) r := (rT i _ hk).2 (Nat.le_refl _)
      have rl := rr.len (by omega)
      have am : (a : Int) < 6 := by
        have := (List.getElem?_eq_some_iff.mp hj).1
        rw [List.length_range] at this
        omega
      have k0 : 0 < k := by omega
      have zl : (r.map prD).length < 1000000 := by rw [List.length_map]; omega
      walk_at "vcq"
      · refine ⟨1 - σ, _, _, _, _, T.set i (k, r ++ [((a : Int), σ)]), rfl, by omega, ?_, by rw [List.length_set]; exact lT, ?_, ?_, ?_, ?_, x5.kp (List.getElem?_set_ne (by omega)), K5.fresh (by omega)⟩
        · rw [List.getElem?_set_ne (by omega), he]
          congr 1
          have := congrArg (List.map D.lst) (set_map (r' := r ++ [((a : Int), σ)]) hk)
          rw [List.map_map, List.map_map] at this
          exact this.symm
        · have := tb.put (r' := r ++ [((a : Int), σ)]) hk
          rw [List.map_append] at this
          exact this
        · intro p hp
          rcases List.mem_or_eq_of_mem_set hp with hp | rfl
          · exact hT p hp
          · exact klm
        · intro k' p hp
          by_cases e : i = k'
          · subst e
            rw [List.getElem?_set_self hi] at hp
            cases hp
            exact ⟨fun _ => rr.snoc (by omega) hσ, fun z => by omega⟩
          · rw [List.getElem?_set_ne e] at hp
            exact ⟨fun z => (rT k' p hp).1 (by omega), fun z => (rT k' p hp).2 (by omega)⟩
        · rw [List.getElem?_set_ne (by omega)]; exact gm
      · refine ⟨σ, _, _, _, _, T, rfl, hσ, he, lT, tb, hT, fun k' p hp => ⟨fun z => ?_, fun z => (rT k' p hp).2 (by omega)⟩, gm, x5, K5⟩
        by_cases e : k' = i
        · subst e; exact ((rT k' p hp).2 (Nat.le_refl _)).up (by omega)
        · exact (rT k' p hp).1 (by omega)
    · rintro ρ s5 ⟨σ, o5, o7, o8, o9, T, rfl, hσ, he, lT, tb, hT, rT, gm, x5, K5⟩
      refine ⟨Still.of gm, ?_⟩
      refine ⟨_, _, _, _, _, _, T, rfl, he, lT, tb, fun p hp => ?_, x5, K5⟩
      obtain ⟨k, hk⟩ := List.getElem?_of_mem hp
      have hkl := (List.getElem?_eq_some_iff.mp hk).1
      have := (rT k p hk).1 (by omega)
      exact this
  · rintro ρ s2 ⟨o4, o5, o6, o7, o8, o9, T, rfl, he, lT, tb, rw', x2, K2⟩
    refine ⟨Still.none, ?_⟩
    rw [List.length_range] at rw'
    have rm : ∀ p ∈ T, Rw m p.2 := fun p hp => (rw' p hp).up (by omega)
    walk_at "vcq"
    refine lcT (fun p => !p.2.isEmpty) (fun p => rowT p.2) (Still.of he) (by omega) (fun p hp => ⟨_, rfl, fun s3 K3 => ?_⟩) fun s3 g3 K3 => ?_
    · have gp := K3.get (tb.at_ p hp).2
      show W (sVal (sOp2 fNe (sVar 9) (sLst sNil)) [_, _, _, _, _, _, _, _, _, some (D.lst p.1)] s3) _
      walk_at "vcq"
      refine p_neL (k := 2) (Kall.push.get gp) get_new (fun d hd => by obtain ⟨q, _, rfl⟩ := List.mem_map.mp hd; rfl) (fun d hd => by cases hd) (by omega) fun r hr => ?_
      refine ⟨_, rfl, ?_, Kall.push, fun _ => ?_⟩
      · cases r with
        | true => have := hr.mp rfl; have : p.2 = [] := by simpa using this
                  simp [this]
        | false =>
          cases hp2 : p.2 with
          | nil => have := hr.mpr (by rw [hp2]; rfl); cases this
          | cons _ _ => rfl
      · show W (sCall fTuple (sCons (sVar 9) sNil) [_, _, _, _, _, _, _, _, _, some (D.lst p.1)] _) _
        walk_at "vcq"
        exact ⟨rfl, Kall.refl⟩
    · have ef : ((T.filter fun p => !p.2.isEmpty).map fun p => rowT p.2) = ((T.filter fun p => !p.2.isEmpty).map (·.2)).map rowT := by rw [List.map_map]; rfl
      rw [ef] at g3
      generalize hrows : (T.filter fun p => !p.2.isEmpty).map (·.2) = rows at g3
      have hr : ∀ r ∈ rows, Rw m r ∧ r ≠ [] := fun r hr => by
        rw [← hrows] at hr
        obtain ⟨p, hp, rfl⟩ := List.mem_map.mp hr
        obtain ⟨hp, z⟩ := List.mem_filter.mp hp
        exact ⟨rm p hp, by intro e; rw [e] at z; cases z⟩
      have hl : rows.length ≤ 12 := by
        rw [← hrows, List.length_map]
        have : (T.filter fun p => !p.2.isEmpty).length ≤ T.length := List.length_filter_le ..
        omega
      walk_at "vcq"
      refine p_eqD (k := 3) (t0_steps rows) rfl (by omega) fun r hr2 => ?_
      refine ⟨r, rfl, ?_⟩
      cases r with
      | true =>
        refine ⟨fun _ => ?_, fun z => (by cases z)⟩
        walk_at "vcq"
        refine ⟨⟨[[(0, 1)], [(0, 0)]], rfl, ?_, by simp, by simp⟩, x2.all K3, K2.trans (K3 h)⟩
        have one : ∀ b : Int, b = 0 ∨ b = 1 → Rw m [(0, b)] := fun b hb => by
          refine ⟨fun q hq => ?_, List.pairwise_singleton ..⟩
          have : q = (0, b) := by simpa using hq
          subst this
          exact ⟨(by show (0 : Int) ≤ 0; omega), (by show (0 : Int) < m; omega), hb⟩
        intro r hr
        simp at hr
        rcases hr with rfl | rfl
        · exact ⟨one 1 (.inr rfl), by simp⟩
        · exact ⟨one 0 (.inl rfl), by simp⟩
      | false =>
        refine ⟨fun z => (by cases z), fun _ => ?_⟩
        walk_at "vcq"
        refine ⟨⟨rows, rfl, hr, ?_, hl⟩, x2.all K3, K2.trans (K3 h)⟩
        cases rows with
        | nil => have := hr2.mpr rfl; cases this
        | cons _ _ => simp
abbrev nums (c : List Nat) : List D := c.map natD
def zs (c : List Nat) : List Int := c.map fun (i : Nat) => (i : Int)
theorem nums_zs (c : List Nat) : nums c = (zs c).map D.int := by unfold nums zs; rw [List.map_map]; rfl
theorem row_len {rows : List (List (Int × Int))} (hr : ∀ r ∈ rows, r.length ≤ 6) (i : Nat) : (rows.getD i []).length ≤ 6 := by
  rw [List.getD_eq_getElem?_getD]
  cases h : rows[i]? with
  | none => simp
  | some r => exact hr r (List.mem_of_getElem? h)
def movers (rows : List (List (Int × Int))) (is : List Nat) : List Int := is.flatMap fun i => (rows.getD i []).map (·.1)
theorem movers_snoc (rows : List (List (Int × Int))) (is : List Nat) (i : Nat) : movers rows (is ++ [i]) = movers rows is ++ (rows.getD i []).map (·.1) := by simp [movers]
theorem movers_len {rows : List (List (Int × Int))} (hr : ∀ r ∈ rows, r.length ≤ 6) : ∀ is : List Nat, (movers rows is).length ≤ is.length * 6
  | [] => Nat.le_refl _
  | i :: is => by
    have ih := movers_len hr is
    have : (rows.getD i []).length ≤ 6 := by
      rw [List.getD_eq_getElem?_getD]
      cases h : rows[i]? with
      | none => simp
      | some r => exact hr r (List.mem_of_getElem? h)
    unfold movers at ih ⊢
    rw [List.flatMap_cons, List.length_append, List.length_map, List.length_cons]
    omega
theorem dup_none (ms : List Int) : ms.zipIdx.filter (fun p => decide (p.1 ∈ ms.take p.2)) = [] ↔ ms.Nodup := by
  rw [List.filter_eq_nil_iff]
  unfold List.Nodup
  rw [List.pairwise_iff_getElem]
  constructor
  · intro h i j hi hj lt e
    refine h (ms[j], j) (List.mem_iff_getElem?.mpr ⟨j, by rw [List.getElem?_zipIdx, List.getElem?_eq_getElem hj]; simp⟩) ?_
    refine decide_eq_true ?_
    show ms[j] ∈ ms.take j
    rw [← e]
    exact List.mem_iff_getElem?.mpr ⟨i, by rw [List.getElem?_take_of_lt lt, List.getElem?_eq_getElem hi]⟩
  · intro h p hp z
    obtain ⟨j, hj⟩ := List.mem_iff_getElem?.mp hp
    rw [List.getElem?_zipIdx] at hj
    obtain ⟨x, hx, rfl⟩ := Option.map_eq_some_iff.mp hj
    have z := of_decide_eq_true z
    have z : x ∈ ms.take j := by simpa using z
    obtain ⟨i, hi⟩ := List.mem_iff_getElem?.mp z
    have lt : i < j := by
      have := (List.getElem?_eq_some_iff.mp hi).1
      rw [List.length_take] at this; omega
    rw [List.getElem?_take_of_lt lt] at hi
    obtain ⟨h1, e1⟩ := List.getElem?_eq_some_iff.mp hi
    obtain ⟨h2, e2⟩ := List.getElem?_eq_some_iff.mp hx
    exact h i j h1 h2 lt (e1.trans e2.symm)
theorem cutTo {xs : List D} {i : Nat} : cutD xs none (some (i : Int)) = xs.take i := by
  unfold cutD
  rw [HT.sIx_nat, HT.sIx_none, List.drop_zero, Nat.sub_zero]
  by_cases h : i ≤ xs.length
  · rw [Nat.min_eq_left h]
  · rw [Nat.min_eq_right (by omega), List.take_length, List.take_of_length_le (by omega)]
theorem cutFrom {xs : List D} {i : Nat} (h : i ≤ xs.length) : cutD xs (some (i : Int)) none = xs.drop i := by
  unfold cutD
  rw [HT.sIx_nat, HT.sIx_none, Nat.min_eq_left h]
  exact List.take_of_length_le (by rw [List.length_drop]; exact Nat.le_refl _)
instance (ms : List Int) : Decidable ms.Nodup := inferInstance
theorem once_ok {n l : Nat} {s : Store} {rows : List (List (Int × Int))} {is : List Nat} (hn : 1 ≤ n) (hr : ∀ r ∈ rows, r.length ≤ 6) (s0 : 0 < s.length) (g : s[l]? = some (nums is)) (hi : ∀ i ∈ is, i < rows.length) (hl : is.length ≤ 100) :
    W (G n 25 [Steps rows, .lst l] s) fun d s' => d = .bl (decide (movers rows is).Nodup) ∧ Kall s s' := by
  match n, hn with
  | n + 1, _ =>
  refine Gw__law_once ?_
  unfold b__law_once
  walk_at "vcq"
  refine forT (fun i ρ s' => ∃ (mv : Nat) (o3 o4 o5 o6 : Option D), ρ = [some (Steps rows), some (.lst l), some (.lst mv), o3, o4, o5, o6] ∧ 0 < mv ∧ s'[mv]? = some ((movers rows (is.take i)).map D.int) ∧ Kall s s') ⟨_, _, _, _, _, rfl, s0, get_new, Kall.push⟩ ?_ ?_
  · rintro i a ρ s1 ha ⟨mv, o3, o4, o5, o6, rfl, mv0, gm, K⟩
    refine ⟨Still.of (K.get g), _, rfl, ?_⟩
    have hin := hi a (List.mem_of_getElem? ha)
    have at1 : atI (rows.map rowT) (a : Int) = some (.tup ((rows.getD a []).map prD)) := by
      have := atI_list (emb := rowT) (List.getElem?_eq_getElem hin)
      rw [this, List.getD_eq_getElem?_getD, List.getElem?_eq_getElem hin]; rfl
    show W (kAsg (sOp2 fAddA (sVar 2) _) (gN 2) [_, _, _, some (.int (a : Int)), _, _, _] s1) _
    walk_at "vcq"
    refine lcTM (fun q => .int q.1) Still.none (by have := row_len hr a; omega) (fun q _ => ⟨_, rfl, fun s2 K2 => ?_⟩) fun s2 g2 K2 => ?_
    · walk_at "vcq"
      exact ⟨rfl, Kall.refl⟩
    · have K1 := K.pos s0
      have ml := movers_len hr (is.take i)
      have il : (is.take i).length ≤ 100 := by rw [List.length_take]; omega
      have rl := row_len hr a
      refine p_addL (K2.get gm) g2 mv0 K1 (by rw [List.length_map, List.length_map]; omega) ?_
      walk_at "vcq"
      refine ⟨_, _, _, _, _, rfl, K2.pos K1, ?_, (K.trans K2).trans Kall.push⟩
      rw [get_new, List.take_succ, ha]
      show _ = some ((movers rows (is.take i ++ [a])).map D.int)
      rw [movers_snoc, List.map_append, List.map_map]; rfl
  · rintro ρ s1 ⟨mv, o3, o4, o5, o6, rfl, mv0, gm, K⟩
    rw [List.take_length] at gm
    refine ⟨Still.of (K.get g), ?_⟩
    have ml := movers_len hr is
    generalize movers rows is = ms at gm ml
    walk_at "vcq"
    rw [enum_map]
    refine lcT (fun p => decide (p.1 ∈ ms.take p.2)) (fun p => .int p.2) (Still.of gm) (by rw [List.length_zipIdx]; omega) (fun p _ => ⟨_, rfl, fun s2 K2 => ?_⟩) fun s2 g2 K2 => ?_
    · have gm2 := K2.get gm
      show W (sVal (sOp2 _ (sVar 5) _) [_, _, some (.lst mv), _, some (.int (p.2 : Int)), some (.int p.1), _] s2) _
      walk_at "vcq"
      refine p_cutL gm2 (by rw [List.length_map]; omega) ?_
      rw [cutTo, ← List.map_take]
      walk_at "vcq"
      refine ⟨rfl, Kall.push, fun _ => ?_⟩
      show W (sVar 4 [_, _, _, _, some (.int (p.2 : Int)), _, _] _) _
      walk_at "vcq"
      exact ⟨rfl, Kall.refl⟩
    · walk_at "vcq"
      refine p_eqL (k := 0) (Kall.push.get g2) get_new (fun d hd => by obtain ⟨q, _, rfl⟩ := List.mem_map.mp hd; rfl) (fun d hd => by cases hd) (by omega) fun r hr => ?_
      refine ⟨?_, (K.trans K2).trans Kall.push⟩
      congr 1
      rw [Bool.eq_iff_iff, hr, decide_eq_true_eq, ← dup_none ms, List.map_eq_nil_iff]
def gstep (rows : List (List (Int × Int))) (b : Nat) (p : List Nat × List Nat) (j : Nat) : List Nat × List Nat :=
  let a := (b + (j + 1)) % rows.length
  if (movers rows (p.2 ++ [a])).Nodup then (p.1, p.2 ++ [a]) else (p.1 ++ [a], [a])
def greedyS (rows : List (List (Int × Int))) (b k : Nat) : List Nat × List Nat := (List.range k).foldl (gstep rows b) ([b], [b])
theorem greedyS_succ (rows : List (List (Int × Int))) (b k : Nat) : greedyS rows b (k + 1) = gstep rows b (greedyS rows b k) k := by unfold greedyS; rw [List.range_succ, List.foldl_append]; rfl
def begins (rows : List (List (Int × Int))) (b : Nat) : List Nat := (greedyS rows b (rows.length - 1)).1
theorem greedyS_b (rows : List (List (Int × Int))) {b : Nat} (hb : b < rows.length) : ∀ k, (∀ i ∈ (greedyS rows b k).1, i < rows.length) ∧ (∀ i ∈ (greedyS rows b k).2, i < rows.length) ∧ (greedyS rows b k).1.length ≤ k + 1 ∧ (greedyS rows b k).2.length ≤ k + 1
  | 0 => by
    show (∀ i ∈ [b], _) ∧ (∀ i ∈ [b], _) ∧ _
    refine ⟨fun i hi => ?_, fun i hi => ?_, by simp [greedyS], by simp [greedyS]⟩
    · have : i = b := by simpa using hi
      omega
    · have : i = b := by simpa using hi
      omega
  | k + 1 => by
    obtain ⟨h1, h2, h3, h4⟩ := greedyS_b rows hb k
    have ha : (b + (k + 1)) % rows.length < rows.length := Nat.mod_lt _ (by omega)
    rw [greedyS_succ]
    unfold gstep
    dsimp only
    split
    · refine ⟨h1, fun i hi => ?_, by show (greedyS rows b k).1.length ≤ _; omega, by rw [List.length_append]; simp; omega⟩
      rcases List.mem_append.mp hi with hi | hi
      · exact h2 i hi
      · have : i = (b + (k + 1)) % rows.length := by simpa using hi
        omega
    · refine ⟨fun i hi => ?_, fun i hi => ?_, by rw [List.length_append]; simp; omega, by simp⟩
      · rcases List.mem_append.mp hi with hi | hi
        · exact h1 i hi
        · have : i = (b + (k + 1)) % rows.length := by simpa using hi
          omega
      · have : i = (b + (k + 1)) % rows.length := by simpa using hi
        omega
theorem greedyS_nd (rows : List (List (Int × Int))) {b : Nat} (hb : b < rows.length) : ∀ k, k < rows.length → (greedyS rows b k).1.Nodup ∧ ∀ i ∈ (greedyS rows b k).1, ∃ j, j ≤ k ∧ i = (b + j) % rows.length
  | 0, _ => by
    show [b].Nodup ∧ ∀ i ∈ [b], _
    refine ⟨by simp, fun i hi => ⟨0, Nat.le_refl _, ?_⟩⟩
    have : i = b := by simpa using hi
    rw [this, Nat.add_zero, Nat.mod_eq_of_lt hb]
  | k + 1, hk => by
    obtain ⟨h1, h2⟩ := greedyS_nd rows hb k (by omega)
    rw [greedyS_succ]
    unfold gstep
    dsimp only
    split
    · exact ⟨h1, fun i hi => by obtain ⟨j, a, e⟩ := h2 i hi; exact ⟨j, by omega, e⟩⟩
    · refine ⟨List.nodup_append.mpr ⟨h1, by simp, fun a ha c hc => ?_⟩, fun i hi => ?_⟩
      · have : c = (b + (k + 1)) % rows.length := by simpa using hc
        subst this
        obtain ⟨j, hj, e⟩ := h2 a ha
        subst e
        intro z
        have q1 := Nat.mod_add_div (b + j) rows.length
        have q2 := Nat.mod_add_div (b + (k + 1)) rows.length
        rw [z] at q1
        have lt1 : (b + j) / rows.length ≤ (b + (k + 1)) / rows.length := Nat.div_le_div_right (by omega)
        rcases Nat.lt_or_eq_of_le lt1 with lt | eq
        · have := Nat.mul_le_mul_left rows.length (Nat.succ_le_of_lt lt)
          rw [Nat.mul_succ] at this
          omega
        · rw [eq] at q1; omega
      · rcases List.mem_append.mp hi with hi | hi
        · obtain ⟨j, a, e⟩ := h2 i hi; exact ⟨j, by omega, e⟩
        · exact ⟨k + 1, Nat.le_refl _, by simpa using hi⟩
theorem begins_nd (rows : List (List (Int × Int))) {b : Nat} (hb : b < rows.length) : (begins rows b).Nodup := (greedyS_nd rows hb _ (by omega)).1
theorem begins_lt (rows : List (List (Int × Int))) {b : Nat} (hb : b < rows.length) : ∀ i ∈ begins rows b, i < rows.length := (greedyS_b rows hb _).1
theorem begins_len (rows : List (List (Int × Int))) {b : Nat} (hb : b < rows.length) : (begins rows b).length ≤ rows.length := by have := (greedyS_b rows hb (rows.length - 1)).2.2.1; unfold begins; omega
theorem greedyS_mem (rows : List (List (Int × Int))) (b : Nat) : ∀ k, b ∈ (greedyS rows b k).1
  | 0 => by show b ∈ [b]; simp
  | k + 1 => by
    have := greedyS_mem rows b k
    rw [greedyS_succ]
    unfold gstep
    dsimp only
    split
    · exact this
    · exact List.mem_append_left _ this
theorem begins_mem (rows : List (List (Int × Int))) (b : Nat) : b ∈ begins rows b := greedyS_mem rows b _
def sortN (l : List Nat) : List Nat := (sortI (zs l)).map Int.toNat
theorem zs_sortN (l : List Nat) : zs (sortN l) = sortI (zs l) := by
  unfold sortN zs
  rw [List.map_map]
  have h : ∀ x ∈ sortI (l.map fun (i : Nat) => (i : Int)), ((fun (i : Nat) => (i : Int)) ∘ Int.toNat) x = x := fun x hx => by
    have := (sortI_perm (l.map fun (i : Nat) => (i : Int))).mem_iff.mp hx
    obtain ⟨i, _, rfl⟩ := List.mem_map.mp this
    simp
  rw [List.map_congr_left h, List.map_id']
theorem sortN_perm (l : List Nat) : (sortN l).Perm l := by
  have p := (sortI_perm (zs l)).map Int.toNat
  have e : (zs l).map Int.toNat = l := by unfold zs; rw [List.map_map]; exact (List.map_congr_left fun i _ => by simp).trans (List.map_id' _)
  rw [e] at p
  exact p
theorem sortN_sorted (l : List Nat) : (sortN l).Pairwise (· ≤ ·) := by
  have s := sortI_sorted (zs l)
  rw [← zs_sortN] at s
  unfold zs at s
  rw [List.pairwise_map] at s
  exact s.imp fun h => by omega
theorem sortN_rising {l : List Nat} (h : l.Nodup) : (sortN l).Pairwise (· < ·) := by
  have nd : (sortN l).Nodup := (sortN_perm l).nodup_iff.mpr h
  have so := sortN_sorted l
  exact (List.pairwise_and_iff.mpr ⟨so, nd⟩).imp fun ⟨a, b⟩ => Nat.lt_of_le_of_ne a b
theorem greedy_ok {n b : Nat} {s : Store} {rows : List (List (Int × Int))} (hn : 2 ≤ n) (hr : ∀ r ∈ rows, r.length ≤ 6) (s0 : 0 < s.length) (hb : b < rows.length) (hl : rows.length ≤ 12) :
    W (G n 26 [Steps rows, .int (b : Int)] s) fun d s' => d = .tup (nums (sortN (begins rows b))) ∧ Kall s s' := by
  match n, hn with
  | n + 2, _ =>
  refine Gw__law_greedy ?_
  unfold b__law_greedy
  walk_at "vcq"
  · rw [List.length_map]; omega
  have e1 : ((((rows.map rowT).length : Nat) : Int) - 1).toNat = rows.length - 1 := by rw [List.length_map]; omega
  rw [e1]
  refine forT (fun k ρ s' => ∃ (o5 o4 : Option D) (lo : Nat), ρ = [some (Steps rows), some (.int (b : Int)), some (.lst s.length), some (.lst lo), o4, o5] ∧ s.length < lo ∧ s'[s.length]? = some (nums (greedyS rows b k).1) ∧ s'[lo]? = some (nums (greedyS rows b k).2) ∧ Kall s s') ⟨_, _, _, rfl, by simp, Kall.push.get get_new, get_new, Kall.push.trans Kall.push⟩ ?_ ?_
  · rintro k a ρ s1 hk ⟨o5, o4, lo, rfl, hlo, g1, g2, K⟩
    obtain rfl : a = k := by
      have hl := (List.getElem?_eq_some_iff.mp hk).1
      rw [List.length_range] at hl
      rw [List.getElem?_range hl] at hk
      cases hk; rfl
    have hk := (List.getElem?_eq_some_iff.mp hk).1
    rw [List.length_range] at hk
    obtain ⟨b1, b2, b3, b4⟩ := greedyS_b rows hb a
    have em : ((b : Int) + (1 + (a : Int))).fmod (((rows.map rowT).length : Nat) : Int) = (((b + (a + 1)) % rows.length : Nat) : Int) := by
      rw [List.length_map, Int.fmod_eq_emod_of_nonneg _ (by omega)]
      have : (b : Int) + (1 + (a : Int)) = ((b + (a + 1) : Nat) : Int) := by omega
      rw [this]; rfl
    have ha : (b + (a + 1)) % rows.length < rows.length := Nat.mod_lt _ (by omega)
    refine ⟨Still.none, _, rfl, ?_⟩
    walk_at "vcq"
    · rw [List.length_map]; omega
    rw [em, greedyS_succ]
    generalize hp : greedyS rows b a = p at g1 g2 b1 b2 b3 b4
    unfold gstep
    generalize (b + (a + 1)) % rows.length = at' at ha
    dsimp only
    walk_at "vcq"
    have l1 := K.pos s0
    refine p_addL (Kall.push.get g2) get_new (by omega) l1 (by simp; omega) ?_
    walk_at "vcq"
    have ec : nums p.2 ++ [D.int (at' : Int)] = nums (p.2 ++ [at']) := by simp [natD]
    rw [ec]
    refine (once_ok (n := n + 1) (is := p.2 ++ [at']) (by omega) hr (by simp) get_new (fun i hi => ?_) (by simp; omega)).mono fun d s2 ⟨ed, K2⟩ => ?_
    · rcases List.mem_append.mp hi with hi | hi
      · exact b2 i hi
      · have : i = at' := by simpa using hi
        omega
    subst ed
    have g1' := ((Kall.push.trans Kall.push).trans K2).get g1
    have g2' := ((Kall.push.trans Kall.push).trans K2).get g2
    have Ks := ((K.trans (Kall.push.trans Kall.push)).trans K2)
    have q0 : 0 < lo := by omega
    have z1 : (nums p.1).length < 1000000 := by rw [List.length_map]; omega
    have z2 : (nums p.2).length < 1000000 := by rw [List.length_map]; omega
    walk_at "vcq"
    · rename_i hc
      rw [if_neg hc]
      have lo2 := lt_of_get g2'
      have gs : (s2.set s.length (nums p.1 ++ [D.int (at' : Int)]))[s.length]? = some (nums p.1 ++ [D.int (at' : Int)]) := get_set g1'
      have Kf : Kall s (s2.set s.length (nums p.1 ++ [D.int (at' : Int)])) := kall_fresh Ks (Nat.le_refl _)
      have lf : lo < (s2.set s.length (nums p.1 ++ [D.int (at' : Int)])).length := by rw [List.length_set]; exact lo2
      generalize s2.set s.length (nums p.1 ++ [D.int (at' : Int)]) = s3 at gs Kf lf
      refine p_append (xs := []) get_new (by omega) (by simp) ?_
      refine ⟨_, _, _, rfl, by omega, ?_, get_set get_new, kall_fresh (Kf.trans Kall.push) (by omega)⟩
      rw [List.getElem?_set_ne (by omega), Kall.push.get gs]
      simp [natD]
    · rename_i hc
      rw [if_pos hc]
      refine ⟨_, _, _, rfl, hlo, ?_, ?_, kall_fresh Ks (by omega)⟩
      · rw [List.getElem?_set_ne (by omega)]; exact g1'
      · rw [get_set g2']; simp [natD]
  · rintro ρ s1 ⟨o5, o4, lo, rfl, hlo, g1, g2, K⟩
    rw [List.length_range] at g1 g2
    refine ⟨Still.none, ?_⟩
    have bl := begins_len rows hb
    unfold begins at bl
    rw [nums_zs] at g1
    walk_at "vcq"
    refine p_sortI g1 (by unfold zs; rw [List.length_map]; omega) ?_
    walk_at "vcq"
    refine ⟨?_, K.trans Kall.push⟩
    rw [nums_zs, zs_sortN]; rfl
structure Cut (n : Nat) (c : List Nat) : Prop where
  rise : c.Pairwise (· < ·)
  ne : c ≠ []
  lt : ∀ i ∈ c, i < n
theorem nodup_le : ∀ (n : Nat) (c : List Nat), c.Nodup → (∀ i ∈ c, i < n) → c.length ≤ n := fun n c nd h => by
  have key : ∀ (r : List Nat) (lo : Nat), (∀ q ∈ r, lo ≤ q ∧ q < n) → r.Pairwise (· < ·) → lo ≤ n → lo + r.length ≤ n := by
    intro r
    induction r with
    | nil => intro lo _ _ h; simpa using h
    | cons q r ih =>
      intro lo hb pw _
      rw [List.pairwise_cons] at pw
      have hq := hb q List.mem_cons_self
      have := ih (q + 1) (fun x hx => ⟨pw.1 x hx, (hb x (List.mem_cons_of_mem _ hx)).2⟩) pw.2 (by omega)
      rw [List.length_cons]
      omega
  have := key (sortN c) 0 (fun q hq => ⟨Nat.zero_le _, h q ((sortN_perm c).mem_iff.mp hq)⟩) (sortN_rising nd) (Nat.zero_le _)
  rw [(sortN_perm c).length_eq] at this
  omega
theorem drawn_ok {n h : Nat} {s : Store} (hn : 4 ≤ n) (x : Sm h s) :
    W (G n 23 [.lst h] s) fun d s' => (∃ (m : Int) (ss : List Int) (rows : List (List (Int × Int))), d = .tup [di ss, Steps rows] ∧ 1 ≤ m ∧ m ≤ 6 ∧ (ss.length : Int) = m ∧ (∀ x ∈ ss, 1 ≤ x ∧ x ≤ 4) ∧ (∀ r ∈ rows, Rw m r ∧ r ≠ []) ∧ 1 ≤ rows.length ∧ rows.length ≤ 12) ∧ Sm h s' ∧ Kp h s s' := by
  match n, hn with
  | n + 4, _ =>
  have s0 : 0 < s.length := Nat.lt_of_le_of_lt (Nat.zero_le _) x.lt
  have hlt := x.lt
  refine Gw__law_drawn ?_
  unfold b__law_drawn
  walk_at "vcq"
  refine (take_ok (n := n + 3) (m := 8) (by omega) x (by omega) (by omega)).mono fun d s1 ⟨⟨r, ed, r0, r1⟩, x1, K1⟩ => ?_
  subst ed
  walk_at "vcq"
  generalize hg : (if decide (r = 5) = true then (1 : Int) else 0) = g
  have gb : 0 ≤ g ∧ g < 2 := by rw [← hg]; split <;> omega
  obtain ⟨v, hv, av⟩ := pick_ok (l := [3, 6]) gb.1 (by simpa using gb.2)
  have av : atI [D.int 3, D.int 6] g = some (.int v) := av
  have vb : 3 ≤ v ∧ v ≤ 6 := by simp at hv; omega
  obtain ⟨u, hu, au⟩ := pick_ok (l := [5, 11]) gb.1 (by simpa using gb.2)
  have au : atI [D.int 5, D.int 11] g = some (.int u) := au
  have ub : 5 ≤ u ∧ u ≤ 11 := by simp at hu; omega
  have l1 := K1.le
  walk_at "vcq"
  refine (take_ok (n := n + 3) (m := v) (by omega) (x1.push _) (by omega) (by omega)).mono fun d s2 ⟨⟨r2, ed, r20, r21⟩, x2, K2⟩ => ?_
  subst ed
  walk_at "vcq"
  refine (take_ok (n := n + 3) (m := u) (by omega) (x2.push _) (by omega) (by omega)).mono fun d s3 ⟨⟨r3, ed, r30, r31⟩, x3, K3⟩ => ?_
  subst ed
  walk_at "vcq"
  refine (sections_ok (n := n + 3) (m := 1 + r2) (by omega) x3 (by omega) (by omega)).mono fun d s4 ⟨⟨ss, ed, ls, bs⟩, x4, K4⟩ => ?_
  subst ed
  walk_at "vcq"
  refine (steps_ok (n := n + 3) (m := 1 + r2) (L := 2 + r3) (by omega) x4 (by omega) (by omega) (by omega) (by omega)).mono fun d s5 ⟨⟨rows, ed, rr, l1, l2⟩, x5, K5⟩ => ?_
  subst ed
  walk_at "vcq"
  exact ⟨⟨1 + r2, ss, rows, rfl, by omega, by omega, ls, bs, rr, l1, l2⟩, x5, ((((K1.trans Kp.push).trans K2).trans (Kp.push.trans K3)).trans K4).trans K5⟩
theorem cut_ok {n h : Nat} {s : Store} {rows : List (List (Int × Int))} (hn : 3 ≤ n) (x : Sm h s) (hr : ∀ r ∈ rows, r.length ≤ 6) (h1 : 1 ≤ rows.length) (hl : rows.length ≤ 12) :
    W (G n 27 [.lst h, Steps rows] s) fun d s' => (∃ c, d = .tup (nums c) ∧ Cut rows.length c ∧ ∃ b, b < rows.length ∧ ∀ i ∈ begins rows b, i ∈ c) ∧ Sm h s' ∧ Kp h s s' := by
  match n, hn with
  | n + 3, _ =>
  have s0 : 0 < s.length := Nat.lt_of_le_of_lt (Nat.zero_le _) x.lt
  refine Gw__law_cut ?_
  unfold b__law_cut
  walk_at "vcq"
  rw [List.length_map]
  refine (take_ok (n := n + 2) (m := (rows.length : Int)) (by omega) x (by omega) (by omega)).mono fun d s1 ⟨⟨b, ed, b0, b1⟩, x1, K1⟩ => ?_
  subst ed
  obtain ⟨b, rfl⟩ : ∃ b' : Nat, b = (b' : Int) := ⟨b.toNat, by omega⟩
  have hb : b < rows.length := by omega
  walk_at "vcq"
  refine (greedy_ok (n := n + 2) (by omega) hr (K1.pos s0) hb hl).mono fun d s2 ⟨ed, K2⟩ => ?_
  subst ed
  have x2 := x1.all K2
  have l2 := K1.le
  have l3 := (K2 0).le
  have nd0 : (sortN (begins rows b)).Nodup := (sortN_perm _).nodup_iff.mpr (begins_nd rows hb)
  have lt0 : ∀ i ∈ sortN (begins rows b), i < rows.length := fun i hi => begins_lt rows hb i ((sortN_perm _).mem_iff.mp hi)
  have len0 := nodup_le _ _ nd0 lt0
  walk_at "vcq"
  refine p_listT (by rw [List.length_map]; omega) ?_
  walk_at "vcq"
  refine (take_ok (n := n + 2) (m := 4) (by omega) (x2.push _) (by omega) (by omega)).mono fun d s3 ⟨⟨t, ed, t0, t1⟩, x3, K3⟩ => ?_
  subst ed
  have hlt := x.lt
  have g3 : s3[s2.length]? = some (nums (sortN (begins rows b))) := K3.get get_new (by omega)
  walk_at "vcq"
  · omega
  refine forT (fun _ ρ s' => ∃ (o3 o4 : Option D) (c : List Nat), ρ = [some (.lst h), some (Steps rows), some (.lst s2.length), o3, o4] ∧ s'[s2.length]? = some (nums c) ∧ c.Nodup ∧ (∀ i ∈ c, i < rows.length) ∧ (∀ i ∈ begins rows b, i ∈ c) ∧ Sm h s' ∧ Kp h s s') ⟨_, _, _, rfl, g3, nd0, lt0, fun i hi => (sortN_perm _).mem_iff.mpr hi, x3, ((K1.trans (K2 h)).trans Kp.push).trans K3⟩ ?_ ?_
  · rintro j a ρ s4 hj ⟨o3, o4, c, rfl, g4, nd, lt, sub, x4, K4⟩
    refine ⟨Still.none, _, rfl, ?_⟩
    walk_at "vcq"
    rw [List.length_map]
    refine (take_ok (n := n + 2) (m := (rows.length : Int)) (by omega) x4 (by omega) (by omega)).mono fun d s5 ⟨⟨o, ed, o0, o1⟩, x5, K5⟩ => ?_
    subst ed
    obtain ⟨o, rfl⟩ : ∃ b' : Nat, o = (b' : Int) := ⟨o.toNat, by omega⟩
    have g5 : s5[s2.length]? = some (nums c) := K5.get g4 (by omega)
    have g5' := g5
    rw [nums_zs] at g5'
    have len := nodup_le _ _ nd lt
    have z0 : 0 < s2.length := by omega
    have z1 : ((zs c).map D.int).length < 1000000 := by rw [List.length_map]; unfold zs; rw [List.length_map]; omega
    have mem : ((o : Int) ∈ zs c) ↔ o ∈ c := by
      unfold zs
      rw [List.mem_map]
      constructor
      · rintro ⟨i, hi, e⟩
        have : i = o := by omega
        rw [← this]; exact hi
      · exact fun h => ⟨o, h, rfl⟩
    walk_at "vcq"
    · rename_i hc
      rw [mem] at hc
      refine ⟨_, _, c ++ [o], rfl, ?_, ?_, ?_, fun i hi => List.mem_append_left _ (sub i hi), x5.kp (List.getElem?_set_ne (by omega)), (K4.trans K5).fresh (by omega)⟩
      · rw [get_set g5', ← nums_zs]; simp [natD]
      · rw [List.nodup_append]
        refine ⟨nd, by simp, fun a ha b hb => ?_⟩
        have : b = o := by simpa using hb
        rw [this]; intro e; rw [e] at ha; exact hc ha
      · intro i hi
        rcases List.mem_append.mp hi with hi | hi
        · exact lt i hi
        · have : i = o := by simpa using hi
          omega
    · exact ⟨_, _, c, rfl, g5, nd, lt, sub, x5, K4.trans K5⟩
  · rintro ρ s4 ⟨o3, o4, c, rfl, g4, nd, lt, sub, x4, K4⟩
    refine ⟨Still.none, ?_⟩
    rw [nums_zs] at g4
    have len := nodup_le _ _ nd lt
    walk_at "vcq"
    refine p_sortI g4 (by unfold zs; rw [List.length_map]; omega) ?_
    walk_at "vcq"
    refine ⟨⟨sortN c, by rw [nums_zs, zs_sortN], ⟨sortN_rising nd, ?_, fun i hi => lt i ((sortN_perm c).mem_iff.mp hi)⟩, b, hb, fun i hi => (sortN_perm c).mem_iff.mpr (sub i hi)⟩, x4.push _, K4.trans Kp.push⟩
    intro e
    have := (sortN_perm c).mem_iff.mpr (sub b (begins_mem rows b))
    rw [e] at this
    cases this
def gofN (c : List Nat) (x : Nat) : Nat := if (c.filter fun i => decide (i ≤ x)).length = 0 then c.length - 1 else (c.filter fun i => decide (i ≤ x)).length - 1
theorem filter_le_at : ∀ {c : List Nat} {m x : Nat}, c.Pairwise (· < ·) → c[m]? = some x → (c.filter fun i => decide (i ≤ x)).length = m + 1
  | [], m, x, _, h => by simp at h
  | a :: c, 0, x, p, h => by
    rw [List.pairwise_cons] at p
    have : a = x := by simpa using h
    subst this
    rw [List.filter_cons_of_pos (by simp)]
    have : c.filter (fun i => decide (i ≤ a)) = [] := by
      rw [List.filter_eq_nil_iff]
      intro b hb
      have := p.1 b hb
      simp; omega
    rw [this]; rfl
  | a :: c, m + 1, x, p, h => by
    rw [List.pairwise_cons] at p
    have h : c[m]? = some x := by simpa using h
    have := p.1 x (List.mem_of_getElem? h)
    rw [List.filter_cons_of_pos (by simp; omega), List.length_cons, filter_le_at p.2 h]
theorem gof_begin {n : Nat} {c : List Nat} {m x : Nat} (hc : Cut n c) (h : c[m]? = some x) : gofN c x = m := by
  unfold gofN
  rw [filter_le_at hc.rise h, if_neg (by omega)]
  omega
theorem gof_next {n : Nat} {c : List Nat} {x : Nat} (hc : Cut n c) (hx : x < n) (h : (x + 1) % n ∉ c) : gofN c ((x + 1) % n) = gofN c x := by
  by_cases z : x + 1 < n
  · rw [Nat.mod_eq_of_lt z] at h ⊢
    have : (c.filter fun i => decide (i ≤ x + 1)) = c.filter fun i => decide (i ≤ x) := by
      apply List.filter_congr
      intro i hi
      have : i ≠ x + 1 := fun e => h (e ▸ hi)
      simp; omega
    unfold gofN
    rw [this]
  · have e : x + 1 = n := by omega
    rw [e, Nat.mod_self] at h ⊢
    have e1 : (c.filter fun i => decide (i ≤ 0)) = [] := by
      rw [List.filter_eq_nil_iff]
      intro i hi
      have : i ≠ 0 := fun e => h (e ▸ hi)
      simp; omega
    have e2 : (c.filter fun i => decide (i ≤ x)) = c := by
      rw [List.filter_eq_self]
      intro i hi
      have := hc.lt i hi
      simp; omega
    unfold gofN
    rw [e1, e2]
    have : c.length ≠ 0 := fun z => hc.ne (List.length_eq_zero_iff.mp z)
    rw [if_pos List.length_nil, if_neg this]
theorem gof_int {c : List Nat} (x : Nat) (h : c ≠ []) : ((((c.filter fun i => decide (i ≤ x)).length : Nat) : Int) - 1).fmod (c.length : Int) = ((gofN c x : Nat) : Int) := by
  have hl : 0 < c.length := List.length_pos_iff.mpr h
  have le : (c.filter fun i => decide (i ≤ x)).length ≤ c.length := List.length_filter_le ..
  rw [Int.fmod_eq_emod_of_nonneg _ (by omega)]
  unfold gofN
  generalize (c.filter fun i => decide (i ≤ x)).length = k at le
  split
  · rename_i e
    subst e
    have : ((0 : Nat) : Int) - 1 = ((c.length - 1 : Nat) : Int) + (c.length : Int) * (-1) := by omega
    rw [this, Int.add_mul_emod_self_left, Int.emod_eq_of_lt (by omega) (by omega)]
  · have : ((k : Nat) : Int) - 1 = ((k - 1 : Nat) : Int) := by omega
    rw [this, Int.emod_eq_of_lt (by omega) (by omega)]
theorem group_ok {n x N : Nat} {s : Store} {c : List Nat} {rw' : D} (hn : 1 ≤ n) (hc : Cut N c) (hN : N ≤ 12) : W (G n 14 [rw', .tup (nums c), .int (x : Int)] s) fun d s' => d = .int (gofN c x : Int) ∧ Kall s s' := by
  match n, hn with
  | n + 1, _ =>
  have hl : 0 < c.length := List.length_pos_iff.mpr hc.ne
  have ll := nodup_le _ _ (hc.rise.imp fun h => Nat.ne_of_lt h) hc.lt
  refine Gw_group_of ?_
  unfold b_group_of
  walk_at "vcq"
  refine lcT (fun i => decide (i ≤ x)) natD Still.none (by omega) (fun i hi => ⟨_, rfl, fun s2 K2 => ?_⟩) fun s2 g2 K2 => ?_
  · show W (sVal (sOp2 fLe (sVar 4) (sVar 2)) [_, _, some (.int (x : Int)), _, some (.int (i : Int))] s2) _
    walk_at "vcq"
    refine ⟨by rw [decide_eq_decide]; omega, Kall.refl, fun _ => ?_⟩
    show W (sVar 4 [_, _, _, _, some (.int (i : Int))] s2) _
    walk_at "vcq"
    exact ⟨rfl, Kall.refl⟩
  · walk_at "vcq"
    · show (((nums c).length : Nat) : Int) ≠ 0
      rw [List.length_map]; omega
    refine ⟨?_, K2⟩
    rw [List.length_map, List.length_map, gof_int x hc.ne]
def grD (p : Nat × List Nat) : D := .lst p.1
theorem groups_ok {n : Nat} {s : Store} {rows : List (List (Int × Int))} {c : List Nat} (hn : 1 ≤ n) (s0 : 0 < s.length) (cu : Cut rows.length c) (hl : rows.length ≤ 12) :
    W (G n 24 [Steps rows, .tup (nums c)] s) fun d s' => ∃ (l : Nat) (T : List (Nat × List Nat)), d = .lst l ∧ s'[l]? = some (T.map grD) ∧ T.length = c.length ∧ (∀ (m : Nat) p, T[m]? = some p → s'[p.1]? = some (nums p.2) ∧ p.2.length ≤ 12 ∧ (∀ y ∈ p.2, y < rows.length ∧ gofN c y = m) ∧ (∀ b, c[m]? = some b → b ∈ p.2) ∧ ∀ y ∈ p.2, (y + 1) % rows.length ∈ p.2 ∨ (y + 1) % rows.length ∈ c) ∧ Kall s s' := by
  match n, hn with
  | n + 1, _ =>
  obtain ⟨c0, hc0⟩ : ∃ c0, c0 ∈ c := by
    cases hcc : c with
    | nil => exact absurd hcc cu.ne
    | cons a r => exact ⟨a, List.mem_cons_self⟩
  have hcl := cu.lt c0 hc0
  have ll := nodup_le _ _ (cu.rise.imp fun h => Nat.ne_of_lt h) cu.lt
  refine Gw__law_groups ?_
  unfold b__law_groups
  walk_at "vcq"
  · rw [List.length_map]; omega
  rw [List.length_map, Int.toNat_natCast]
  refine forT (fun m ρ s' => ∃ (o3 o4 o5 : Option D) (T : List (Nat × List Nat)), ρ = [some (Steps rows), some (.tup (nums c)), some (.lst s.length), o3, o4, o5] ∧ s'[s.length]? = some (T.map grD) ∧ T.length = m ∧ (∀ (m : Nat) p, T[m]? = some p → s.length < p.1 ∧ s'[p.1]? = some (nums p.2) ∧ p.2.length ≤ 12 ∧ (∀ y ∈ p.2, y < rows.length ∧ gofN c y = m) ∧ (∀ b, c[m]? = some b → b ∈ p.2) ∧ ∀ y ∈ p.2, (y + 1) % rows.length ∈ p.2 ∨ (y + 1) % rows.length ∈ c) ∧ Kall s s') ⟨_, _, _, [], rfl, get_new, rfl, fun m p h => by simp at h, Kall.push⟩ ?_ ?_
  · rintro m a ρ s1 hm ⟨o3, o4, o5, T, rfl, g1, lT, hT, K⟩
    obtain rfl : a = m := by
      have hl := (List.getElem?_eq_some_iff.mp hm).1
      rw [List.length_range] at hl
      rw [List.getElem?_range hl] at hm
      cases hm; rfl
    have hm := (List.getElem?_eq_some_iff.mp hm).1
    rw [List.length_range] at hm
    obtain ⟨x0, hx0⟩ : ∃ x, c[a]? = some x := ⟨_, List.getElem?_eq_getElem hm⟩
    have at1 : atI (nums c) (a : Int) = some (.int (x0 : Int)) := atI_list hx0
    have x0l := cu.lt x0 (List.mem_of_getElem? hx0)
    refine ⟨Still.none, _, rfl, ?_⟩
    show W (kSeq _ _ [_, _, _, some (.int (a : Int)), _, _] s1) _
    walk_at "vcq"
    have sl := lt_of_get g1
    have own0 : ∀ y ∈ [x0], y < rows.length ∧ gofN c y = a := fun y hy => by
      have : y = x0 := by simpa using hy
      rw [this]; exact ⟨x0l, gof_begin cu hx0⟩
    refine w_while (m := (if x0 < c0 then c0 - 1 - x0 else c0 + rows.length - 1 - x0)) (fun k ρ s' => ∃ (x : Nat) (own : List Nat), ρ = [some (Steps rows), some (.tup (nums c)), some (.lst s.length), some (.int (a : Int)), some (.int (x : Int)), some (.lst s1.length)] ∧ x < rows.length ∧ gofN c x = a ∧ k = (if x < c0 then c0 - 1 - x else c0 + rows.length - 1 - x) ∧ own.length + k ≤ 12 ∧ (∀ y ∈ own, y < rows.length ∧ gofN c y = a) ∧ (x0 ∈ own ∧ x ∈ own ∧ ∀ y ∈ own, y ≠ x → (y + 1) % rows.length ∈ own) ∧ s'[s1.length]? = some (nums own) ∧ Kall s1 s')
      ⟨x0, [x0], rfl, x0l, gof_begin cu hx0, rfl, by simp; split <;> omega, own0, ⟨by simp, by simp, fun y hy z => absurd (by simpa using hy) z⟩, get_new, Kall.push⟩ (by split <;> omega) ?_
    rintro k ρ s2 ⟨x, own, rfl, hx, gx, rfl, lo, ho, ⟨hx0o, hxo, hcl2⟩, g2, K2⟩
    have em : ((x : Int) + 1).fmod (((rows.map rowT).length : Nat) : Int) = (((x + 1) % rows.length : Nat) : Int) := by
      rw [List.length_map, Int.fmod_eq_emod_of_nonneg _ (by omega)]; rfl
    have e2 : nums c = (zs c).map D.int := nums_zs c
    have mem : ∀ o : Nat, ((o : Int) ∈ zs c) ↔ o ∈ c := fun o => by
      unfold zs
      rw [List.mem_map]
      constructor
      · rintro ⟨i, hi, e⟩
        have : i = o := by omega
        rw [← this]; exact hi
      · exact fun h => ⟨o, h, rfl⟩
    have rl : (((rows.map rowT).length : Nat) : Int) ≠ 0 := by rw [List.length_map]; omega
    have z0 : 0 < s1.length := by omega
    have z1 : (nums own).length < 1000000 := by rw [List.length_map]; split at lo <;> omega
    rw [e2]
    walk_at "vcq"
    · exact rl
    · exact rl
    · rename_i hc2
      rw [em, mem] at hc2
      rw [em]
      have hm1 : (x + 1) % rows.length < rows.length := Nat.mod_lt _ (by omega)
      have nc : (x + 1) % rows.length ≠ c0 := fun e => hc2 (e ▸ hc0)
      have cs : (x + 1 < rows.length ∧ (x + 1) % rows.length = x + 1) ∨ (x + 1 = rows.length ∧ (x + 1) % rows.length = 0) := by
        by_cases z : x + 1 < rows.length
        · exact .inl ⟨z, Nat.mod_eq_of_lt z⟩
        · have z : x + 1 = rows.length := by omega
          exact .inr ⟨z, by rw [z, Nat.mod_self]⟩
      refine ⟨_, ?_, (x + 1) % rows.length, own ++ [(x + 1) % rows.length], rfl, Nat.mod_lt _ (by omega), by rw [gof_next cu hx hc2]; exact gx, rfl, ?_, ?_, ⟨List.mem_append_left _ hx0o, by simp, fun y hy z => ?_⟩, ?_, ?_⟩
      · split <;> split <;> omega
      · rw [List.length_append, List.length_singleton]
        split <;> split at lo <;> omega
      · intro y hy
        rcases List.mem_append.mp hy with hy | hy
        · exact ho y hy
        · have : y = (x + 1) % rows.length := by simpa using hy
          rw [this]; exact ⟨hm1, by rw [gof_next cu hx hc2]; exact gx⟩
      · rcases List.mem_append.mp hy with hy | hy
        · by_cases e : y = x
          · rw [e]; simp
          · exact List.mem_append_left _ (hcl2 y hy e)
        · exact absurd (by simpa using hy) z
      · rw [get_set g2]; simp [natD]
      · exact kall_fresh K2 (Nat.le_refl _)
    · rename_i hend
      rw [em, mem] at hend
      rw [← e2]
      have g1' := K2.get g1
      have z2 : (T.map grD).length < 1000000 := by rw [List.length_map]; omega
      have sl0 : 0 < s.length := s0
      walk_at "vcq"
      refine ⟨_, _, _, T ++ [(s1.length, own)], rfl, ?_, by simp [lT], ?_, kall_fresh (K.trans K2) (Nat.le_refl _)⟩
      · rw [get_set g1']; simp [grD]
      · intro m p hp
        by_cases hm : m < T.length
        · rw [List.getElem?_append_left hm] at hp
          obtain ⟨h1, h2, h3, h4, h5, h6⟩ := hT m p hp
          refine ⟨h1, ?_, h3, h4, h5, h6⟩
          rw [List.getElem?_set_ne (by omega)]
          exact K2.get h2
        · have hm : m = T.length := by have := (List.getElem?_eq_some_iff.mp hp).1; simp at this; omega
          subst hm
          rw [List.getElem?_append_right (Nat.le_refl _), Nat.sub_self] at hp
          cases hp
          refine ⟨sl, ?_, by show own.length ≤ 12; split at lo <;> omega, by rw [lT]; exact ho, fun b hb => ?_, fun y hy => ?_⟩
          · rw [List.getElem?_set_ne (by show s.length ≠ s1.length; omega)]
            exact g2
          · rw [lT, hx0] at hb
            cases hb; exact hx0o
          · by_cases e : y = x
            · rw [e]; exact .inr hend
            · exact .inl (hcl2 y hy e)
  · rintro ρ s1 ⟨o3, o4, o5, T, rfl, g1, lT, hT, K⟩
    rw [List.length_range] at lT
    refine ⟨Still.none, ?_⟩
    walk_at "vcq"
    exact ⟨_, T, rfl, g1, lT, fun m p hp => (hT m p hp).2, K⟩
theorem groups_all {N : Nat} {c : List Nat} {T : List (Nat × List Nat)} (cu : Cut N c) (lT : T.length = c.length) (h : ∀ (m : Nat) p, T[m]? = some p → (∀ y ∈ p.2, y < N ∧ gofN c y = m) ∧ (∀ b, c[m]? = some b → b ∈ p.2) ∧ ∀ y ∈ p.2, (y + 1) % N ∈ p.2 ∨ (y + 1) % N ∈ c) : ∀ y, y < N → ∃ p, T[gofN c y]? = some p ∧ y ∈ p.2 := by
  have c0l : 0 < c.length := List.length_pos_iff.mpr cu.ne
  have inb : ∀ b ∈ c, ∃ (m : Nat) (p : Nat × List Nat), T[m]? = some p ∧ b ∈ p.2 := fun b hb => by
    obtain ⟨m, hm⟩ := List.getElem?_of_mem hb
    have hml := (List.getElem?_eq_some_iff.mp hm).1
    obtain ⟨p, hp⟩ : ∃ p, T[m]? = some p := ⟨_, List.getElem?_eq_getElem (by omega)⟩
    exact ⟨m, p, hp, (h m p hp).2.1 b hm⟩
  have all : ∀ t, ∃ (m : Nat) (p : Nat × List Nat), T[m]? = some p ∧ (c[0] + t) % N ∈ p.2 := by
    intro t
    induction t with
    | zero =>
      have := cu.lt c[0] (List.getElem_mem c0l)
      rw [Nat.add_zero, Nat.mod_eq_of_lt this]
      exact inb _ (List.getElem_mem c0l)
    | succ t ih =>
      obtain ⟨m, p, hp, hy⟩ := ih
      have e : (c[0] + (t + 1)) % N = ((c[0] + t) % N + 1) % N := by
        rw [Nat.mod_add_mod]; congr 1
      rw [e]
      rcases (h m p hp).2.2 _ hy with z | z
      · exact ⟨m, p, hp, z⟩
      · exact inb _ z
  intro y hy
  obtain ⟨m, p, hp, hm⟩ := all (y + N - c[0])
  have cl := cu.lt c[0] (List.getElem_mem c0l)
  have e : (c[0] + (y + N - c[0])) % N = y := by
    have : c[0] + (y + N - c[0]) = y + N := by omega
    rw [this, Nat.add_mod_right, Nat.mod_eq_of_lt hy]
  rw [e] at hm
  have := ((h m p hp).1 y hm).2
  exact ⟨p, by rw [this]; exact hp, hm⟩
def rot (rows : List (List (Int × Int))) (i : Nat) : List (List (Int × Int)) := rows.drop i ++ rows.take i
def sidesM (rows : List (List (Int × Int))) (p : Nat) : List Int := rows.flatMap fun r => (r.filter fun q => decide (q.1 = (p : Int))).map (·.2)
def placeM (v : Int) (rows : List (List (Int × Int))) (p : Nat) : Int := match (sidesM rows p).getLast? with | some s => 2 * (if s = 1 then v else 0) | none => 0
theorem rot_len {rows : List (List (Int × Int))} {i : Nat} (hi : i ≤ rows.length) : (rot rows i).length = rows.length := by unfold rot; rw [List.length_append, List.length_drop, List.length_take]; omega
theorem rot_mem {rows : List (List (Int × Int))} {i : Nat} : ∀ r ∈ rot rows i, r ∈ rows := fun r h => by
  rcases List.mem_append.mp h with h | h
  · exact List.mem_of_mem_drop h
  · exact List.mem_of_mem_take h
theorem rotD {rows : List (List (Int × Int))} {i : Nat} (hi : i ≤ rows.length) : cutD (rows.map rowT) (some (i : Int)) none ++ cutD (rows.map rowT) none (some (i : Int)) = (rot rows i).map rowT := by
  rw [cutFrom (by rw [List.length_map]; exact hi), cutTo, ← List.map_drop, ← List.map_take, ← List.map_append]; rfl
theorem p_rot {Q : D → Store → Prop} {s : Store} {rows : List (List (Int × Int))} {i : Nat} (hi : i ≤ rows.length) (hl : rows.length ≤ 100) (q : Q (Steps (rot rows i)) s) : W (fAddA (.tup (cutD (rows.map rowT) (some (i : Int)) none)) (.tup (cutD (rows.map rowT) none (some (i : Int)))) s) Q := by
  refine p_addT ?_ ?_
  · rw [← List.length_append, rotD hi, List.length_map, rot_len hi]; omega
  · rw [rotD hi]; exact q
theorem flat_S (rows : List (List (Int × Int))) (p : Nat) : flat2 (fun _ => true) (fun r : List (Int × Int) => r) (fun _ q => decide (q.1 = (p : Int))) (fun _ q => D.int q.2) rows = (sidesM rows p).map D.int := by
  unfold flat2 sidesM
  rw [List.map_flatMap]
  congr 1
  funext r
  simp only [if_true]
  rw [List.map_map]; rfl
theorem sidesM_len {rows : List (List (Int × Int))} {p : Nat} (hr : ∀ r ∈ rows, r.length ≤ 6) : (sidesM rows p).length ≤ rows.length * 6 := by
  induction rows with
  | nil => exact Nat.le_refl _
  | cons r rs ih =>
    have := ih fun r h => hr r (List.mem_cons_of_mem _ h)
    have := hr r List.mem_cons_self
    have : (r.filter fun q => decide (q.1 = (p : Int))).length ≤ r.length := List.length_filter_le ..
    unfold sidesM at *
    rw [List.flatMap_cons, List.length_append, List.length_map, List.length_cons]
    omega
section
variable {rows : List (List (Int × Int))} {ss : List Int} {n i p : Nat} {s : Store}
theorem sides_ok (hn : 1 ≤ n) (hr : ∀ r ∈ rows, r.length ≤ 6) (hl : rows.length ≤ 100) : W (G n 8 [Steps rows, .int (p : Int)] s) fun d s' => d = .lst s.length ∧ s'[s.length]? = some ((sidesM rows p).map D.int) ∧ Kall s s' := by
  match n, hn with
  | n + 1, _ =>
  refine Gw_sides_of ?_
  unfold b_sides_of
  walk_at "vcq"
  refine lc2T (fun _ => true) (fun r : List (Int × Int) => r) (fun _ q => decide (q.1 = (p : Int))) (fun _ q => D.int q.2) 10000 (by omega) Still.none (fun k => ?_) (fun r h => by have := hr r h; omega) (fun r h => ⟨_, rfl, fun s1 K1 lt1 => w_yes ⟨rfl, Kall.refl, fun _ => ?_⟩⟩) fun s1 g1 K1 => ?_
  · rw [flat_S, List.length_map]
    have := sidesM_len (p := p) (rows := rows.take k) fun r h => hr r (List.mem_of_mem_take h)
    rw [List.length_take] at this
    omega
  · show W (iSeq (sVar 2) [_, _, some (.tup (r.map prD)), _, _] s1) _
    walk_at "vcq"
    refine ⟨Kall.refl, Still.none, fun k ys e => (by cases e), prD, rfl, fun q _ => ⟨_, rfl, fun s3 K3 Ka => ?_⟩⟩
    show W (sVal _ [_, some (.int (p : Int)), _, some (.int q.1), some (.int q.2)] s3) _
    walk_at "vcq"
    refine ⟨rfl, Kall.refl, fun _ => ?_⟩
    show W (sVar 4 [_, _, _, _, some (.int q.2)] s3) _
    walk_at "vcq"
    exact ⟨rfl, Kall.refl⟩
  · rw [flat_S] at g1
    exact ret_rt ⟨rfl, g1, K1⟩
theorem end_ok {σ v : Int} (hn : 2 ≤ n) (hv : ss[p]? = some v) (vb : 0 ≤ v ∧ v ≤ 100) : W (G n 6 [di ss, .int (p : Int), .int σ] s) fun d s' => d = .int (2 * (if σ = 1 then v else 0)) ∧ Kall s s' := by
  match n, hn with
  | n + 2, _ =>
  have at1 : atI (ss.map D.int) (p : Int) = some (.int v) := at_ints hv
  refine Gw_end_place ?_
  unfold b_end_place
  walk_at "vcq"
  refine Gw_end_cam ?_
  unfold b_end_cam
  walk_at "vcq"
  all_goals (refine Gw_cam_place ?_; unfold b_cam_place)
  all_goals walk_at "vcq"
  all_goals first | exact cmulL (by omega) (by omega) | skip
  · rename_i hc
    rw [if_pos hc]; exact ⟨rfl, Kall.refl⟩
  · rename_i hc
    rw [if_neg hc]; exact ⟨rfl, Kall.refl⟩
theorem last_ints {ns : List Int} {x : Int} (h : ns.getLast? = some x) : atI (ns.map D.int) (-1) = some (.int x) := by
  have h0 : 0 < ns.length := List.length_pos_iff.mpr (by rintro rfl; simp at h)
  have ix : ixN (ns.map D.int).length (-1) = some (ns.length - 1) := by
    unfold ixN
    rw [if_neg (by omega), if_pos (by rw [List.length_map]; omega), List.length_map]
    congr 1
    omega
  unfold atI
  rw [ix, Option.bind_some, List.getElem?_map]
  rw [List.getLast?_eq_getElem?] at h
  rw [h]; rfl
theorem place_ok {v : Int} (hn : 3 ≤ n) (hr : ∀ r ∈ rows, r.length ≤ 6) (hl : rows.length ≤ 100) (hi : i ≤ rows.length) (hv : ss[p]? = some v) (vb : 0 ≤ v ∧ v ≤ 100) : W (G n 10 [di ss, Steps rows, .int (i : Int), .int (p : Int)] s) fun d s' => d = .int (placeM v (rot rows i) p) ∧ Kall s s' := by
  match n, hn with
  | n + 3, _ =>
  refine Gw_place_ahead ?_
  unfold b_place_ahead
  walk_at "vcq"
  refine p_rot hi hl ?_
  walk_at "vcq"
  refine (sides_ok (n := n + 2) (by omega) (fun r h => hr r (rot_mem r h)) (by rw [rot_len hi]; exact hl)).mono fun d s1 ⟨ed, g1, K1⟩ => ?_
  subst ed
  walk_at "vcq"
  cases hg : (sidesM (rot rows i) p).getLast? with
  | none =>
    have z : sidesM (rot rows i) p = [] := by simpa using hg
    rw [z] at g1
    refine ⟨false, by show (s1[s.length]?).map (fun xs => !xs.isEmpty) = _; rw [g1]; rfl, fun z => (by cases z), fun _ => ?_⟩
    walk_at "vcq"
    exact ⟨by unfold placeM; rw [hg], K1⟩
  | some x =>
    have z : sidesM (rot rows i) p ≠ [] := by intro z; rw [z] at hg; simp at hg
    have at1 := last_ints hg
    refine ⟨true, by show (s1[s.length]?).map (fun xs => !xs.isEmpty) = _; rw [g1]; simp [z], fun _ => ?_, fun z => (by cases z)⟩
    walk_at "vcq"
    refine (end_ok (n := n + 2) (by omega) hv vb).mono fun d s2 ⟨ed, K2⟩ => ?_
    subst ed
    exact ⟨by unfold placeM; rw [hg], K1.trans K2⟩
def placesM (ss : List Int) (rows : List (List (Int × Int))) : List Int := (List.range ss.length).map fun p => placeM (ss.getD p 0) rows p
theorem between_ok (hn : 4 ≤ n) (hr : ∀ r ∈ rows, r.length ≤ 6) (hl : rows.length ≤ 100) (hi : i ≤ rows.length) (sl : ss.length ≤ 6) (sb : ∀ x ∈ ss, 0 ≤ x ∧ x ≤ 100) : W (G n 9 [di ss, Steps rows, .int (i : Int)] s) fun d s' => d = di (placesM ss (rot rows i)) ∧ Kall s s' := by
  match n, hn with
  | n + 4, _ =>
  refine Gw_between ?_
  unfold b_between
  walk_at "vcq"
  · rw [List.length_map]; omega
  rw [List.length_map, Int.toNat_natCast]
  refine lcTM (fun p => .int (placeM (ss.getD p 0) (rot rows i) p)) Still.none (by simp; omega) (fun p hp => ⟨_, rfl, fun s1 K1 => ?_⟩) fun s1 g1 K1 => ?_
  · have hp := List.mem_range.mp hp
    have hv : ss[p]? = some (ss.getD p 0) := by rw [List.getD_eq_getElem?_getD, List.getElem?_eq_getElem hp]; rfl
    show W (sCall _ _ [_, _, _, some (.int (p : Int))] s1) _
    walk_at "vcq"
    exact place_ok (n := n + 3) (by omega) hr hl hi hv (sb _ (List.mem_of_getElem? hv))
  · walk_at "vcq"
    refine ⟨?_, K1⟩
    unfold placesM
    rw [di, List.map_map]; rfl
end
theorem rot_at {rows : List (List (Int × Int))} {i k : Nat} (hi : i < rows.length) (hk : k < rows.length) : (rot rows i)[k]? = rows[(i + k) % rows.length]? := by
  unfold rot
  by_cases z : k < rows.length - i
  · rw [List.getElem?_append_left (by rw [List.length_drop]; exact z), List.getElem?_drop, Nat.mod_eq_of_lt (by omega)]
  · rw [List.getElem?_append_right (by rw [List.length_drop]; omega), List.length_drop, List.getElem?_take_of_lt (by omega)]
    congr 1
    have : i + k = (k - (rows.length - i)) + rows.length := by omega
    rw [this, Nat.add_mod_right, Nat.mod_eq_of_lt (by omega)]
def step1 (ss : List Int) (pl : List Int) (q : Int × Int) : List Int := pl.set q.1.toNat (2 * ss.getD q.1.toNat 0 * q.2)
def walkP (ss : List Int) (F : List (Int × Int)) (init : List Int) : List Int := F.foldl (step1 ss) init
theorem walkP_len (ss : List Int) : ∀ (F : List (Int × Int)) (init : List Int), (walkP ss F init).length = init.length
  | [], _ => rfl
  | q :: F, init => by
    show (walkP ss F (step1 ss init q)).length = _
    rw [walkP_len ss F]; simp [step1]
theorem walkP_at (ss : List Int) (p : Nat) : ∀ (F : List (Int × Int)) (init : List Int), (∀ q ∈ F, 0 ≤ q.1) → p < init.length → (walkP ss F init)[p]? = some (match (F.filter fun q => decide (q.1 = (p : Int))).getLast? with | some q => 2 * ss.getD p 0 * q.2 | none => init.getD p 0)
  | [], init, _, hp => by
    show init[p]? = _
    rw [List.getElem?_eq_getElem hp]; simp [List.getD_eq_getElem?_getD, List.getElem?_eq_getElem hp]
  | q :: F, init, h, hp => by
    have h0 := h q List.mem_cons_self
    show (walkP ss F (step1 ss init q))[p]? = _
    rw [walkP_at ss p F _ (fun x hx => h x (List.mem_cons_of_mem _ hx)) (by simp [step1]; exact hp)]
    congr 1
    by_cases e : q.1 = (p : Int)
    · rw [List.filter_cons_of_pos (by simpa using e), List.getLast?_cons]
      have et : q.1.toNat = p := by omega
      cases hg : (F.filter fun q => decide (q.1 = (p : Int))).getLast? with
      | none =>
        simp only [Option.getD_none]
        unfold step1
        rw [et, List.getD_eq_getElem?_getD, List.getElem?_set_self hp]; rfl
      | some z => simp
    · rw [List.filter_cons_of_neg (by simpa using e)]
      cases (F.filter fun q => decide (q.1 = (p : Int))).getLast? with
      | none =>
        simp only
        unfold step1
        rw [List.getD_eq_getElem?_getD, List.getElem?_set_ne (by omega), ← List.getD_eq_getElem?_getD]
      | some z => rfl
theorem sidesM_flat (rows : List (List (Int × Int))) (p : Nat) : sidesM rows p = (rows.flatten.filter fun q => decide (q.1 = (p : Int))).map (·.2) := by
  induction rows with
  | nil => rfl
  | cons r rs ih =>
    unfold sidesM at *
    rw [List.flatMap_cons, List.flatten_cons, List.filter_append, List.map_append, ih]
theorem walk_places {ss : List Int} {rows : List (List (Int × Int))} {m : Int} (hr : ∀ r ∈ rows, Rw m r) : walkP ss rows.flatten (List.replicate ss.length 0) = placesM ss rows := by
  apply List.ext_getElem?
  intro p
  have nn : ∀ q ∈ rows.flatten, 0 ≤ q.1 ∧ (q.2 = 0 ∨ q.2 = 1) := fun q hq => by
    obtain ⟨r, h1, h2⟩ := List.mem_flatten.mp hq
    have := (hr r h1).each q h2
    exact ⟨this.1, this.2.2⟩
  by_cases hp : p < ss.length
  · rw [walkP_at ss p _ _ (fun q hq => (nn q hq).1) (by simpa using hp)]
    unfold placesM
    rw [List.getElem?_map, List.getElem?_range hp]
    show some _ = some (placeM (ss.getD p 0) rows p)
    congr 1
    unfold placeM
    rw [sidesM_flat, List.getLast?_map]
    cases hg : (rows.flatten.filter fun q => decide (q.1 = (p : Int))).getLast? with
    | none => simp [List.getD_eq_getElem?_getD, List.getElem?_replicate, hp]
    | some q =>
      have := (nn q ((List.mem_filter.mp (List.mem_of_getLast? hg)).1)).2
      show 2 * ss.getD p 0 * q.2 = 2 * (if q.2 = 1 then ss.getD p 0 else 0)
      rcases this with e | e <;> rw [e] <;> simp
  · rw [List.getElem?_eq_none (by rw [walkP_len]; simp; omega), List.getElem?_eq_none (by unfold placesM; simp; omega)]
section
variable {rows : List (List (Int × Int))} {ss : List Int} {n i j p : Nat} {s : Store}
theorem lbetween_ok {m : Int} (hn : 1 ≤ n) (m6 : m ≤ 6) (s0 : 0 < s.length) (hr : ∀ r ∈ rows, Rw m r) (h1 : 1 ≤ rows.length) (hl : rows.length ≤ 12) (hi : i < rows.length) (sl : (ss.length : Int) = m) (sb : ∀ x ∈ ss, 0 ≤ x ∧ x ≤ 100) : W (G n 28 [di ss, Steps rows, .int (i : Int)] s) fun d s' => d = di (placesM ss (rot rows i)) ∧ Kall s s' := by
  match n, hn with
  | n + 1, _ =>
  refine Gw__law_between ?_
  unfold b__law_between
  walk_at "vcq"
  rw [List.length_map]
  refine p_repLA get_new s0 (by omega) (by omega) (by simp) ?_
  have e0 : (List.replicate ((ss.length : Nat) : Int).toNat [D.int 0]).flatten = (walkP ss [] (List.replicate ss.length 0)).map D.int := by
    rw [List.flatten_replicate_singleton, Int.toNat_natCast]
    show _ = (List.replicate ss.length (0 : Int)).map D.int
    rw [List.map_replicate]
  rw [e0]
  have gp : (s ++ [[D.int 0]] ++ [(walkP ss [] (List.replicate ss.length 0)).map D.int])[(s ++ [[D.int 0]]).length]? = some ((walkP ss [] (List.replicate ss.length 0)).map D.int) := get_new
  have Kp0 : Kall s (s ++ [[D.int 0]] ++ [(walkP ss [] (List.replicate ss.length 0)).map D.int]) := Kall.push.trans Kall.push
  have lpl : s.length ≤ (s ++ [[D.int 0]]).length := by simp
  generalize (s ++ [[D.int 0]]).length = lp at gp lpl
  generalize s ++ [[D.int 0]] ++ [(walkP ss [] (List.replicate ss.length 0)).map D.int] = s1 at gp Kp0
  walk_at "vcq"
  · rw [List.length_map]; omega
  have e1 : ((i : Int) + (((rows.map rowT).length : Nat) : Int) - (i : Int)).toNat = rows.length := by rw [List.length_map]; omega
  rw [e1]
  refine forT (fun k ρ s' => ∃ (o4 o5 o6 : Option D), ρ = [some (di ss), some (Steps rows), some (.int (i : Int)), some (.lst lp), o4, o5, o6] ∧ s'[lp]? = some ((walkP ss ((rot rows i).take k).flatten (List.replicate ss.length 0)).map D.int) ∧ Kall s s') ⟨_, _, _, rfl, gp, Kp0⟩ ?_ ?_
  · rintro k a ρ s2 hk ⟨o4, o5, o6, rfl, g2, K2⟩
    obtain rfl : a = k := by
      have hl := (List.getElem?_eq_some_iff.mp hk).1
      rw [List.length_range] at hl
      rw [List.getElem?_range hl] at hk
      cases hk; rfl
    have ha := (List.getElem?_eq_some_iff.mp hk).1
    rw [List.length_range] at ha
    have em : ((i : Int) + (a : Int)).fmod (((rows.map rowT).length : Nat) : Int) = (((i + a) % rows.length : Nat) : Int) := by
      rw [List.length_map, Int.fmod_eq_emod_of_nonneg _ (by omega)]; rfl
    have hm : (i + a) % rows.length < rows.length := Nat.mod_lt _ (by omega)
    obtain ⟨r, hra⟩ : ∃ r, rows[(i + a) % rows.length]? = some r := ⟨_, List.getElem?_eq_getElem hm⟩
    have hrr := hr r (List.mem_of_getElem? hra)
    have at1 : atI (rows.map rowT) (((i : Int) + (a : Int)).fmod (((rows.map rowT).length : Nat) : Int)) = some (.tup (r.map prD)) := by rw [em]; exact atI_list (emb := rowT) hra
    refine ⟨Still.none, _, rfl, ?_⟩
    show W (kFor _ _ _ [_, _, _, _, some (.int ((i : Int) + (a : Int))), _, _] s2) _
    walk_at "vcq"
    · rw [List.length_map]; omega
    have tk : (rot rows i).take (a + 1) = (rot rows i).take a ++ [r] := by rw [List.take_succ, rot_at hi ha, hra]; rfl
    refine forT (fun j ρ s' => ∃ (o5 o6 : Option D), ρ = [some (di ss), some (Steps rows), some (.int (i : Int)), some (.lst lp), some (.int ((i : Int) + (a : Int))), o5, o6] ∧ s'[lp]? = some ((walkP ss (((rot rows i).take a).flatten ++ r.take j) (List.replicate ss.length 0)).map D.int) ∧ Kall s s') ⟨_, _, rfl, by rw [g2, List.take_zero, List.append_nil], K2⟩ ?_ ?_
    · rintro j q ρ s3 hq ⟨o5, o6, rfl, g3, K3⟩
      obtain ⟨q0, q6, q1⟩ := hrr.each q (List.mem_of_getElem? hq)
      have hqn : q.1.toNat < ss.length := by omega
      have at2 : atI (ss.map D.int) q.1 = some (.int (ss.getD q.1.toNat 0)) := by
        have := at_ints (ns := ss) (i := q.1.toNat) (x := ss.getD q.1.toNat 0) (by rw [List.getD_eq_getElem?_getD, List.getElem?_eq_getElem hqn]; rfl)
        rwa [show ((q.1.toNat : Nat) : Int) = q.1 by omega] at this
      have vb : 0 ≤ ss.getD q.1.toNat 0 ∧ ss.getD q.1.toNat 0 ≤ 100 := by
        rw [List.getD_eq_getElem?_getD, List.getElem?_eq_getElem hqn]; exact sb _ (List.getElem_mem hqn)
      have ix : ixN ((walkP ss (((rot rows i).take a).flatten ++ r.take j) (List.replicate ss.length 0)).map D.int).length q.1 = some q.1.toNat := by
        rw [List.length_map, walkP_len, List.length_replicate]
        unfold ixN; rw [if_pos q0, if_pos (by omega)]
      have lp0 : 0 < lp := by omega
      refine ⟨Still.none, _, rfl, ?_⟩
      show W (kPut _ _ _ [_, _, _, _, _, some (.int q.1), some (.int q.2)] s3) _
      walk_at "vcq"
      · exact cmulL (by omega) (by omega)
      · exact cmulR (by omega) (by omega)
      refine ⟨_, _, rfl, ?_, kall_fresh K3 (by omega)⟩
      rw [get_set g3, List.take_succ, hq]
      congr 1
      show _ = (walkP ss (((rot rows i).take a).flatten ++ (r.take j ++ [q])) (List.replicate ss.length 0)).map D.int
      rw [← List.append_assoc]
      unfold walkP
      rw [List.foldl_append (l' := [q])]
      show _ = List.map D.int (step1 ss _ q)
      unfold step1
      rw [List.map_set]
    · rintro ρ s3 ⟨o5, o6, rfl, g3, K3⟩
      refine ⟨Still.none, _, _, _, rfl, ?_, K3⟩
      rw [g3, tk, List.flatten_append, List.take_length]; simp
  · rintro ρ s2 ⟨o4, o5, o6, rfl, g2, K2⟩
    rw [List.length_range, ← rot_len (Nat.le_of_lt hi), List.take_length, walk_places (m := m) fun r h => hr r (rot_mem r h)] at g2
    refine ⟨Still.none, ?_⟩
    walk_at "vcq"
    exact ⟨rfl, K2⟩
end
theorem pistons_ok {n : Nat} {s : Store} {r : List (Int × Int)} (hn : 1 ≤ n) (hr : r.length ≤ 100) : W (G n 7 [rowT r] s) fun d s' => d = .lst s.length ∧ s'[s.length]? = some ((r.map (·.1)).map D.int) ∧ Kall s s' := by
  match n, hn with
  | n + 1, _ =>
  refine Gw_pistons_of ?_
  unfold b_pistons_of
  show W _ _
  unfold rowT
  walk_at "vcq"
  refine lcTM (fun q => .int q.1) Still.none (by omega) (fun q _ => ⟨_, rfl, fun s2 K2 => ?_⟩) fun s2 g2 K2 => ?_
  · walk_at "vcq"
    exact ⟨rfl, Kall.refl⟩
  · refine ret_rt ⟨rfl, ?_, K2⟩
    rw [g2, List.map_map]; rfl
def moversR (rs : List (List (Int × Int))) : List Int := rs.flatMap fun r => r.map (·.1)
theorem movers_R (rows : List (List (Int × Int))) (is : List Nat) : movers rows is = moversR (is.map fun i => rows.getD i []) := by unfold movers moversR; rw [List.flatMap_map]
theorem flat_R (rs : List (List (Int × Int))) : flat2 (fun _ => true) (fun r : List (Int × Int) => r.map (·.1)) (fun _ _ => true) (fun _ x => D.int x) rs = (moversR rs).map D.int := by
  unfold flat2 moversR
  rw [List.map_flatMap]
  congr 1
  funext r
  simp only [if_true]
  rw [List.filter_eq_self.mpr (fun _ _ => rfl)]
theorem moversR_len {rs : List (List (Int × Int))} (hr : ∀ r ∈ rs, r.length ≤ 6) : (moversR rs).length ≤ rs.length * 6 := by
  induction rs with
  | nil => exact Nat.le_refl _
  | cons r rs ih =>
    have := ih fun r h => hr r (List.mem_cons_of_mem _ h)
    have := hr r List.mem_cons_self
    unfold moversR at *
    rw [List.flatMap_cons, List.length_append, List.length_map, List.length_cons]
    omega
theorem twice_core {n : Nat} {s : Store} {rs : List (List (Int × Int))} {chk : Option (Nat × List D)} {gd : D} {Q : Fl → Store → Prop} (hs : Still chk (rs.map rowT) s) (hr : ∀ r ∈ rs, r.length ≤ 6) (hl : rs.length ≤ 100)
    (q : ∀ s', Kall s s' → Q (.rt (.bl (decide (moversR rs).Nodup))) s') :
    W (lc2Run (rs.map rowT, chk) (gN 2) bYes (iSeq (sCall (G (n + 1) 7) (sCons (sVar 2) sNil))) (gN 3) bYes (sVar 3) [2, 3] [3] [some gd, none, none, none] s) fun d s' => SeqQ (kRet (sOp2 fEq (sCall fLenSet (sCons (sVar 1) sNil)) (sCall fLen (sCons (sVar 1) sNil)))) Q (.nx ([some gd, none, none, none].set 1 (some d))) s' := by
  refine lc2T (fun _ => true) (fun r : List (Int × Int) => r.map (·.1)) (fun _ _ => true) (fun _ x => D.int x) 10000 (by omega) hs (fun i => ?_) (fun r h => by rw [List.length_map]; have := hr r h; omega) (fun r h => ⟨_, rfl, fun s1 K1 lt1 => w_yes ⟨rfl, Kall.refl, fun _ => ?_⟩⟩) fun s1 g1 K1 => ?_
  · rw [flat_R, List.length_map]
    have := moversR_len (rs := rs.take i) fun r h => hr r (List.mem_of_mem_take h)
    rw [List.length_take] at this
    omega
  · show W (iSeq _ [_, _, some (rowT r), _] s1) _
    have h6 := hr r h
    walk_at "vcq"
    refine (pistons_ok (n := n + 1) (by omega) (by omega)).mono fun d s2 ⟨ed, g2, K2⟩ => ?_
    subst ed
    walk_at "vcq"
    refine ⟨K2, Still.of g2, fun k ys e => ?_, D.int, rfl, fun x _ => ⟨_, rfl, fun s3 K3 Ka => w_yes ⟨rfl, Kall.refl, fun _ => ?_⟩⟩⟩
    · cases e
      omega
    · walk_at "vcq"
      exact ⟨rfl, Kall.refl⟩
  · rw [flat_R] at g1
    have hm := moversR_len hr
    refine seq_nx ?_
    walk_at "vcq"
    refine p_lenSet g1 (by omega) ?_
    walk_at "vcq"
    rw [List.length_map]
    have e : decide (((distN (moversR rs) : Nat) : Int) = (((moversR rs).length : Nat) : Int)) = decide (moversR rs).Nodup := by
      rw [decide_eq_decide, ← distN_nodup]; omega
    rw [e]
    exact q _ K1
theorem twiceT_ok {n : Nat} {s : Store} {rs : List (List (Int × Int))} (hn : 2 ≤ n) (hr : ∀ r ∈ rs, r.length ≤ 6) (hl : rs.length ≤ 100) : W (G n 13 [Steps rs] s) fun d s' => d = .bl (decide (moversR rs).Nodup) ∧ Kall s s' := by
  match n, hn with
  | n + 2, _ =>
  refine Gw_no_piston_twice ?_
  unfold b_no_piston_twice
  walk_at "vcq"
  exact twice_core (n := n) Still.none hr hl fun s' K => ⟨rfl, K⟩
def posL (n b t k : Nat) : List Nat := (List.range' t k).map fun t => (b + t) % n
theorem posL_app (n b t k l : Nat) : posL n b t (k + l) = posL n b t k ++ posL n b (t + k) l := by unfold posL; rw [← List.map_append, List.range'_append_1]
theorem movers_app (rows : List (List (Int × Int))) (a b : List Nat) : movers rows (a ++ b) = movers rows a ++ movers rows b := by unfold movers; rw [List.flatMap_append]
theorem row_nodup {m : Int} {rows : List (List (Int × Int))} (hr : ∀ r ∈ rows, Rw m r) (i : Nat) : (movers rows [i]).Nodup := by
  unfold movers
  rw [List.flatMap_singleton]
  rw [List.getD_eq_getElem?_getD]
  cases h : rows[i]? with
  | none => simp
  | some r =>
    have := (hr r (List.mem_of_getElem? h)).asc
    show ((r.map (·.1))).Nodup
    unfold List.Nodup
    rw [List.pairwise_map]
    exact this.imp fun h => by omega
theorem seg {m : Int} {rows : List (List (Int × Int))} {b : Nat} (hr : ∀ r ∈ rows, Rw m r) (hb : b < rows.length) : ∀ k, k < rows.length →
    (∃ t0, t0 ≤ k ∧ (greedyS rows b k).2 = posL rows.length b t0 (k + 1 - t0) ∧ (b + t0) % rows.length ∈ (greedyS rows b k).1 ∧ (movers rows (greedyS rows b k).2).Nodup) ∧
    ∀ t1 t2, t1 ≤ t2 → t2 ≤ k → (∀ t, t1 < t → t ≤ t2 → (b + t) % rows.length ∉ (greedyS rows b k).1) → (movers rows (posL rows.length b t1 (t2 + 1 - t1))).Nodup
  | 0, h0 => by
    have e : posL rows.length b 0 (0 + 1 - 0) = [b] := by unfold posL; simp [Nat.mod_eq_of_lt hb]
    refine ⟨⟨0, Nat.le_refl _, by rw [e]; rfl, by show (b + 0) % rows.length ∈ [b]; rw [Nat.add_zero, Nat.mod_eq_of_lt hb]; simp, row_nodup hr b⟩, fun t1 t2 h1 h2 _ => ?_⟩
    have e1 : t1 = 0 := by omega
    have e2 : t2 = 0 := by omega
    subst e1 e2
    rw [e]; exact row_nodup hr b
  | k + 1, hk => by
    obtain ⟨⟨t0, l0, own, inb, nd⟩, all⟩ := seg hr hb k (by omega)
    have one : posL rows.length b (k + 1) 1 = [(b + (k + 1)) % rows.length] := by unfold posL; simp
    have ext : ∀ t, t ≤ k + 1 → posL rows.length b t (k + 1 + 1 - t) = posL rows.length b t (k + 1 - t) ++ [(b + (k + 1)) % rows.length] := fun t ht => by
      rw [show k + 1 + 1 - t = (k + 1 - t) + 1 by omega, posL_app, show t + (k + 1 - t) = k + 1 by omega, one]
    rw [greedyS_succ]
    unfold gstep
    dsimp only
    split
    · rename_i ndd
      dsimp only
      refine ⟨⟨t0, by omega, ?_, inb, ndd⟩, fun t1 t2 h1 h2 h => ?_⟩
      · rw [own, ext t0 (by omega)]
      · rcases Nat.lt_or_eq_of_le h2 with lt | eq
        · exact all t1 t2 h1 (by omega) h
        · subst eq
          have ge : t0 ≤ t1 := by
            rcases Nat.lt_or_ge t1 t0 with z | z
            · exact absurd inb (h t0 z (by omega))
            · exact z
          rw [own, ← ext t0 (by omega)] at ndd
          have sp : posL rows.length b t0 (k + 1 + 1 - t0) = posL rows.length b t0 (t1 - t0) ++ posL rows.length b t1 (k + 1 + 1 - t1) := by
            rw [show k + 1 + 1 - t0 = (t1 - t0) + (k + 1 + 1 - t1) by omega, posL_app, show t0 + (t1 - t0) = t1 by omega]
          rw [sp, movers_app, List.nodup_append] at ndd
          exact ndd.2.1
    · dsimp only
      refine ⟨⟨k + 1, Nat.le_refl _, by rw [show k + 1 + 1 - (k + 1) = 1 by omega, one], by simp, row_nodup hr _⟩, fun t1 t2 h1 h2 h => ?_⟩
      rcases Nat.lt_or_eq_of_le h2 with lt | eq
      · exact all t1 t2 h1 (by omega) fun t a b' z => h t a b' (List.mem_append_left _ z)
      · subst eq
        rcases Nat.lt_or_eq_of_le h1 with z | z
        · exact absurd (List.mem_append_right _ (by simp)) (h (k + 1) z (Nat.le_refl _))
        · subst z
          rw [show k + 1 + 1 - (k + 1) = 1 by omega, one]
          exact row_nodup hr _
def glen (n : Nat) (c : List Nat) (m : Nat) : Nat := (((c.getD ((m + 1) % c.length) 0 : Int) - (c.getD m 0 : Int) - 1).fmod (n : Int)).toNat + 1
theorem sorted_lt {c : List Nat} (h : c.Pairwise (· < ·)) {i j x y : Nat} (hi : c[i]? = some x) (hj : c[j]? = some y) (l : i < j) : x < y := by
  obtain ⟨h1, e1⟩ := List.getElem?_eq_some_iff.mp hi
  obtain ⟨h2, e2⟩ := List.getElem?_eq_some_iff.mp hj
  have := List.pairwise_iff_getElem.mp h i j h1 h2 l
  rw [e1, e2] at this
  exact this
theorem glen_inner {n : Nat} {c : List Nat} (cu : Cut n c) {m b : Nat} (hb : c[m]? = some b) : glen n c m ≤ n ∧ ∀ s, 0 < s → s < glen n c m → (b + s) % n ∉ c := by
  have hm := (List.getElem?_eq_some_iff.mp hb).1
  have bl := cu.lt b (List.mem_of_getElem? hb)
  have gb : c.getD m 0 = b := by rw [List.getD_eq_getElem?_getD, hb]; rfl
  unfold glen
  rw [gb]
  by_cases z : m + 1 < c.length
  · obtain ⟨f, hf⟩ : ∃ f, c[m + 1]? = some f := ⟨_, List.getElem?_eq_getElem z⟩
    have fl := cu.lt f (List.mem_of_getElem? hf)
    have lt := sorted_lt cu.rise hb hf (by omega)
    have gf : c.getD ((m + 1) % c.length) 0 = f := by rw [Nat.mod_eq_of_lt z, List.getD_eq_getElem?_getD, hf]; rfl
    have e : ((f : Int) - (b : Int) - 1).fmod (n : Int) = (f : Int) - (b : Int) - 1 := by
      rw [Int.fmod_eq_emod_of_nonneg _ (by omega), Int.emod_eq_of_lt (by omega) (by omega)]
    rw [gf, e]
    refine ⟨by omega, fun s s0 sl => ?_⟩
    rw [Nat.mod_eq_of_lt (by omega)]
    intro hx
    obtain ⟨i, hi⟩ := List.getElem?_of_mem hx
    rcases Nat.lt_trichotomy i m with q | q | q
    · have := sorted_lt cu.rise hi hb q; omega
    · subst q; rw [hb] at hi; have := Option.some.inj hi; omega
    · rcases Nat.lt_trichotomy i (m + 1) with r | r | r
      · omega
      · subst r; rw [hf] at hi; cases hi; omega
      · have := sorted_lt cu.rise hf hi r; omega
  · have e1 : m + 1 = c.length := by omega
    obtain ⟨f, hf⟩ : ∃ f, c[0]? = some f := ⟨_, List.getElem?_eq_getElem (by omega)⟩
    have fl := cu.lt f (List.mem_of_getElem? hf)
    have fb : f ≤ b := by
      rcases Nat.eq_zero_or_pos m with q | q
      · subst q; rw [hb] at hf; cases hf; exact Nat.le_refl _
      · exact Nat.le_of_lt (sorted_lt cu.rise hf hb q)
    have gf : c.getD ((m + 1) % c.length) 0 = f := by rw [e1, Nat.mod_self, List.getD_eq_getElem?_getD, hf]; rfl
    have e : ((f : Int) - (b : Int) - 1).fmod (n : Int) = (f : Int) - (b : Int) - 1 + n := by
      rw [Int.fmod_eq_emod_of_nonneg _ (by omega)]
      have : (f : Int) - (b : Int) - 1 = ((f : Int) - (b : Int) - 1 + n) + (n : Int) * (-1) := by omega
      rw [this, Int.add_mul_emod_self_left, Int.emod_eq_of_lt (by omega) (by omega)]
      omega
    rw [gf, e]
    refine ⟨by omega, fun s s0 sl => ?_⟩
    intro hx
    obtain ⟨i, hi⟩ := List.getElem?_of_mem hx
    have hil := (List.getElem?_eq_some_iff.mp hi).1
    rcases Nat.lt_or_ge (b + s) n with w | w
    · rw [Nat.mod_eq_of_lt w] at hi
      rcases Nat.lt_or_eq_of_le (show i ≤ m by omega) with q | q
      · have := sorted_lt cu.rise hi hb q; omega
      · subst q; rw [hb] at hi; have := Option.some.inj hi; omega
    · have : (b + s) % n = b + s - n := by
        have : b + s = (b + s - n) + n := by omega
        rw [this, Nat.add_mod_right, Nat.mod_eq_of_lt (by omega)]; omega
      rw [this] at hi
      rcases Nat.eq_zero_or_pos i with q | q
      · subst q; rw [hf] at hi; cases hi; omega
      · have := sorted_lt cu.rise hf hi q; omega
theorem rot_take {rows : List (List (Int × Int))} {a k : Nat} (ha : a < rows.length) (hk : k ≤ rows.length) : (rot rows a).take k = (posL rows.length a 0 k).map fun i => rows.getD i [] := by
  apply List.ext_getElem?
  intro i
  by_cases hi : i < k
  · rw [List.getElem?_take_of_lt hi, rot_at ha (by omega), List.getElem?_map]
    unfold posL
    rw [List.getElem?_map, List.getElem?_range' (by omega)]
    simp only [Nat.zero_add, Nat.one_mul, Option.map_some]
    have hm : (a + i) % rows.length < rows.length := Nat.mod_lt _ (by omega)
    rw [List.getD_eq_getElem?_getD, List.getElem?_eq_getElem hm]; rfl
  · rw [List.getElem?_eq_none (by rw [List.length_take]; omega), List.getElem?_eq_none (by unfold posL; simp; omega)]
theorem group_once {m0 : Int} {rows : List (List (Int × Int))} {c : List Nat} {b0 m a : Nat} (hr : ∀ r ∈ rows, Rw m0 r) (cu : Cut rows.length c) (hb0 : b0 < rows.length) (sub : ∀ i ∈ begins rows b0, i ∈ c) (ha : c[m]? = some a) : (moversR ((rot rows a).take (glen rows.length c m))).Nodup := by
  have al := cu.lt a (List.mem_of_getElem? ha)
  obtain ⟨gl, inner⟩ := glen_inner cu ha
  have g1 : 1 ≤ glen rows.length c m := by unfold glen; omega
  rw [rot_take al gl, ← movers_R]
  let t1 := (a + rows.length - b0) % rows.length
  have t1l : t1 < rows.length := Nat.mod_lt _ (by omega)
  have sh : ∀ s, (b0 + (t1 + s)) % rows.length = (a + s) % rows.length := fun s => by
    show (b0 + ((a + rows.length - b0) % rows.length + s)) % rows.length = _
    have e1 : b0 + ((a + rows.length - b0) % rows.length + s) = (a + rows.length - b0) % rows.length + (b0 + s) := by omega
    rw [e1, Nat.mod_add_mod]
    have e2 : a + rows.length - b0 + (b0 + s) = (a + s) + rows.length := by omega
    rw [e2, Nat.add_mod_right]
  have fit : t1 + glen rows.length c m ≤ rows.length := by
    rcases Nat.lt_or_ge rows.length (t1 + glen rows.length c m) with z | z
    · exfalso
      have pos : 0 < rows.length - t1 := by omega
      have ni := inner (rows.length - t1) pos (by omega)
      rw [← sh, show t1 + (rows.length - t1) = rows.length by omega, Nat.add_mod_right, Nat.mod_eq_of_lt hb0] at ni
      exact ni (sub _ (begins_mem rows b0))
    · exact z
  have key := (seg hr hb0 (rows.length - 1) (by omega)).2 t1 (t1 + glen rows.length c m - 1) (by omega) (by omega) (fun t a1 a2 z => by
    have := inner (t - t1) (by omega) (by omega)
    rw [← sh, show t1 + (t - t1) = t by omega] at this
    exact this (sub _ z))
  have e : posL rows.length b0 t1 (t1 + glen rows.length c m - 1 + 1 - t1) = posL rows.length a 0 (glen rows.length c m) := by
    rw [show t1 + glen rows.length c m - 1 + 1 - t1 = glen rows.length c m by omega]
    unfold posL
    apply List.ext_getElem?
    intro i
    rw [List.getElem?_map, List.getElem?_map]
    by_cases hi : i < glen rows.length c m
    · rw [List.getElem?_range' hi, List.getElem?_range' hi]
      simp only [Option.map_some, Nat.one_mul, Nat.zero_add]
      rw [sh]
    · rw [List.getElem?_eq_none (by simp; omega), List.getElem?_eq_none (by simp; omega)]; rfl
  rw [e] at key
  exact key
section
variable {n N : Nat} {c : List Nat} {s : Store}
theorem within_ok {x : Nat} {hi : Int} (hn : 2 ≤ n) (h : (x : Int) ≤ hi) : W (G n 1 [.int (x : Int), .int 0, .int hi] s) fun d s' => d = .bl true ∧ Kall s s' := by
  match n, hn with
  | n + 2, _ =>
  refine Gw_is_within ?_
  unfold b_is_within
  walk_at "vcq"
  refine Gw_is_int ?_
  unfold b_is_int
  walk_at "vcq"
  · exact ⟨by rw [decide_eq_true h], Kall.refl⟩
  · rename_i hc
    omega
theorem rising_ok (hn : 1 ≤ n) (cu : Cut N c) (hN : N ≤ 12) : W (G n 2 [.tup (nums c)] s) fun d s' => d = .bl true ∧ Kall s s' := by
  match n, hn with
  | n + 1, _ =>
  have ll := nodup_le _ _ (cu.rise.imp fun h => Nat.ne_of_lt h) cu.lt
  have l1 : 1 ≤ c.length := List.length_pos_iff.mpr cu.ne
  refine Gw_is_rising ?_
  unfold b_is_rising
  walk_at "vcq"
  have ec : cutD (nums c) (some 1) none = nums (c.drop 1) := by
    have := cutFrom (xs := nums c) (i := 1) (by rw [List.length_map]; exact l1)
    rw [show ((1 : Nat) : Int) = 1 from rfl] at this
    rw [this, ← List.map_drop]
  rw [ec, zip_map]
  refine lcTM (fun _ => .bl true) Still.none (by rw [List.length_zip]; omega) (fun q hq => ⟨_, rfl, fun s1 K1 => ?_⟩) fun s1 g1 K1 => ?_
  · show W (sOp2 _ _ _ [_, some (.int (q.1 : Int)), some (.int (q.2 : Int))] s1) _
    walk_at "vcq"
    refine ⟨?_, Kall.refl⟩
    congr 1
    refine decide_eq_true ?_
    obtain ⟨i, hi⟩ := List.getElem?_of_mem hq
    rw [List.getElem?_zip_eq_some, List.getElem?_drop] at hi
    have := sorted_lt cu.rise hi.1 hi.2 (by omega)
    omega
  · have e : (c.zip (c.drop 1)).map (fun _ => D.bl true) = (List.replicate (c.zip (c.drop 1)).length true).map D.bl := by
      rw [List.map_replicate, List.map_const']
    rw [e] at g1
    walk_at "vcq"
    refine p_quant g1 ?_
    refine ⟨?_, K1⟩
    simp
theorem numbers_ok (hn : 4 ≤ n) (cu : Cut N c) (hN : N ≤ 12) : W (G n 3 [.tup (nums c), .int (N : Int)] s) fun d s' => d = .bl true ∧ Kall s s' := by
  match n, hn with
  | n + 4, _ =>
  have l1 : 1 ≤ c.length := List.length_pos_iff.mpr cu.ne
  refine Gw_are_rising_numbers ?_
  unfold b_are_rising_numbers
  walk_at "vcq"
  · rename_i hc
    rw [List.length_map] at hc
    omega
  refine genL (bs := List.replicate c.length true) (by simp) Still.none (fun i x b e1 e2 => ?_) fun s1 K1 => ?_
  · rw [List.getElem?_map] at e1
    obtain ⟨y, hy, rfl⟩ := Option.map_eq_some_iff.mp e1
    have hb : b = true := by
      rw [List.getElem?_replicate] at e2
      split at e2
      · exact (Option.some.inj e2).symm
      · cases e2
    subst hb
    refine ⟨_, rfl, fun s1 K1 => ?_⟩
    show W (sCall _ _ [_, some (.int (N : Int)), some (.int (y : Int))] s1) _
    walk_at "vcq"
    exact within_ok (n := n + 2) (by omega) (by have := cu.lt y (List.mem_of_getElem? hy); omega)
  · have e : (if true = true then (List.replicate c.length true).all id else (List.replicate c.length true).any id) = true := by simp
    rw [e]
    walk_at "vcq"
    exact (rising_ok (n := n + 3) (by omega) cu hN).mono fun d s2 ⟨a, K2⟩ => ⟨a, K1.trans K2⟩
end
section
variable {rows : List (List (Int × Int))} {n m a : Nat} {c : List Nat} {s : Store}
theorem gsteps_ok (hn : 1 ≤ n) (cu : Cut rows.length c) (hl : rows.length ≤ 12) (ha : c[m]? = some a) : W (G n 12 [Steps rows, .tup (nums c), .int (m : Int)] s) fun d s' => d = Steps ((rot rows a).take (glen rows.length c m)) ∧ Kall s s' := by
  match n, hn with
  | n + 1, _ =>
  have hm := (List.getElem?_eq_some_iff.mp ha).1
  have al := cu.lt a (List.mem_of_getElem? ha)
  have l1 : 0 < c.length := by omega
  have mm : (m + 1) % c.length < c.length := Nat.mod_lt _ l1
  obtain ⟨f, hf⟩ : ∃ f, c[(m + 1) % c.length]? = some f := ⟨_, List.getElem?_eq_getElem mm⟩
  have em : ((m : Int) + 1).fmod (((nums c).length : Nat) : Int) = (((m + 1) % c.length : Nat) : Int) := by
    rw [List.length_map, Int.fmod_eq_emod_of_nonneg _ (by omega)]; rfl
  have at1 : atI (nums c) (m : Int) = some (.int (a : Int)) := atI_list (emb := natD) ha
  have at2 : atI (nums c) (((m : Int) + 1).fmod (((nums c).length : Nat) : Int)) = some (.int (f : Int)) := by rw [em]; exact atI_list (emb := natD) hf
  have nl : (((nums c).length : Nat) : Int) ≠ 0 := by rw [List.length_map]; omega
  have rl : (((rows.map rowT).length : Nat) : Int) ≠ 0 := by rw [List.length_map]; omega
  have w := fmod_b ((f : Int) - (a : Int) - 1) (b := (rows.length : Int)) (by omega)
  have eg : glen rows.length c m = (((f : Int) - (a : Int) - 1).fmod (rows.length : Int)).toNat + 1 := by
    unfold glen
    rw [List.getD_eq_getElem?_getD, List.getD_eq_getElem?_getD, hf, ha]; rfl
  refine Gw_group_steps ?_
  unfold b_group_steps
  walk_at "vcq"
  · exact nl
  refine p_rot (Nat.le_of_lt al) (by omega) ?_
  walk_at "vcq"
  · exact rl
  refine ⟨?_, Kall.refl⟩
  rw [List.length_map]
  have e1 : ((f : Int) - (a : Int) - 1).fmod (rows.length : Int) + 1 = ((glen rows.length c m : Nat) : Int) := by rw [eg]; omega
  rw [e1, cutTo, ← List.map_take]
theorem cutOk {m0 : Int} {b0 : Nat} (hn : 6 ≤ n) (hr : ∀ r ∈ rows, Rw m0 r) (m6 : m0 ≤ 6) (m00 : 0 ≤ m0) (cu : Cut rows.length c) (hl : rows.length ≤ 12) (hb0 : b0 < rows.length) (sub : ∀ i ∈ begins rows b0, i ∈ c) : W (G n 11 [Steps rows, .tup (nums c)] s) fun d s' => d = .bl true ∧ Kall s s' := by
  match n, hn with
  | n + 6, _ =>
  have ll := nodup_le _ _ (cu.rise.imp fun h => Nat.ne_of_lt h) cu.lt
  refine Gw_is_cut ?_
  unfold b_is_cut
  walk_at "vcq"
  rw [List.length_map]
  refine (numbers_ok (n := n + 5) (by omega) cu hl).mono fun d s1 ⟨ed, K1⟩ => ?_
  subst ed
  walk_at "vcq"
  · rw [List.length_map]; omega
  rw [List.length_map, Int.toNat_natCast]
  refine lcTM (fun _ => .bl true) Still.none (by simp; omega) (fun m hm => ⟨_, rfl, fun s2 K2 => ?_⟩) fun s2 g2 K2 => ?_
  · have hm := List.mem_range.mp hm
    obtain ⟨a, ha⟩ : ∃ a, c[m]? = some a := ⟨_, List.getElem?_eq_getElem hm⟩
    have al := cu.lt a (List.mem_of_getElem? ha)
    show W (sCall _ _ [_, _, some (.int (m : Int))] s2) _
    walk_at "vcq"
    refine (gsteps_ok (n := n + 5) (by omega) cu hl ha).mono fun d s3 ⟨ed, K3⟩ => ?_
    subst ed
    walk_at "vcq"
    refine (twiceT_ok (n := n + 5) (by omega) (fun r h => ?_) (by rw [List.length_take, rot_len (Nat.le_of_lt al)]; omega)).mono fun d s4 ⟨ed, K4⟩ => ?_
    · have := (hr r (rot_mem r (List.mem_of_mem_take h))).len m00
      omega
    subst ed
    exact ⟨by rw [decide_eq_true (group_once hr cu hb0 sub ha)], K3.trans K4⟩
  · have e : (List.range c.length).map (fun _ => D.bl true) = (List.replicate c.length true).map D.bl := by
      rw [List.map_replicate, List.map_const', List.length_range]
    rw [e] at g2
    walk_at "vcq"
    refine p_quant g2 ?_
    exact ⟨by simp, K1.trans K2⟩
theorem made_ok {m0 : Int} {b0 : Nat} (hn : 7 ≤ n) (hr : ∀ r ∈ rows, Rw m0 r) (m6 : m0 ≤ 6) (m00 : 0 ≤ m0) (cu : Cut rows.length c) (hl : rows.length ≤ 12) (hb0 : b0 < rows.length) (sub : ∀ i ∈ begins rows b0, i ∈ c) : W (G n 16 [Steps rows, .tup (nums c)] s) fun d s' => d = .tup (nums c) ∧ Kall s s' := by
  match n, hn with
  | n + 7, _ =>
  refine Gw_made_cut ?_
  unfold b_made_cut
  walk_at "vcq"
  refine (cutOk (n := n + 6) (by omega) hr m6 m00 cu hl hb0 sub).mono fun d s1 ⟨ed, K1⟩ => ?_
  subst ed
  walk_at "vcq"
  exact ⟨rfl, K1⟩
end
theorem p_mulT {Q : D → Store → Prop} {xs : List D} {k : Int} {st : Store} (h : xs ≠ []) (k2 : 2 ≤ k) (k3 : k ≤ 1000) (l : xs.length ≤ 1000) (q : Q (.tup (List.replicate k.toNat xs).flatten) st) : W (fMulA (.tup xs) (.int k) st) Q := by
  refine ⟨_, st, ?_, q⟩
  cases xs with
  | nil => exact absurd rfl h
  | cons a r =>
    have l' : r.length ≤ 999 := by simpa using l
    simp [fMulA, fMul, fOr, fI, fRepL, fMulT, k2, k3, l']
def valM (pl : List Int) : List Int := pl.map fun x => if 0 < x then 1 else 0
theorem place_pos {v : Int} {rows : List (List (Int × Int))} {p : Nat} (h : 1 ≤ v) : placeM v rows p = 2 * v ↔ 0 < placeM v rows p := by
  unfold placeM
  cases (sidesM rows p).getLast? with
  | none => simp only; omega
  | some s => simp only; split <;> omega
def marksM (c : List Nat) (N : Nat) : List Int := (List.range c.length).map fun m => if m = gofN c (N - 1) then 1 else 0
abbrev restD (P V M : List Int) : D := .tup [di P, di V, di M, .tup [.int 0, .int 0]]
section
variable {rows : List (List (Int × Int))} {ss ms : List Int} {n : Nat} {c : List Nat} {s : Store} {m0 : Int}
theorem restw_ok (hn : 5 ≤ n) (hr : ∀ r ∈ rows, Rw m0 r) (m6 : m0 ≤ 6) (m00 : 0 ≤ m0) (hl : rows.length ≤ 12) (sl : (ss.length : Int) = m0) (sb : ∀ x ∈ ss, 1 ≤ x ∧ x ≤ 4) : W (G n 15 [di ss, Steps rows, di ms] s) fun d s' => d = restD (placesM ss (rot rows 0)) (valM (placesM ss (rot rows 0))) ms ∧ Kall s s' := by
  match n, hn with
  | n + 5, _ =>
  have hr6 : ∀ r ∈ rows, r.length ≤ 6 := fun r h => by have := (hr r h).len m00; omega
  refine Gw_rest_with ?_
  unfold b_rest_with
  walk_at "vcq"
  refine (between_ok (n := n + 4) (i := 0) (by omega) hr6 (by omega) (Nat.zero_le _) (by omega) (fun x h => by have := sb x h; omega)).mono fun d s1 ⟨ed, K1⟩ => ?_
  subst ed
  walk_at "vcq"
  have pl : (placesM ss (rot rows 0)).length = ss.length := by unfold placesM; simp
  rw [enum_map]
  refine lcIx (fs := (valM (placesM ss (rot rows 0))).map D.int) (by unfold valM; simp) Still.none (by simp; omega) (fun i x f e1 e2 => ?_) fun s2 g2 K2 => ?_
  · rw [List.getElem?_map, List.getElem?_zipIdx] at e1
    obtain ⟨q, hq, rfl⟩ := Option.map_eq_some_iff.mp e1
    obtain ⟨y, hy, rfl⟩ := Option.map_eq_some_iff.mp hq
    unfold valM at e2
    rw [List.getElem?_map, List.getElem?_map, hy] at e2
    have e2 : D.int (if 0 < y then 1 else 0) = f := by simpa using e2
    subst e2
    have hi : i < ss.length := by have := (List.getElem?_eq_some_iff.mp hy).1; omega
    have hv : ss[i]? = some (ss.getD i 0) := by rw [List.getD_eq_getElem?_getD, List.getElem?_eq_getElem hi]; rfl
    have vb := sb _ (List.mem_of_getElem? hv)
    have ey : y = placeM (ss.getD i 0) (rot rows 0) i := by
      unfold placesM at hy
      rw [List.getElem?_map, List.getElem?_range hi] at hy
      exact (Option.some.inj hy).symm
    refine ⟨_, rfl, fun s2 K2 _ => ?_⟩
    show W (sIf _ _ _ [_, _, _, _, _, some (.int ((0 + i : Nat) : Int)), some (.int y)] s2) _
    rw [Nat.zero_add]
    walk_at "vcq"
    refine (end_ok (n := n + 4) (by omega) hv (by omega)).mono fun d s3 ⟨ed, K3⟩ => ?_
    subst ed
    rw [if_pos rfl]
    have pp := place_pos (v := ss.getD i 0) (rows := rot rows 0) (p := i) vb.1
    rw [← ey] at pp
    walk_at "vcq"
    · rename_i hc
      exact ⟨by rw [if_pos (pp.mp hc)], K3⟩
    · rename_i hc
      exact ⟨by rw [if_neg fun z => hc (pp.mpr z)], K3⟩
  · walk_at "vcq"
    refine p_mulT (by simp) (by omega) (by omega) (by simp) ?_
    walk_at "vcq"
    exact ⟨rfl, K1.trans K2⟩
theorem rest_ok {b0 : Nat} (hn : 8 ≤ n) (hr : ∀ r ∈ rows, Rw m0 r) (m6 : m0 ≤ 6) (m00 : 0 ≤ m0) (cu : Cut rows.length c) (hl : rows.length ≤ 12) (hb0 : b0 < rows.length) (sub : ∀ i ∈ begins rows b0, i ∈ c) (sl : (ss.length : Int) = m0) (sb : ∀ x ∈ ss, 1 ≤ x ∧ x ≤ 4) :
    W (G n 17 [di ss, Steps rows, .tup (nums c)] s) fun d s' => d = restD (placesM ss (rot rows 0)) (valM (placesM ss (rot rows 0))) (marksM c rows.length) ∧ Kall s s' := by
  match n, hn with
  | n + 8, _ =>
  have ll := nodup_le _ _ (cu.rise.imp fun h => Nat.ne_of_lt h) cu.lt
  refine Gw_group_rest ?_
  unfold b_group_rest
  walk_at "vcq"
  refine (made_ok (n := n + 7) (by omega) hr m6 m00 cu hl hb0 sub).mono fun d s1 ⟨ed, K1⟩ => ?_
  walk_at "vcq"
  have e1 : (((rows.map rowT).length : Nat) : Int) - 1 = ((rows.length - 1 : Nat) : Int) := by rw [List.length_map]; omega
  rw [e1]
  refine (group_ok (n := n + 7) (x := rows.length - 1) (by omega) cu hl).mono fun d s2 ⟨ed, K2⟩ => ?_
  subst ed
  walk_at "vcq"
  · rw [List.length_map]; omega
  rw [List.length_map, Int.toNat_natCast]
  refine lcTM (fun m => .int (if m = gofN c (rows.length - 1) then 1 else 0)) Still.none (by simp; omega) (fun m hm => ⟨_, rfl, fun s3 K3 => ?_⟩) fun s3 g3 K3 => ?_
  · show W (sIf _ _ _ [_, _, _, some (.int ((gofN c (rows.length - 1) : Nat) : Int)), some (.int (m : Int))] s3) _
    walk_at "vcq"
    · rename_i hc
      exact ⟨by rw [if_pos (by omega)], Kall.refl⟩
    · rename_i hc
      exact ⟨by rw [if_neg (by omega)], Kall.refl⟩
  · have em : (List.range c.length).map (fun m => D.int (if m = gofN c (rows.length - 1) then 1 else 0)) = (marksM c rows.length).map D.int := by unfold marksM; rw [List.map_map]; rfl
    rw [em] at g3
    walk_at "vcq"
    exact (restw_ok (n := n + 7) (by omega) hr m6 m00 hl sl sb).mono fun d s4 ⟨a, K4⟩ => ⟨a, ((K1.trans K2).trans K3).trans K4⟩
theorem lrest_ok (hn : 2 ≤ n) (s0 : 0 < s.length) (hr : ∀ r ∈ rows, Rw m0 r) (m6 : m0 ≤ 6) (h1 : 1 ≤ rows.length) (cu : Cut rows.length c) (hl : rows.length ≤ 12) (sl : (ss.length : Int) = m0) (sb : ∀ x ∈ ss, 1 ≤ x ∧ x ≤ 4) :
    W (G n 29 [di ss, Steps rows, .tup (nums c)] s) fun d s' => d = restD (placesM ss (rot rows 0)) (valM (placesM ss (rot rows 0))) (marksM c rows.length) ∧ Kall s s' := by
  match n, hn with
  | n + 2, _ =>
  refine Gw__law_rest ?_
  unfold b__law_rest
  walk_at "vcq"
  refine (lbetween_ok (n := n + 1) (i := 0) (by omega) m6 s0 hr h1 hl (by omega) sl (fun x h => by have := sb x h; omega)).mono fun d s1 ⟨ed, K1⟩ => ?_
  subst ed
  have pl : (placesM ss (rot rows 0)).length = ss.length := by unfold placesM; simp
  walk_at "vcq"
  refine lcTM (l := placesM ss (rot rows 0)) (emb := D.int) (fun x => .int (if 0 < x then 1 else 0)) Still.none (by omega) (fun x _ => ⟨_, rfl, fun s2 K2 => ?_⟩) fun s2 g2 K2 => ?_
  · walk_at "vcq"
    refine ⟨?_, Kall.refl⟩
    congr 1
    by_cases z : 0 < x <;> simp [z]
  have ev : (placesM ss (rot rows 0)).map (fun x => D.int (if 0 < x then 1 else 0)) = (valM (placesM ss (rot rows 0))).map D.int := by unfold valM; rw [List.map_map]; rfl
  rw [ev] at g2
  walk_at "vcq"
  refine (groups_ok (n := n + 1) (by omega) ((K1.trans K2).pos s0) cu hl).mono fun d s3 ⟨lg, T, ed, gT, lT, hT, K3⟩ => ?_
  subst ed
  have ga := groups_all cu lT fun m p hp => (hT m p hp).2.2
  obtain ⟨pz, hpz, mz⟩ := ga (rows.length - 1) (by omega)
  have ll := nodup_le _ _ (cu.rise.imp fun h => Nat.ne_of_lt h) cu.lt
  walk_at "vcq"
  refine lcIx (fs := (marksM c rows.length).map D.int) (by unfold marksM; simp [lT]) (Still.of gT) (by rw [List.length_map]; omega) (fun i x f e1 e2 => ?_) fun s4 g4 K4 => ?_
  · rw [List.getElem?_map] at e1
    obtain ⟨p, hp, rfl⟩ := Option.map_eq_some_iff.mp e1
    obtain ⟨gp, _, hy, _⟩ := hT i p hp
    have hi : i < c.length := by have := (List.getElem?_eq_some_iff.mp hp).1; omega
    unfold marksM at e2
    rw [List.getElem?_map, List.getElem?_map, List.getElem?_range hi] at e2
    have e2 : D.int (if i = gofN c (rows.length - 1) then 1 else 0) = f := by simpa using e2
    subst e2
    have iff_ : (((rows.length - 1 : Nat) : Int) ∈ zs p.2) ↔ i = gofN c (rows.length - 1) := by
      unfold zs
      rw [List.mem_map]
      constructor
      · rintro ⟨y, hy2, e⟩
        have : y = rows.length - 1 := by omega
        rw [← this, (hy y hy2).2]
      · intro e
        rw [← e, hp] at hpz
        cases hpz
        exact ⟨_, mz, rfl⟩
    refine ⟨_, rfl, fun s4 K4 _ => ?_⟩
    have gp4 := K4.get gp
    rw [nums_zs] at gp4
    have e3 : (((rows.map rowT).length : Nat) : Int) - 1 = ((rows.length - 1 : Nat) : Int) := by rw [List.length_map]; omega
    show W (sCall _ _ [_, _, _, _, _, _, some (.lst p.1), _] s4) _
    walk_at "vcq"
    refine ⟨?_, Kall.refl⟩
    rw [e3]
    congr 1
    by_cases z : i = gofN c (rows.length - 1)
    · rw [decide_eq_true (iff_.mpr z), if_pos z]; rfl
    · rw [decide_eq_false fun h => z (iff_.mp h), if_neg z]; rfl
  · walk_at "vcq"
    exact ⟨rfl, ((K1.trans K2).trans K3).trans K4⟩
end
def cutT (c : List Nat) : D := .tup (nums c)
theorem di_daB {ns : List Int} (l : ns.length ≤ 20) (b : ∀ n ∈ ns, 0 ≤ n ∧ n ≤ 1000) : Da 1 1000 (di ns) := by
  have al := DaL.all (ns.map D.int) (n := 0) (w := 10) fun d hd => by
    obtain ⟨n, hn, rfl⟩ := List.mem_map.mp hd
    have := b n hn
    exact Da.int (by omega)
  refine (Da.tup al).up (Nat.le_refl _) ?_
  rw [List.length_map]
  omega
theorem rest_da {P V M : List Int} (lP : P.length ≤ 20) (bP : ∀ n ∈ P, 0 ≤ n ∧ n ≤ 1000) (lV : V.length ≤ 20) (bV : ∀ n ∈ V, 0 ≤ n ∧ n ≤ 1000) (lM : M.length ≤ 20) (bM : ∀ n ∈ M, 0 ≤ n ∧ n ≤ 1000) : Da 2 10000 (restD P V M) := by
  have z : Da 1 1000 (di [0, 0]) := di_daB (by simp) (by simp)
  have := Da.tup (DaL.cons (di_daB lP bP) (DaL.cons (di_daB lV bV) (DaL.cons (di_daB lM bM) (DaL.cons z DaL.nil))))
  exact this.up (Nat.le_refl _) (by omega)
theorem t0_rest {P V M : List Int} : t0 2 (restD P V M) = true := by
  have h : ∀ l : List Int, t0 1 (di l) = true := fun l => by
    show (l.map D.int).all (t0 0) = true
    rw [List.all_eq_true]
    exact t0_ints
  show [di P, di V, di M, di [0, 0]].all (t0 1) = true
  simp [List.all_cons, h]
theorem placeM_b {v : Int} {rows : List (List (Int × Int))} {p : Nat} (h : 0 ≤ v ∧ v ≤ 100) : 0 ≤ placeM v rows p ∧ placeM v rows p ≤ 200 := by
  unfold placeM
  split
  · split <;> omega
  · omega
theorem places_b {ss : List Int} {rows : List (List (Int × Int))} (sb : ∀ x ∈ ss, 1 ≤ x ∧ x ≤ 4) : ∀ n ∈ placesM ss rows, 0 ≤ n ∧ n ≤ 1000 := fun n hn => by
  unfold placesM at hn
  obtain ⟨p, hp, rfl⟩ := List.mem_map.mp hn
  have hp := List.mem_range.mp hp
  have hv : ss[p]? = some (ss.getD p 0) := by rw [List.getD_eq_getElem?_getD, List.getElem?_eq_getElem hp]; rfl
  have := sb _ (List.mem_of_getElem? hv)
  have := placeM_b (v := ss.getD p 0) (rows := rows) (p := p) (by omega)
  omega
theorem val_b {pl : List Int} : ∀ n ∈ valM pl, 0 ≤ n ∧ n ≤ 1000 := fun n hn => by
  unfold valM at hn
  obtain ⟨p, hp, rfl⟩ := List.mem_map.mp hn
  split <;> omega
theorem marks_b {c : List Nat} {N : Nat} : ∀ n ∈ marksM c N, 0 ≤ n ∧ n ≤ 1000 := fun n hn => by
  unfold marksM at hn
  obtain ⟨p, hp, rfl⟩ := List.mem_map.mp hn
  split <;> omega
theorem restx {ss : List Int} {rows : List (List (Int × Int))} {c : List Nat} (ls : ss.length ≤ 6) (sb : ∀ x ∈ ss, 1 ≤ x ∧ x ≤ 4) (lc : c.length ≤ 12) : ∃ x, ∀ st, fRepr [restD (placesM ss (rot rows 0)) (valM (placesM ss (rot rows 0))) (marksM c rows.length)] st = some (.str x, st) := by
  have pl : (placesM ss (rot rows 0)).length = ss.length := by unfold placesM; simp
  have vl : (valM (placesM ss (rot rows 0))).length = ss.length := by unfold valM; rw [List.length_map]; exact pl
  have ml : (marksM c rows.length).length = c.length := by unfold marksM; simp
  obtain ⟨x, _, hx⟩ := repr_ok (rest_da (P := placesM ss (rot rows 0)) (V := valM (placesM ss (rot rows 0))) (M := marksM c rows.length) (by omega) (places_b sb) (by omega) val_b (by omega) marks_b) (by omega) (by omega) rfl
  exact ⟨x, hx⟩
theorem law_true (ns : List Int) (hl : ns.length ≤ 63) : ∃ st', G 20 30 [.lst 0] [ns.map D.int] = some (.bl true, st') := by
  suffices h : W (G 20 30 [.lst 0] [ns.map D.int]) fun d _ => d = .bl true by
    obtain ⟨d, s, e, rfl⟩ := h
    exact ⟨s, e⟩
  refine Gw_law ?_
  unfold b_law
  walk_at "vcq"
  · omega
  refine forT (fun _ ρ s => ∃ o1 o2 o3 o4 o5 o6 o7 o8 : Option D, ρ = [some (.lst 0), o1, o2, o3, o4, o5, o6, o7, o8] ∧ s[0]? = some (ns.map D.int)) ⟨_, _, _, _, _, _, _, _, rfl, rfl⟩ ?_ ?_
  · rintro j a ρ s hj ⟨o1, o2, o3, o4, o5, o6, o7, o8, rfl, g0⟩
    have ha : a < 5 := List.mem_range.mp (List.mem_of_getElem? hj)
    refine ⟨Still.none, _, rfl, ?_⟩
    show W (kSeq _ _ [_, some (.int (a : Int)), _, _, _, _, _, _, _] s) _
    walk_at "vcq"
    refine (stream_ok (n := 19) (by omega) g0 hl (by omega) (by omega)).mono fun d s1 ⟨h, ed, lh, x1, K1⟩ => ?_
    subst ed
    have s10 := lt_of_get g0
    walk_at "vcq"
    refine (drawn_ok (n := 19) (by omega) x1).mono fun d s2 ⟨⟨m, ss, rows, ed, m1, m6, ls, bs, rr, l1, l2⟩, x2, K2⟩ => ?_
    subst ed
    have hr : ∀ r ∈ rows, r.length ≤ 6 := fun r hr => by have := (rr r hr).1.len (by omega); omega
    have hR : ∀ r ∈ rows, Rw m r := fun r h => (rr r h).1
    walk_at "vcq"
    refine (cut_ok (n := 19) (by omega) x2 hr l1 l2).mono fun d s3 ⟨⟨c, ed, cu, b0, hb0, sub⟩, x3, K3⟩ => ?_
    subst ed
    walk_at "vcq"
    refine p_lrng1 (by rw [List.length_map]; omega) ?_
    rw [List.length_map, Int.toNat_natCast, rng_nat]
    walk_at "vcq"
    have g3 : s3[0]? = some (ns.map D.int) := (K2.trans K3).get (K1.get g0) (by omega)
    have cu2 : Cut rows.length (List.range rows.length) := ⟨List.pairwise_lt_range, by intro e; rw [List.range_eq_nil] at e; omega, fun i hi => List.mem_range.mp hi⟩
    show W (forRun (List.map cutT [c, List.range rows.length], some ((s3 ++ [(List.range rows.length).map natD]).length, List.map cutT [c, List.range rows.length])) _ _ _ (s3 ++ [(List.range rows.length).map natD] ++ [[cutT c, cutT (List.range rows.length)]])) _
    have gl : (s3 ++ [(List.range rows.length).map natD] ++ [[cutT c, cutT (List.range rows.length)]])[(s3 ++ [(List.range rows.length).map natD]).length]? = some (List.map cutT [c, List.range rows.length]) := get_new
    generalize hs4 : s3 ++ [(List.range rows.length).map natD] ++ [[cutT c, cutT (List.range rows.length)]] = s4 at gl
    have K4 : Kall s3 s4 := by rw [← hs4]; exact Kall.push.trans Kall.push
    generalize (s3 ++ [(List.range rows.length).map natD]).length = lc at gl
    refine forT (fun _ ρ s => ∃ o1 o3 o6 o7 o8 : Option D, ρ = [some (.lst 0), o1, some (.lst h), o3, some (di ss), some (Steps rows), o6, o7, o8] ∧ Kall s4 s) ⟨_, _, _, _, _, rfl, Kall.refl⟩ ?_ ?_
    · rintro i c' ρ s5 hi ⟨o1, o3, o6, o7, o8, rfl, K5⟩
      have cu' : Cut rows.length c' ∧ ∃ b, b < rows.length ∧ ∀ i ∈ begins rows b, i ∈ c' := by
        have := List.mem_of_getElem? hi
        simp at this
        rcases this with rfl | rfl
        · exact ⟨cu, b0, hb0, sub⟩
        · exact ⟨cu2, b0, hb0, fun i hi => List.mem_range.mpr (begins_lt rows hb0 i hi)⟩
      obtain ⟨cu', b1, hb1, sub1⟩ := cu'
      have ll := nodup_le _ _ (cu'.rise.imp fun h => Nat.ne_of_lt h) cu'.lt
      have p5 : 0 < s5.length := by have := (K4 0).le; have := (K5 0).le; have := lt_of_get g3; omega
      refine ⟨Still.of (K5.get gl), _, rfl, ?_⟩
      show W (kSeq _ _ [_, _, _, some (.tup (nums c')), _, _, _, _, _] s5) _
      walk_at "vcq"
      refine (rest_ok (n := 19) (by omega) hR m6 (by omega) cu' l2 hb1 sub1 ls bs).mono fun d s6 ⟨ed, K6⟩ => ?_
      subst ed
      walk_at "vcq"
      refine lcTM (l := ss) (emb := D.int) (fun x => .int (5 - x)) Still.none (by omega) (fun x hx => ⟨_, rfl, fun s7 K7 => ?_⟩) fun s7 g7 K7 => ?_
      · walk_at "vcq"
        exact ⟨rfl, Kall.refl⟩
      let os := ss.map fun x => 5 - x
      have eo : ss.map (fun x => D.int (5 - x)) = os.map D.int := by show _ = (ss.map fun x => 5 - x).map D.int; rw [List.map_map]; rfl
      have lo : (os.length : Int) = m := by show (((ss.map fun x => 5 - x).length : Nat) : Int) = m; rw [List.length_map]; exact ls
      have bo : ∀ x ∈ os, 1 ≤ x ∧ x ≤ 4 := fun x hx => by
        obtain ⟨y, hy, rfl⟩ := List.mem_map.mp hx
        have := bs y hy
        omega
      rw [eo] at g7
      generalize os = os at g7 lo bo
      obtain ⟨x1, hx1⟩ := restx (ss := os) (rows := rows) (c := c') (by omega) bo (by omega)
      obtain ⟨x2, hx2⟩ := restx (ss := ss) (rows := rows) (c := c') (by omega) bs (by omega)
      walk_at "vcq"
      refine (rest_ok (n := 19) (by omega) hR m6 (by omega) cu' l2 hb1 sub1 lo bo).mono fun d s8 ⟨ed, K8⟩ => ?_
      subst ed
      refine w_nil (p_repr hx1 ?_)
      walk_at "vcq"
      refine (lrest_ok (n := 19) (by omega) (((K6.trans K7).trans K8).pos p5) hR m6 l1 cu' l2 lo bo).mono fun d s9 ⟨ed, K9⟩ => ?_
      subst ed
      refine w_nil (p_repr hx1 ?_)
      walk_at "vcq"
      · rename_i hc; exact absurd rfl hc
      refine p_repr hx2 ?_
      walk_at "vcq"
      refine (lrest_ok (n := 19) (by omega) ((((K6.trans K7).trans K8).trans K9).pos p5) hR m6 l1 cu' l2 ls bs).mono fun d s10 ⟨ed, K10⟩ => ?_
      subst ed
      refine w_nil (p_repr hx2 ?_)
      walk_at "vcq"
      · rename_i hc; exact absurd rfl hc
      refine (rest_ok (n := 19) (by omega) hR m6 (by omega) cu' l2 hb1 sub1 ls bs).mono fun d s11 ⟨ed, K11⟩ => ?_
      subst ed
      walk_at "vcq"
      refine p_neD (k := 2) t0_rest t0_rest (by omega) fun r hr => ?_
      rw [hr.mpr rfl]
      walk_at "vcq"
      exact ⟨_, _, _, _, _, rfl, (((((K5.trans K6).trans K7).trans K8).trans K9).trans K10).trans K11⟩
    · rintro ρ s5 ⟨o1, o3, o6, o7, o8, rfl, K5⟩
      exact ⟨Still.of (K5.get gl), _, _, _, _, _, _, _, _, rfl, (K4.trans K5).get g3⟩
  · rintro ρ s ⟨o1, o2, o3, o4, o5, o6, o7, o8, rfl, g0⟩
    refine ⟨Still.none, ?_⟩
    walk_at "vcq"
end My
namespace My
open PySem L2 Ev
theorem all_mk {l : PySem.W.OpenLaw} {w : World} {K : PySem.W.Frag} {h : Heap} {mg : Str → Option Value} {fa : Addr} (X : K.In h) (Gl : h.Ns mainGlobals mg) (hfa : mg "law" = some (.ref fa))
    {f0 : Addr} {od0 an0 : Option Addr} {sl0 : Array (Option Value)} {oc0 kV0 dc0 pm0 cd0 ct0 : Value}
    {f1 : Addr} {od1 an1 : Option Addr} {sl1 : Array (Option Value)} {oc1 kV1 dc1 pm1 cd1 ct1 : Value}
    {f2 : Addr} {od2 an2 : Option Addr} {sl2 : Array (Option Value)} {oc2 kV2 dc2 pm2 cd2 ct2 : Value}
    {f3 : Addr} {od3 an3 : Option Addr} {sl3 : Array (Option Value)} {oc3 kV3 dc3 pm3 cd3 ct3 : Value}
    {f4 : Addr} {od4 an4 : Option Addr} {sl4 : Array (Option Value)} {oc4 kV4 dc4 pm4 cd4 ct4 : Value}
    {f5 : Addr} {od5 an5 : Option Addr} {sl5 : Array (Option Value)} {oc5 kV5 dc5 pm5 cd5 ct5 : Value}
    {f6 : Addr} {od6 an6 : Option Addr} {sl6 : Array (Option Value)} {oc6 kV6 dc6 pm6 cd6 ct6 : Value}
    {f7 : Addr} {od7 an7 : Option Addr} {sl7 : Array (Option Value)} {oc7 kV7 dc7 pm7 cd7 ct7 : Value}
    {f8 : Addr} {od8 an8 : Option Addr} {sl8 : Array (Option Value)} {oc8 kV8 dc8 pm8 cd8 ct8 : Value}
    {f9 : Addr} {od9 an9 : Option Addr} {sl9 : Array (Option Value)} {oc9 kV9 dc9 pm9 cd9 ct9 : Value}
    {f10 : Addr} {od10 an10 : Option Addr} {sl10 : Array (Option Value)} {oc10 kV10 dc10 pm10 cd10 ct10 : Value}
    {f11 : Addr} {od11 an11 : Option Addr} {sl11 : Array (Option Value)} {oc11 kV11 dc11 pm11 cd11 ct11 : Value}
    {f12 : Addr} {od12 an12 : Option Addr} {sl12 : Array (Option Value)} {oc12 kV12 dc12 pm12 cd12 ct12 : Value}
    {f13 : Addr} {od13 an13 : Option Addr} {sl13 : Array (Option Value)} {oc13 kV13 dc13 pm13 cd13 ct13 : Value}
    {f14 : Addr} {od14 an14 : Option Addr} {sl14 : Array (Option Value)} {oc14 kV14 dc14 pm14 cd14 ct14 : Value}
    {f15 : Addr} {od15 an15 : Option Addr} {sl15 : Array (Option Value)} {oc15 kV15 dc15 pm15 cd15 ct15 : Value}
    {f16 : Addr} {od16 an16 : Option Addr} {sl16 : Array (Option Value)} {oc16 kV16 dc16 pm16 cd16 ct16 : Value}
    {f17 : Addr} {od17 an17 : Option Addr} {sl17 : Array (Option Value)} {oc17 kV17 dc17 pm17 cd17 ct17 : Value}
    {f18 : Addr} {od18 an18 : Option Addr} {sl18 : Array (Option Value)} {oc18 kV18 dc18 pm18 cd18 ct18 : Value}
    {f19 : Addr} {od19 an19 : Option Addr} {sl19 : Array (Option Value)} {oc19 kV19 dc19 pm19 cd19 ct19 : Value}
    {f20 : Addr} {od20 an20 : Option Addr} {sl20 : Array (Option Value)} {oc20 kV20 dc20 pm20 cd20 ct20 : Value}
    {f21 : Addr} {od21 an21 : Option Addr} {sl21 : Array (Option Value)} {oc21 kV21 dc21 pm21 cd21 ct21 : Value}
    {f22 : Addr} {od22 an22 : Option Addr} {sl22 : Array (Option Value)} {oc22 kV22 dc22 pm22 cd22 ct22 : Value}
    {f23 : Addr} {od23 an23 : Option Addr} {sl23 : Array (Option Value)} {oc23 kV23 dc23 pm23 cd23 ct23 : Value}
    {f24 : Addr} {od24 an24 : Option Addr} {sl24 : Array (Option Value)} {oc24 kV24 dc24 pm24 cd24 ct24 : Value}
    {f25 : Addr} {od25 an25 : Option Addr} {sl25 : Array (Option Value)} {oc25 kV25 dc25 pm25 cd25 ct25 : Value}
    {f26 : Addr} {od26 an26 : Option Addr} {sl26 : Array (Option Value)} {oc26 kV26 dc26 pm26 cd26 ct26 : Value}
    {f27 : Addr} {od27 an27 : Option Addr} {sl27 : Array (Option Value)} {oc27 kV27 dc27 pm27 cd27 ct27 : Value}
    {f28 : Addr} {od28 an28 : Option Addr} {sl28 : Array (Option Value)} {oc28 kV28 dc28 pm28 cd28 ct28 : Value}
    {f29 : Addr} {od29 an29 : Option Addr} {sl29 : Array (Option Value)} {oc29 kV29 dc29 pm29 cd29 ct29 : Value}
    {f30 : Addr} {od30 an30 : Option Addr} {sl30 : Array (Option Value)} {oc30 kV30 dc30 pm30 cd30 ct30 : Value}
    (a0 : PySem.W.nsIn K mainGlobals "is_int" = some (some (.ref f0))) (l0 : K.lookup f0 = some ⟨oc0, od0, .func (PySem.W.fnOf "is_int" "is_int" (defArgs s_is_int) (defBody s_is_int) (defScope s_is_int) .none kV0 dc0 pm0 an0 cd0 ct0), sl0⟩) (c0 : PySem.W.codeIn K cd0 "is_int" = true) (k0 : PySem.W.keepIn K (.ref f0) = true)
    (a1 : PySem.W.nsIn K mainGlobals "is_within" = some (some (.ref f1))) (l1 : K.lookup f1 = some ⟨oc1, od1, .func (PySem.W.fnOf "is_within" "is_within" (defArgs s_is_within) (defBody s_is_within) (defScope s_is_within) .none kV1 dc1 pm1 an1 cd1 ct1), sl1⟩) (c1 : PySem.W.codeIn K cd1 "is_within" = true) (k1 : PySem.W.keepIn K (.ref f1) = true)
    (a2 : PySem.W.nsIn K mainGlobals "is_rising" = some (some (.ref f2))) (l2 : K.lookup f2 = some ⟨oc2, od2, .func (PySem.W.fnOf "is_rising" "is_rising" (defArgs s_is_rising) (defBody s_is_rising) (defScope s_is_rising) .none kV2 dc2 pm2 an2 cd2 ct2), sl2⟩) (c2 : PySem.W.codeIn K cd2 "is_rising" = true) (k2 : PySem.W.keepIn K (.ref f2) = true)
    (a3 : PySem.W.nsIn K mainGlobals "are_rising_numbers" = some (some (.ref f3))) (l3 : K.lookup f3 = some ⟨oc3, od3, .func (PySem.W.fnOf "are_rising_numbers" "are_rising_numbers" (defArgs s_are_rising_numbers) (defBody s_are_rising_numbers) (defScope s_are_rising_numbers) .none kV3 dc3 pm3 an3 cd3 ct3), sl3⟩) (c3 : PySem.W.codeIn K cd3 "are_rising_numbers" = true) (k3 : PySem.W.keepIn K (.ref f3) = true) (g3 : Gx.genAt K cd3 = true)
    (a4 : PySem.W.nsIn K mainGlobals "cam_place" = some (some (.ref f4))) (l4 : K.lookup f4 = some ⟨oc4, od4, .func (PySem.W.fnOf "cam_place" "cam_place" (defArgs s_cam_place) (defBody s_cam_place) (defScope s_cam_place) .none kV4 dc4 pm4 an4 cd4 ct4), sl4⟩) (c4 : PySem.W.codeIn K cd4 "cam_place" = true) (k4 : PySem.W.keepIn K (.ref f4) = true)
    (a5 : PySem.W.nsIn K mainGlobals "end_cam" = some (some (.ref f5))) (l5 : K.lookup f5 = some ⟨oc5, od5, .func (PySem.W.fnOf "end_cam" "end_cam" (defArgs s_end_cam) (defBody s_end_cam) (defScope s_end_cam) .none kV5 dc5 pm5 an5 cd5 ct5), sl5⟩) (c5 : PySem.W.codeIn K cd5 "end_cam" = true) (k5 : PySem.W.keepIn K (.ref f5) = true)
    (a6 : PySem.W.nsIn K mainGlobals "end_place" = some (some (.ref f6))) (l6 : K.lookup f6 = some ⟨oc6, od6, .func (PySem.W.fnOf "end_place" "end_place" (defArgs s_end_place) (defBody s_end_place) (defScope s_end_place) .none kV6 dc6 pm6 an6 cd6 ct6), sl6⟩) (c6 : PySem.W.codeIn K cd6 "end_place" = true) (k6 : PySem.W.keepIn K (.ref f6) = true)
    (a7 : PySem.W.nsIn K mainGlobals "pistons_of" = some (some (.ref f7))) (l7 : K.lookup f7 = some ⟨oc7, od7, .func (PySem.W.fnOf "pistons_of" "pistons_of" (defArgs s_pistons_of) (defBody s_pistons_of) (defScope s_pistons_of) .none kV7 dc7 pm7 an7 cd7 ct7), sl7⟩) (c7 : PySem.W.codeIn K cd7 "pistons_of" = true) (k7 : PySem.W.keepIn K (.ref f7) = true)
    (a8 : PySem.W.nsIn K mainGlobals "sides_of" = some (some (.ref f8))) (l8 : K.lookup f8 = some ⟨oc8, od8, .func (PySem.W.fnOf "sides_of" "sides_of" (defArgs s_sides_of) (defBody s_sides_of) (defScope s_sides_of) .none kV8 dc8 pm8 an8 cd8 ct8), sl8⟩) (c8 : PySem.W.codeIn K cd8 "sides_of" = true) (k8 : PySem.W.keepIn K (.ref f8) = true)
    (a9 : PySem.W.nsIn K mainGlobals "between" = some (some (.ref f9))) (l9 : K.lookup f9 = some ⟨oc9, od9, .func (PySem.W.fnOf "between" "between" (defArgs s_between) (defBody s_between) (defScope s_between) .none kV9 dc9 pm9 an9 cd9 ct9), sl9⟩) (c9 : PySem.W.codeIn K cd9 "between" = true) (k9 : PySem.W.keepIn K (.ref f9) = true)
    (a10 : PySem.W.nsIn K mainGlobals "place_ahead" = some (some (.ref f10))) (l10 : K.lookup f10 = some ⟨oc10, od10, .func (PySem.W.fnOf "place_ahead" "place_ahead" (defArgs s_place_ahead) (defBody s_place_ahead) (defScope s_place_ahead) .none kV10 dc10 pm10 an10 cd10 ct10), sl10⟩) (c10 : PySem.W.codeIn K cd10 "place_ahead" = true) (k10 : PySem.W.keepIn K (.ref f10) = true)
    (a11 : PySem.W.nsIn K mainGlobals "is_cut" = some (some (.ref f11))) (l11 : K.lookup f11 = some ⟨oc11, od11, .func (PySem.W.fnOf "is_cut" "is_cut" (defArgs s_is_cut) (defBody s_is_cut) (defScope s_is_cut) .none kV11 dc11 pm11 an11 cd11 ct11), sl11⟩) (c11 : PySem.W.codeIn K cd11 "is_cut" = true) (k11 : PySem.W.keepIn K (.ref f11) = true)
    (a12 : PySem.W.nsIn K mainGlobals "group_steps" = some (some (.ref f12))) (l12 : K.lookup f12 = some ⟨oc12, od12, .func (PySem.W.fnOf "group_steps" "group_steps" (defArgs s_group_steps) (defBody s_group_steps) (defScope s_group_steps) .none kV12 dc12 pm12 an12 cd12 ct12), sl12⟩) (c12 : PySem.W.codeIn K cd12 "group_steps" = true) (k12 : PySem.W.keepIn K (.ref f12) = true)
    (a13 : PySem.W.nsIn K mainGlobals "no_piston_twice" = some (some (.ref f13))) (l13 : K.lookup f13 = some ⟨oc13, od13, .func (PySem.W.fnOf "no_piston_twice" "no_piston_twice" (defArgs s_no_piston_twice) (defBody s_no_piston_twice) (defScope s_no_piston_twice) .none kV13 dc13 pm13 an13 cd13 ct13), sl13⟩) (c13 : PySem.W.codeIn K cd13 "no_piston_twice" = true) (k13 : PySem.W.keepIn K (.ref f13) = true)
    (a14 : PySem.W.nsIn K mainGlobals "group_of" = some (some (.ref f14))) (l14 : K.lookup f14 = some ⟨oc14, od14, .func (PySem.W.fnOf "group_of" "group_of" (defArgs s_group_of) (defBody s_group_of) (defScope s_group_of) .none kV14 dc14 pm14 an14 cd14 ct14), sl14⟩) (c14 : PySem.W.codeIn K cd14 "group_of" = true) (k14 : PySem.W.keepIn K (.ref f14) = true)
    (a15 : PySem.W.nsIn K mainGlobals "rest_with" = some (some (.ref f15))) (l15 : K.lookup f15 = some ⟨oc15, od15, .func (PySem.W.fnOf "rest_with" "rest_with" (defArgs s_rest_with) (defBody s_rest_with) (defScope s_rest_with) .none kV15 dc15 pm15 an15 cd15 ct15), sl15⟩) (c15 : PySem.W.codeIn K cd15 "rest_with" = true) (k15 : PySem.W.keepIn K (.ref f15) = true)
    (a16 : PySem.W.nsIn K mainGlobals "made_cut" = some (some (.ref f16))) (l16 : K.lookup f16 = some ⟨oc16, od16, .func (PySem.W.fnOf "made_cut" "made_cut" (defArgs s_made_cut) (defBody s_made_cut) (defScope s_made_cut) .none kV16 dc16 pm16 an16 cd16 ct16), sl16⟩) (c16 : PySem.W.codeIn K cd16 "made_cut" = true) (k16 : PySem.W.keepIn K (.ref f16) = true)
    (a17 : PySem.W.nsIn K mainGlobals "group_rest" = some (some (.ref f17))) (l17 : K.lookup f17 = some ⟨oc17, od17, .func (PySem.W.fnOf "group_rest" "group_rest" (defArgs s_group_rest) (defBody s_group_rest) (defScope s_group_rest) .none kV17 dc17 pm17 an17 cd17 ct17), sl17⟩) (c17 : PySem.W.codeIn K cd17 "group_rest" = true) (k17 : PySem.W.keepIn K (.ref f17) = true)
    (a18 : PySem.W.nsIn K mainGlobals "_law_stream" = some (some (.ref f18))) (l18 : K.lookup f18 = some ⟨oc18, od18, .func (PySem.W.fnOf "_law_stream" "_law_stream" (defArgs s__law_stream) (defBody s__law_stream) (defScope s__law_stream) .none kV18 dc18 pm18 an18 cd18 ct18), sl18⟩) (c18 : PySem.W.codeIn K cd18 "_law_stream" = true) (k18 : PySem.W.keepIn K (.ref f18) = true)
    (a19 : PySem.W.nsIn K mainGlobals "_law_take" = some (some (.ref f19))) (l19 : K.lookup f19 = some ⟨oc19, od19, .func (PySem.W.fnOf "_law_take" "_law_take" (defArgs s__law_take) (defBody s__law_take) (defScope s__law_take) .none kV19 dc19 pm19 an19 cd19 ct19), sl19⟩) (c19 : PySem.W.codeIn K cd19 "_law_take" = true) (k19 : PySem.W.keepIn K (.ref f19) = true)
    (a20 : PySem.W.nsIn K mainGlobals "_law_sections" = some (some (.ref f20))) (l20 : K.lookup f20 = some ⟨oc20, od20, .func (PySem.W.fnOf "_law_sections" "_law_sections" (defArgs s__law_sections) (defBody s__law_sections) (defScope s__law_sections) .none kV20 dc20 pm20 an20 cd20 ct20), sl20⟩) (c20 : PySem.W.codeIn K cd20 "_law_sections" = true) (k20 : PySem.W.keepIn K (.ref f20) = true)
    (a21 : PySem.W.nsIn K mainGlobals "_law_moves" = some (some (.ref f21))) (l21 : K.lookup f21 = some ⟨oc21, od21, .func (PySem.W.fnOf "_law_moves" "_law_moves" (defArgs s__law_moves) (defBody s__law_moves) (defScope s__law_moves) .none kV21 dc21 pm21 an21 cd21 ct21), sl21⟩) (c21 : PySem.W.codeIn K cd21 "_law_moves" = true) (k21 : PySem.W.keepIn K (.ref f21) = true)
    (a22 : PySem.W.nsIn K mainGlobals "_law_steps" = some (some (.ref f22))) (l22 : K.lookup f22 = some ⟨oc22, od22, .func (PySem.W.fnOf "_law_steps" "_law_steps" (defArgs s__law_steps) (defBody s__law_steps) (defScope s__law_steps) .none kV22 dc22 pm22 an22 cd22 ct22), sl22⟩) (c22 : PySem.W.codeIn K cd22 "_law_steps" = true) (k22 : PySem.W.keepIn K (.ref f22) = true)
    (a23 : PySem.W.nsIn K mainGlobals "_law_drawn" = some (some (.ref f23))) (l23 : K.lookup f23 = some ⟨oc23, od23, .func (PySem.W.fnOf "_law_drawn" "_law_drawn" (defArgs s__law_drawn) (defBody s__law_drawn) (defScope s__law_drawn) .none kV23 dc23 pm23 an23 cd23 ct23), sl23⟩) (c23 : PySem.W.codeIn K cd23 "_law_drawn" = true) (k23 : PySem.W.keepIn K (.ref f23) = true)
    (a24 : PySem.W.nsIn K mainGlobals "_law_groups" = some (some (.ref f24))) (l24 : K.lookup f24 = some ⟨oc24, od24, .func (PySem.W.fnOf "_law_groups" "_law_groups" (defArgs s__law_groups) (defBody s__law_groups) (defScope s__law_groups) .none kV24 dc24 pm24 an24 cd24 ct24), sl24⟩) (c24 : PySem.W.codeIn K cd24 "_law_groups" = true) (k24 : PySem.W.keepIn K (.ref f24) = true)
    (a25 : PySem.W.nsIn K mainGlobals "_law_once" = some (some (.ref f25))) (l25 : K.lookup f25 = some ⟨oc25, od25, .func (PySem.W.fnOf "_law_once" "_law_once" (defArgs s__law_once) (defBody s__law_once) (defScope s__law_once) .none kV25 dc25 pm25 an25 cd25 ct25), sl25⟩) (c25 : PySem.W.codeIn K cd25 "_law_once" = true) (k25 : PySem.W.keepIn K (.ref f25) = true)
    (a26 : PySem.W.nsIn K mainGlobals "_law_greedy" = some (some (.ref f26))) (l26 : K.lookup f26 = some ⟨oc26, od26, .func (PySem.W.fnOf "_law_greedy" "_law_greedy" (defArgs s__law_greedy) (defBody s__law_greedy) (defScope s__law_greedy) .none kV26 dc26 pm26 an26 cd26 ct26), sl26⟩) (c26 : PySem.W.codeIn K cd26 "_law_greedy" = true) (k26 : PySem.W.keepIn K (.ref f26) = true)
    (a27 : PySem.W.nsIn K mainGlobals "_law_cut" = some (some (.ref f27))) (l27 : K.lookup f27 = some ⟨oc27, od27, .func (PySem.W.fnOf "_law_cut" "_law_cut" (defArgs s__law_cut) (defBody s__law_cut) (defScope s__law_cut) .none kV27 dc27 pm27 an27 cd27 ct27), sl27⟩) (c27 : PySem.W.codeIn K cd27 "_law_cut" = true) (k27 : PySem.W.keepIn K (.ref f27) = true)
    (a28 : PySem.W.nsIn K mainGlobals "_law_between" = some (some (.ref f28))) (l28 : K.lookup f28 = some ⟨oc28, od28, .func (PySem.W.fnOf "_law_between" "_law_between" (defArgs s__law_between) (defBody s__law_between) (defScope s__law_between) .none kV28 dc28 pm28 an28 cd28 ct28), sl28⟩) (c28 : PySem.W.codeIn K cd28 "_law_between" = true) (k28 : PySem.W.keepIn K (.ref f28) = true)
    (a29 : PySem.W.nsIn K mainGlobals "_law_rest" = some (some (.ref f29))) (l29 : K.lookup f29 = some ⟨oc29, od29, .func (PySem.W.fnOf "_law_rest" "_law_rest" (defArgs s__law_rest) (defBody s__law_rest) (defScope s__law_rest) .none kV29 dc29 pm29 an29 cd29 ct29), sl29⟩) (c29 : PySem.W.codeIn K cd29 "_law_rest" = true) (k29 : PySem.W.keepIn K (.ref f29) = true)
    (a30 : PySem.W.nsIn K mainGlobals "law" = some (some (.ref f30))) (l30 : K.lookup f30 = some ⟨oc30, od30, .func (PySem.W.fnOf "law" "law" (defArgs s_law) (defBody s_law) (defScope s_law) .none kV30 dc30 pm30 an30 cd30 ct30), sl30⟩) (c30 : PySem.W.codeIn K cd30 "law" = true) (k30 : PySem.W.keepIn K (.ref f30) = true)
    (z_abs : PySem.W.nsIn K mainGlobals "abs" = some none)
    (z_all : PySem.W.nsIn K mainGlobals "all" = some none)
    (z_bool : PySem.W.nsIn K mainGlobals "bool" = some none)
    (z_enumerate : PySem.W.nsIn K mainGlobals "enumerate" = some none)
    (z_int : PySem.W.nsIn K mainGlobals "int" = some none)
    (z_isinstance : PySem.W.nsIn K mainGlobals "isinstance" = some none)
    (z_len : PySem.W.nsIn K mainGlobals "len" = some none)
    (z_list : PySem.W.nsIn K mainGlobals "list" = some none)
    (z_range : PySem.W.nsIn K mainGlobals "range" = some none)
    (z_repr : PySem.W.nsIn K mainGlobals "repr" = some none)
    (z_set : PySem.W.nsIn K mainGlobals "set" = some none)
    (z_sorted : PySem.W.nsIn K mainGlobals "sorted" = some none)
    (z_sum : PySem.W.nsIn K mainGlobals "sum" = some none)
    (z_tuple : PySem.W.nsIn K mainGlobals "tuple" = some none)
    (z_zip : PySem.W.nsIn K mainGlobals "zip" = some none)
    {t_KEYS : Tok} (c_KEYS : PySem.W.nsIn K mainGlobals "KEYS" = some (some (.int 2 t_KEYS)))
    : ∃ fd : FuncData, (∀ (s : Shared) (v : Value), BindsTo s fd ⟨[v], []⟩ [("_law_script", v)]) ∧ ∀ base : Heap, K.In base → base.Ns mainGlobals mg → Gx.BmOk base mg → FnOk l.prog w K mg base CX0 20 fa fd ["_law_script"] (spOf K (G 20 30)) := by
  have e := hfa.symm.trans (PySem.W.mg_of X Gl a30)
  cases e
  have F0 := fun_mk (st := s_is_int) l0 c0 k0
  have b0 := F0.binds (ps := P_is_int) fun _ _ _ _ _ _ us hl => match us, hl with | [_], _ => rfl
  have F1 := fun_mk (st := s_is_within) l1 c1 k1
  have b1 := F1.binds (ps := P_is_within) fun _ _ _ _ _ _ us hl => match us, hl with | [_, _, _], _ => rfl
  have F2 := fun_mk (st := s_is_rising) l2 c2 k2
  have b2 := F2.binds (ps := P_is_rising) fun _ _ _ _ _ _ us hl => match us, hl with | [_], _ => rfl
  have F3 := fun_mk (st := s_are_rising_numbers) l3 c3 k3
  have b3 := F3.binds (ps := P_are_rising_numbers) fun _ _ _ _ _ _ us hl => match us, hl with | [_, _], _ => rfl
  have F4 := fun_mk (st := s_cam_place) l4 c4 k4
  have b4 := F4.binds (ps := P_cam_place) fun _ _ _ _ _ _ us hl => match us, hl with | [_], _ => rfl
  have F5 := fun_mk (st := s_end_cam) l5 c5 k5
  have b5 := F5.binds (ps := P_end_cam) fun _ _ _ _ _ _ us hl => match us, hl with | [_, _, _], _ => rfl
  have F6 := fun_mk (st := s_end_place) l6 c6 k6
  have b6 := F6.binds (ps := P_end_place) fun _ _ _ _ _ _ us hl => match us, hl with | [_, _, _], _ => rfl
  have F7 := fun_mk (st := s_pistons_of) l7 c7 k7
  have b7 := F7.binds (ps := P_pistons_of) fun _ _ _ _ _ _ us hl => match us, hl with | [_], _ => rfl
  have F8 := fun_mk (st := s_sides_of) l8 c8 k8
  have b8 := F8.binds (ps := P_sides_of) fun _ _ _ _ _ _ us hl => match us, hl with | [_, _], _ => rfl
  have F9 := fun_mk (st := s_between) l9 c9 k9
  have b9 := F9.binds (ps := P_between) fun _ _ _ _ _ _ us hl => match us, hl with | [_, _, _], _ => rfl
  have F10 := fun_mk (st := s_place_ahead) l10 c10 k10
  have b10 := F10.binds (ps := P_place_ahead) fun _ _ _ _ _ _ us hl => match us, hl with | [_, _, _, _], _ => rfl
  have F11 := fun_mk (st := s_is_cut) l11 c11 k11
  have b11 := F11.binds (ps := P_is_cut) fun _ _ _ _ _ _ us hl => match us, hl with | [_, _], _ => rfl
  have F12 := fun_mk (st := s_group_steps) l12 c12 k12
  have b12 := F12.binds (ps := P_group_steps) fun _ _ _ _ _ _ us hl => match us, hl with | [_, _, _], _ => rfl
  have F13 := fun_mk (st := s_no_piston_twice) l13 c13 k13
  have b13 := F13.binds (ps := P_no_piston_twice) fun _ _ _ _ _ _ us hl => match us, hl with | [_], _ => rfl
  have F14 := fun_mk (st := s_group_of) l14 c14 k14
  have b14 := F14.binds (ps := P_group_of) fun _ _ _ _ _ _ us hl => match us, hl with | [_, _, _], _ => rfl
  have F15 := fun_mk (st := s_rest_with) l15 c15 k15
  have b15 := F15.binds (ps := P_rest_with) fun _ _ _ _ _ _ us hl => match us, hl with | [_, _, _], _ => rfl
  have F16 := fun_mk (st := s_made_cut) l16 c16 k16
  have b16 := F16.binds (ps := P_made_cut) fun _ _ _ _ _ _ us hl => match us, hl with | [_, _], _ => rfl
  have F17 := fun_mk (st := s_group_rest) l17 c17 k17
  have b17 := F17.binds (ps := P_group_rest) fun _ _ _ _ _ _ us hl => match us, hl with | [_, _, _], _ => rfl
  have F18 := fun_mk (st := s__law_stream) l18 c18 k18
  have b18 := F18.binds (ps := P__law_stream) fun _ _ _ _ _ _ us hl => match us, hl with | [_, _], _ => rfl
  have F19 := fun_mk (st := s__law_take) l19 c19 k19
  have b19 := F19.binds (ps := P__law_take) fun _ _ _ _ _ _ us hl => match us, hl with | [_, _], _ => rfl
  have F20 := fun_mk (st := s__law_sections) l20 c20 k20
  have b20 := F20.binds (ps := P__law_sections) fun _ _ _ _ _ _ us hl => match us, hl with | [_, _], _ => rfl
  have F21 := fun_mk (st := s__law_moves) l21 c21 k21
  have b21 := F21.binds (ps := P__law_moves) fun _ _ _ _ _ _ us hl => match us, hl with | [_, _], _ => rfl
  have F22 := fun_mk (st := s__law_steps) l22 c22 k22
  have b22 := F22.binds (ps := P__law_steps) fun _ _ _ _ _ _ us hl => match us, hl with | [_, _, _], _ => rfl
  have F23 := fun_mk (st := s__law_drawn) l23 c23 k23
  have b23 := F23.binds (ps := P__law_drawn) fun _ _ _ _ _ _ us hl => match us, hl with | [_], _ => rfl
  have F24 := fun_mk (st := s__law_groups) l24 c24 k24
  have b24 := F24.binds (ps := P__law_groups) fun _ _ _ _ _ _ us hl => match us, hl with | [_, _], _ => rfl
  have F25 := fun_mk (st := s__law_once) l25 c25 k25
  have b25 := F25.binds (ps := P__law_once) fun _ _ _ _ _ _ us hl => match us, hl with | [_, _], _ => rfl
  have F26 := fun_mk (st := s__law_greedy) l26 c26 k26
  have b26 := F26.binds (ps := P__law_greedy) fun _ _ _ _ _ _ us hl => match us, hl with | [_, _], _ => rfl
  have F27 := fun_mk (st := s__law_cut) l27 c27 k27
  have b27 := F27.binds (ps := P__law_cut) fun _ _ _ _ _ _ us hl => match us, hl with | [_, _], _ => rfl
  have F28 := fun_mk (st := s__law_between) l28 c28 k28
  have b28 := F28.binds (ps := P__law_between) fun _ _ _ _ _ _ us hl => match us, hl with | [_, _, _], _ => rfl
  have F29 := fun_mk (st := s__law_rest) l29 c29 k29
  have b29 := F29.binds (ps := P__law_rest) fun _ _ _ _ _ _ us hl => match us, hl with | [_, _, _], _ => rfl
  have F30 := fun_mk (st := s_law) l30 c30 k30
  have b30 := F30.binds (ps := P_law) fun _ _ _ _ _ _ us hl => match us, hl with | [_], _ => rfl
  let f : Nat → Addr := fun i => match i with | 0 => f0 | 1 => f1 | 2 => f2 | 3 => f3 | 4 => f4 | 5 => f5 | 6 => f6 | 7 => f7 | 8 => f8 | 9 => f9 | 10 => f10 | 11 => f11 | 12 => f12 | 13 => f13 | 14 => f14 | 15 => f15 | 16 => f16 | 17 => f17 | 18 => f18 | 19 => f19 | 20 => f20 | 21 => f21 | 22 => f22 | 23 => f23 | 24 => f24 | 25 => f25 | 26 => f26 | 27 => f27 | 28 => f28 | 29 => f29 | 30 => fa | _ => fa
  let fd : Nat → FuncData := fun i => match i with | 0 => PySem.W.fnOf "is_int" "is_int" (defArgs s_is_int) (defBody s_is_int) (defScope s_is_int) .none kV0 dc0 pm0 an0 cd0 ct0 | 1 => PySem.W.fnOf "is_within" "is_within" (defArgs s_is_within) (defBody s_is_within) (defScope s_is_within) .none kV1 dc1 pm1 an1 cd1 ct1 | 2 => PySem.W.fnOf "is_rising" "is_rising" (defArgs s_is_rising) (defBody s_is_rising) (defScope s_is_rising) .none kV2 dc2 pm2 an2 cd2 ct2 | 3 => PySem.W.fnOf "are_rising_numbers" "are_rising_numbers" (defArgs s_are_rising_numbers) (defBody s_are_rising_numbers) (defScope s_are_rising_numbers) .none kV3 dc3 pm3 an3 cd3 ct3 | 4 => PySem.W.fnOf "cam_place" "cam_place" (defArgs s_cam_place) (defBody s_cam_place) (defScope s_cam_place) .none kV4 dc4 pm4 an4 cd4 ct4 | 5 => PySem.W.fnOf "end_cam" "end_cam" (defArgs s_end_cam) (defBody s_end_cam) (defScope s_end_cam) .none kV5 dc5 pm5 an5 cd5 ct5 | 6 => PySem.W.fnOf "end_place" "end_place" (defArgs s_end_place) (defBody s_end_place) (defScope s_end_place) .none kV6 dc6 pm6 an6 cd6 ct6 | 7 => PySem.W.fnOf "pistons_of" "pistons_of" (defArgs s_pistons_of) (defBody s_pistons_of) (defScope s_pistons_of) .none kV7 dc7 pm7 an7 cd7 ct7 | 8 => PySem.W.fnOf "sides_of" "sides_of" (defArgs s_sides_of) (defBody s_sides_of) (defScope s_sides_of) .none kV8 dc8 pm8 an8 cd8 ct8 | 9 => PySem.W.fnOf "between" "between" (defArgs s_between) (defBody s_between) (defScope s_between) .none kV9 dc9 pm9 an9 cd9 ct9 | 10 => PySem.W.fnOf "place_ahead" "place_ahead" (defArgs s_place_ahead) (defBody s_place_ahead) (defScope s_place_ahead) .none kV10 dc10 pm10 an10 cd10 ct10 | 11 => PySem.W.fnOf "is_cut" "is_cut" (defArgs s_is_cut) (defBody s_is_cut) (defScope s_is_cut) .none kV11 dc11 pm11 an11 cd11 ct11 | 12 => PySem.W.fnOf "group_steps" "group_steps" (defArgs s_group_steps) (defBody s_group_steps) (defScope s_group_steps) .none kV12 dc12 pm12 an12 cd12 ct12 | 13 => PySem.W.fnOf "no_piston_twice" "no_piston_twice" (defArgs s_no_piston_twice) (defBody s_no_piston_twice) (defScope s_no_piston_twice) .none kV13 dc13 pm13 an13 cd13 ct13 | 14 => PySem.W.fnOf "group_of" "group_of" (defArgs s_group_of) (defBody s_group_of) (defScope s_group_of) .none kV14 dc14 pm14 an14 cd14 ct14 | 15 => PySem.W.fnOf "rest_with" "rest_with" (defArgs s_rest_with) (defBody s_rest_with) (defScope s_rest_with) .none kV15 dc15 pm15 an15 cd15 ct15 | 16 => PySem.W.fnOf "made_cut" "made_cut" (defArgs s_made_cut) (defBody s_made_cut) (defScope s_made_cut) .none kV16 dc16 pm16 an16 cd16 ct16 | 17 => PySem.W.fnOf "group_rest" "group_rest" (defArgs s_group_rest) (defBody s_group_rest) (defScope s_group_rest) .none kV17 dc17 pm17 an17 cd17 ct17 | 18 => PySem.W.fnOf "_law_stream" "_law_stream" (defArgs s__law_stream) (defBody s__law_stream) (defScope s__law_stream) .none kV18 dc18 pm18 an18 cd18 ct18 | 19 => PySem.W.fnOf "_law_take" "_law_take" (defArgs s__law_take) (defBody s__law_take) (defScope s__law_take) .none kV19 dc19 pm19 an19 cd19 ct19 | 20 => PySem.W.fnOf "_law_sections" "_law_sections" (defArgs s__law_sections) (defBody s__law_sections) (defScope s__law_sections) .none kV20 dc20 pm20 an20 cd20 ct20 | 21 => PySem.W.fnOf "_law_moves" "_law_moves" (defArgs s__law_moves) (defBody s__law_moves) (defScope s__law_moves) .none kV21 dc21 pm21 an21 cd21 ct21 | 22 => PySem.W.fnOf "_law_steps" "_law_steps" (defArgs s__law_steps) (defBody s__law_steps) (defScope s__law_steps) .none kV22 dc22 pm22 an22 cd22 ct22 | 23 => PySem.W.fnOf "_law_drawn" "_law_drawn" (defArgs s__law_drawn) (defBody s__law_drawn) (defScope s__law_drawn) .none kV23 dc23 pm23 an23 cd23 ct23 | 24 => PySem.W.fnOf "_law_groups" "_law_groups" (defArgs s__law_groups) (defBody s__law_groups) (defScope s__law_groups) .none kV24 dc24 pm24 an24 cd24 ct24 | 25 => PySem.W.fnOf "_law_once" "_law_once" (defArgs s__law_once) (defBody s__law_once) (defScope s__law_once) .none kV25 dc25 pm25 an25 cd25 ct25 | 26 => PySem.W.fnOf "_law_greedy" "_law_greedy" (defArgs s__law_greedy) (defBody s__law_greedy) (defScope s__law_greedy) .none kV26 dc26 pm26 an26 cd26 ct26 | 27 => PySem.W.fnOf "_law_cut" "_law_cut" (defArgs s__law_cut) (defBody s__law_cut) (defScope s__law_cut) .none kV27 dc27 pm27 an27 cd27 ct27 | 28 => PySem.W.fnOf "_law_between" "_law_between" (defArgs s__law_between) (defBody s__law_between) (defScope s__law_between) .none kV28 dc28 pm28 an28 cd28 ct28 | 29 => PySem.W.fnOf "_law_rest" "_law_rest" (defArgs s__law_rest) (defBody s__law_rest) (defScope s__law_rest) .none kV29 dc29 pm29 an29 cd29 ct29 | 30 => PySem.W.fnOf "law" "law" (defArgs s_law) (defBody s_law) (defScope s_law) .none kV30 dc30 pm30 an30 cd30 ct30 | _ => PySem.W.fnOf "law" "law" (defArgs s_law) (defBody s_law) (defScope s_law) .none kV30 dc30 pm30 an30 cd30 ct30
  have T : Txt K mg f fd := ⟨F0, b0, PySem.W.mg_of X Gl a0, F1, b1, PySem.W.mg_of X Gl a1, F2, b2, PySem.W.mg_of X Gl a2, F3, b3, PySem.W.mg_of X Gl a3, g3, F4, b4, PySem.W.mg_of X Gl a4, F5, b5, PySem.W.mg_of X Gl a5, F6, b6, PySem.W.mg_of X Gl a6, F7, b7, PySem.W.mg_of X Gl a7, F8, b8, PySem.W.mg_of X Gl a8, F9, b9, PySem.W.mg_of X Gl a9, F10, b10, PySem.W.mg_of X Gl a10, F11, b11, PySem.W.mg_of X Gl a11, F12, b12, PySem.W.mg_of X Gl a12, F13, b13, PySem.W.mg_of X Gl a13, F14, b14, PySem.W.mg_of X Gl a14, F15, b15, PySem.W.mg_of X Gl a15, F16, b16, PySem.W.mg_of X Gl a16, F17, b17, PySem.W.mg_of X Gl a17, F18, b18, PySem.W.mg_of X Gl a18, F19, b19, PySem.W.mg_of X Gl a19, F20, b20, PySem.W.mg_of X Gl a20, F21, b21, PySem.W.mg_of X Gl a21, F22, b22, PySem.W.mg_of X Gl a22, F23, b23, PySem.W.mg_of X Gl a23, F24, b24, PySem.W.mg_of X Gl a24, F25, b25, PySem.W.mg_of X Gl a25, F26, b26, PySem.W.mg_of X Gl a26, F27, b27, PySem.W.mg_of X Gl a27, F28, b28, PySem.W.mg_of X Gl a28, F29, b29, PySem.W.mg_of X Gl a29, F30, b30, PySem.W.mg_of X Gl a30, PySem.W.mg_none_of X Gl z_abs, PySem.W.mg_none_of X Gl z_all, PySem.W.mg_none_of X Gl z_bool, PySem.W.mg_none_of X Gl z_enumerate, PySem.W.mg_none_of X Gl z_int, PySem.W.mg_none_of X Gl z_isinstance, PySem.W.mg_none_of X Gl z_len, PySem.W.mg_none_of X Gl z_list, PySem.W.mg_none_of X Gl z_range, PySem.W.mg_none_of X Gl z_repr, PySem.W.mg_none_of X Gl z_set, PySem.W.mg_none_of X Gl z_sorted, PySem.W.mg_none_of X Gl z_sum, PySem.W.mg_none_of X Gl z_tuple, PySem.W.mg_none_of X Gl z_zip, ⟨_, PySem.W.mg_of X Gl c_KEYS⟩⟩
  refine ⟨fd 30, fun s v => .of_eq rfl, fun base _ _ hb => ?_⟩
  exact all_ok (P := l.prog) (w := w) (base := base) T hb 20 30
theorem walk {l : PySem.W.OpenLaw} {q : Program} {loose : List Str} {XP : (Str → Option Value) → Heap → Prop} {YP : World → Heap → Prop} {d : DefRec} {K : Params → PySem.W.Frag} {names : List Str} (hn : l.most = some 63) (hdf : d.params.defaults = [])
    (hY : ∀ (w : World) (h : Heap), YP w h → (K w.params).In h) (hok : ∀ w : World, Gx.okTabs (K w.params) names = true) (hq : names.all (fun n => (PyProof.Rows.recsOf q).any fun d => d.name == n) = true)
    (F : ∀ (w : World) (mg : Str → Option Value) (fa : Addr) (h : Heap), (K w.params).In h → h.Ns mainGlobals mg → mg d.name = some (.ref fa) → ∃ fd : FuncData, (∀ (s : Shared) (u : Value), BindsTo s fd ⟨[u], []⟩ [("_law_script", u)]) ∧ ∀ base : Heap, (K w.params).In base → base.Ns mainGlobals mg → Gx.BmOk base mg → FnOk l.prog w (K w.params) mg base CX0 20 fa fd ["_law_script"] (spOf (K w.params) (G 20 30))) :
    PySem.W.WalkO q loose XP YP l.row.toRowW d [] (fun f vs => PySem.call f vs) :=
  L2.walk_ofT (n := 63) (k := 20) (x := "_law_script") (CX := fun _ => CX0) (sp := fun w => spOf (K w.params) (G 20 30)) hn (by decide) hdf ⟨rfl, by decide, by decide, rfl⟩ hY hok hq F (fun w H a ns hl hO hT hS => let ⟨_, e⟩ := law_true ns hl; sp_law hO hT hS e) fun _ _ _ _ _ z => z
end My
open PySem PySem.W PyProof.Rows
set_option maxRecDepth 100000 in
set_option maxHeartbeats 0 in
theorem PySem.Challenge.cw_pistonrounds_k40_rests_of_groups_holds : PySem.Challenge.rw_pistonrounds_k40_rests_of_groups.Holds := by
  w_on; o_law; k_head; (case hw => w_witness2)
  k_fill
  refine My.walk (l := PySem.Challenge.rw_pistonrounds_k40_rests_of_groups) (names := ["is_int", "is_within", "is_rising", "are_rising_numbers", "cam_place", "end_cam", "end_place", "pistons_of", "sides_of", "between", "place_ahead", "is_cut", "group_steps", "no_piston_twice", "group_of", "rest_with", "made_cut", "group_rest", "_law_stream", "_law_take", "_law_sections", "_law_moves", "_law_steps", "_law_drawn", "_law_groups", "_law_once", "_law_greedy", "_law_cut", "_law_between", "_law_rest", "law"]) rfl rfl (fun w h Y => PySem.W.kIn_of Y) ?hok ?hq ?F
  case hok => intro w; rfl
  case hq => rfl
  case F =>
    intro w mg fa h KX Gl hmg
    refine' My.all_mk KX Gl hmg ?a0 ?l0 ?c0 ?k0 ?a1 ?l1 ?c1 ?k1 ?a2 ?l2 ?c2 ?k2 ?a3 ?l3 ?c3 ?k3 ?g3 ?a4 ?l4 ?c4 ?k4 ?a5 ?l5 ?c5 ?k5 ?a6 ?l6 ?c6 ?k6 ?a7 ?l7 ?c7 ?k7 ?a8 ?l8 ?c8 ?k8 ?a9 ?l9 ?c9 ?k9 ?a10 ?l10 ?c10 ?k10 ?a11 ?l11 ?c11 ?k11 ?a12 ?l12 ?c12 ?k12 ?a13 ?l13 ?c13 ?k13 ?a14 ?l14 ?c14 ?k14 ?a15 ?l15 ?c15 ?k15 ?a16 ?l16 ?c16 ?k16 ?a17 ?l17 ?c17 ?k17 ?a18 ?l18 ?c18 ?k18 ?a19 ?l19 ?c19 ?k19 ?a20 ?l20 ?c20 ?k20 ?a21 ?l21 ?c21 ?k21 ?a22 ?l22 ?c22 ?k22 ?a23 ?l23 ?c23 ?k23 ?a24 ?l24 ?c24 ?k24 ?a25 ?l25 ?c25 ?k25 ?a26 ?l26 ?c26 ?k26 ?a27 ?l27 ?c27 ?k27 ?a28 ?l28 ?c28 ?k28 ?a29 ?l29 ?c29 ?k29 ?a30 ?l30 ?c30 ?k30 ?z_abs ?z_all ?z_bool ?z_enumerate ?z_int ?z_isinstance ?z_len ?z_list ?z_range ?z_repr ?z_set ?z_sorted ?z_sum ?z_tuple ?z_zip ?c_KEYS
    (case a0 => k_is); (case l0 => k_is); (case c0 => k_is); (case k0 => k_is)
    (case a1 => k_is); (case l1 => k_is); (case c1 => k_is); (case k1 => k_is)
    (case a2 => k_is); (case l2 => k_is); (case c2 => k_is); (case k2 => k_is)
    (case a3 => k_is); (case l3 => k_is); (case c3 => k_is); (case k3 => k_is); (case g3 => rfl)
    (case a4 => k_is); (case l4 => k_is); (case c4 => k_is); (case k4 => k_is)
    (case a5 => k_is); (case l5 => k_is); (case c5 => k_is); (case k5 => k_is)
    (case a6 => k_is); (case l6 => k_is); (case c6 => k_is); (case k6 => k_is)
    (case a7 => k_is); (case l7 => k_is); (case c7 => k_is); (case k7 => k_is)
    (case a8 => k_is); (case l8 => k_is); (case c8 => k_is); (case k8 => k_is)
    (case a9 => k_is); (case l9 => k_is); (case c9 => k_is); (case k9 => k_is)
    (case a10 => k_is); (case l10 => k_is); (case c10 => k_is); (case k10 => k_is)
    (case a11 => k_is); (case l11 => k_is); (case c11 => k_is); (case k11 => k_is)
    (case a12 => k_is); (case l12 => k_is); (case c12 => k_is); (case k12 => k_is)
    (case a13 => k_is); (case l13 => k_is); (case c13 => k_is); (case k13 => k_is)
    (case a14 => k_is); (case l14 => k_is); (case c14 => k_is); (case k14 => k_is)
    (case a15 => k_is); (case l15 => k_is); (case c15 => k_is); (case k15 => k_is)
    (case a16 => k_is); (case l16 => k_is); (case c16 => k_is); (case k16 => k_is)
    (case a17 => k_is); (case l17 => k_is); (case c17 => k_is); (case k17 => k_is)
    (case a18 => k_is); (case l18 => k_is); (case c18 => k_is); (case k18 => k_is)
    (case a19 => k_is); (case l19 => k_is); (case c19 => k_is); (case k19 => k_is)
    (case a20 => k_is); (case l20 => k_is); (case c20 => k_is); (case k20 => k_is)
    (case a21 => k_is); (case l21 => k_is); (case c21 => k_is); (case k21 => k_is)
    (case a22 => k_is); (case l22 => k_is); (case c22 => k_is); (case k22 => k_is)
    (case a23 => k_is); (case l23 => k_is); (case c23 => k_is); (case k23 => k_is)
    (case a24 => k_is); (case l24 => k_is); (case c24 => k_is); (case k24 => k_is)
    (case a25 => k_is); (case l25 => k_is); (case c25 => k_is); (case k25 => k_is)
    (case a26 => k_is); (case l26 => k_is); (case c26 => k_is); (case k26 => k_is)
    (case a27 => k_is); (case l27 => k_is); (case c27 => k_is); (case k27 => k_is)
    (case a28 => k_is); (case l28 => k_is); (case c28 => k_is); (case k28 => k_is)
    (case a29 => k_is); (case l29 => k_is); (case c29 => k_is); (case k29 => k_is)
    (case a30 => k_is); (case l30 => k_is); (case c30 => k_is); (case k30 => k_is)
    (case z_abs => k_is)
    (case z_all => k_is)
    (case z_bool => k_is)
    (case z_enumerate => k_is)
    (case z_int => k_is)
    (case z_isinstance => k_is)
    (case z_len => k_is)
    (case z_list => k_is)
    (case z_range => k_is)
    (case z_repr => k_is)
    (case z_set => k_is)
    (case z_sorted => k_is)
    (case z_sum => k_is)
    (case z_tuple => k_is)
    (case z_zip => k_is)
    (case c_KEYS => k_is)
#print axioms PySem.Challenge.cw_pistonrounds_k40_rests_of_groups_holds
