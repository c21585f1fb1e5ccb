import PyProof.Rows.All
import Wide.All
import OpenK.AllK
import Wide.FinOn
import PyProof.EqAt
import PyProof.EqKinds
import PyProof.TupleCall
import KE.BitLaws
import KE.KTabLook
import PySem.Challenge.RW_longwork_k19_written_and_read
set_option Elab.async false
set_option linter.all false
set_option maxRecDepth 100000
namespace L2
open PySem PySem.Spec PyProof.Rows
abbrev Key := Sum Int Str
def keyIs : Key → Value → Bool
  | .inl k, v => Value.isInt k v
  | .inr x, v => Value.isStrOf x v
def keyH (w : World) : Key → Int
  | .inl k => hashInt k
  | .inr x => hashStr w x
theorem keyIs_shape : ∀ {k : Key} {v : Value}, keyIs k v = true → (∃ i t, k = Sum.inl i ∧ v = Value.int i t) ∨ (∃ x t, k = Sum.inr x ∧ v = Value.str x t)
  | .inl i, v, h => by
    obtain ⟨t, e⟩ := Value.isInt_shape (k := i) (v := v) h
    exact .inl ⟨i, t, rfl, e⟩
  | .inr x, v, h => by
    obtain ⟨t, e⟩ := Value.isStrOf_shape (x := x) (v := v) h
    exact .inr ⟨x, t, rfl, e⟩
theorem key_ll (a b : Int) : decide ((Sum.inl a : Key) = Sum.inl b) = (a == b) := by
  by_cases e : a = b
  · subst e; simp
  · have h : ¬ (Sum.inl a : Key) = Sum.inl b := fun q => e (Sum.inl.inj q)
    rw [decide_eq_false h]
    exact (beq_eq_false_iff_ne.mpr e).symm
theorem key_rr (a b : Str) : decide ((Sum.inr a : Key) = Sum.inr b) = decide (a = b) := by
  by_cases e : a = b
  · subst e; simp
  · have h : ¬ (Sum.inr a : Key) = Sum.inr b := fun q => e (Sum.inr.inj q)
    rw [decide_eq_false h, decide_eq_false e]
theorem key_lr (a : Int) (b : Str) : decide ((Sum.inl a : Key) = Sum.inr b) = false := decide_eq_false (fun q => nomatch q)
theorem key_rl (a : Str) (b : Int) : decide ((Sum.inr a : Key) = Sum.inl b) = false := decide_eq_false (fun q => nomatch q)
def mixKind (prog : Program) (w : World) : PySem.KeyKind prog w Key where
  is := keyIs
  hash := keyH w
  inj := fun v a b ha hb => by
    rcases keyIs_shape ha with ⟨i, t, rfl, rfl⟩ | ⟨x, t, rfl, rfl⟩
    · rcases keyIs_shape hb with ⟨j, u, rfl, e⟩ | ⟨y, u, rfl, e⟩
      · injection e with e1 _; rw [e1]
      · exact nomatch e
    · rcases keyIs_shape hb with ⟨j, u, rfl, e⟩ | ⟨y, u, rfl, e⟩
      · exact nomatch e
      · injection e with e1 _; rw [e1]
  byValue := fun k v h => by
    rcases keyIs_shape h with ⟨i, t, rfl, rfl⟩ | ⟨x, t, rfl, rfl⟩ <;> rfl
  pyHash := fun hv h => by
    rcases keyIs_shape hv with ⟨i, t, rfl, rfl⟩ | ⟨x, t, rfl, rfl⟩
    · exact wpAny_pyHash_int h
    · exact wpAny_pyHash_str h
  eqBool := fun hu hv h => by
    rcases keyIs_shape hu with ⟨i, t, rfl, rfl⟩ | ⟨x, t, rfl, rfl⟩
    · rcases keyIs_shape hv with ⟨j, u, rfl, rfl⟩ | ⟨y, u, rfl, rfl⟩
      · rw [key_ll] at h; exact wpAny_eqBool_int h
      · rw [key_lr] at h; exact SeqAt.EqAt.int_str i t y u _ _ _ _ h
    · rcases keyIs_shape hv with ⟨j, u, rfl, rfl⟩ | ⟨y, u, rfl, rfl⟩
      · rw [key_rl] at h; exact SeqAt.EqAt.str_int x t j u _ _ _ _ h
      · rw [key_rr] at h; exact wpAny_eqBool_str h
  «strs» := fun k x t v h => by
    rcases keyIs_shape h with ⟨i, u, rfl, e⟩ | ⟨y, u, rfl, e⟩
    · exact nomatch e
    · injection e with e1 _
      subst e1
      cases v <;> rfl
end L2
namespace L2
open PySem PySem.Spec PyProof.Rows
inductive V where
  | non | bl (b : Bool) | int (i : Int) | str (x : Str) | byt (b : Array UInt8) | flt (b : UInt64) | ref (a : Addr) | ty (n : String)
  deriving DecidableEq
def RelV : V → Value → Prop
  | .non, u => u = Value.none
  | .bl b, u => u = Value.bool b
  | .int i, u => ∃ t, u = Value.int i t
  | .str x, u => ∃ t, u = Value.str x t
  | .byt b, u => ∃ t, u = Value.bytes b t
  | .flt b, u => ∃ t, u = Value.float b t
  | .ref a, u => u = Value.ref a
  | .ty n, u => u = Value.type n
abbrev Vals : List V → List Value → Prop := Paired RelV
theorem Vals.length {xs : List V} {us : List Value} (r : Vals xs us) : xs.length = us.length := Paired.length r
theorem Vals.get : ∀ {xs : List V} {us : List Value} {i : Nat} {x : V}, Vals xs us → xs[i]? = some x → ∃ u, us[i]? = some u ∧ RelV x u
  | _, _, _, _, .nil, e => by simp at e
  | _, _, 0, _, .cons r _, e => by simp at e; subst e; exact ⟨_, rfl, r⟩
  | _, _, i + 1, x, .cons _ t, e => by
    obtain ⟨u, h1, h2⟩ := Vals.get (i := i) (x := x) t (by simpa using e)
    exact ⟨u, by simpa using h1, h2⟩
theorem Vals.set {x : V} {u : Value} (r : RelV x u) : ∀ {xs : List V} {us : List Value} (i : Nat), Vals xs us → Vals (xs.set i x) (us.set i u)
  | _, _, _, .nil => .nil
  | _, _, 0, .cons _ t => .cons r t
  | _, _, i + 1, .cons q t => .cons q (Vals.set r i t)
theorem Vals.append : ∀ {xs ys : List V} {us ws : List Value}, Vals xs us → Vals ys ws → Vals (xs ++ ys) (us ++ ws)
  | _, _, _, _, .nil, s => s
  | _, _, _, _, .cons r t, s => .cons r (Vals.append t s)
theorem Vals.take : ∀ {xs : List V} {us : List Value} (n : Nat), Vals xs us → Vals (xs.take n) (us.take n)
  | _, _, 0, _ => .nil
  | _, _, _ + 1, .nil => .nil
  | _, _, n + 1, .cons r t => .cons r (Vals.take n t)
theorem Vals.drop : ∀ {xs : List V} {us : List Value} (n : Nat), Vals xs us → Vals (xs.drop n) (us.drop n)
  | _, _, 0, r => r
  | _, _, _ + 1, .nil => .nil
  | _, _, n + 1, .cons _ t => Vals.drop n t
def RelO : Option V → Option Value → Prop
  | some v, some u => RelV v u
  | none, none => True
  | _, _ => False
def KV {κ : Type} : List (κ × V) → List (κ × Value) → Prop := Paired fun (p : κ × V) (q : κ × Value) => p.1 = q.1 ∧ RelV p.2 q.2
def kV : Key → V
  | .inl i => .int i
  | .inr x => .str x
inductive HO where
  | lst (xs : List V)
  | tup (xs : List V)
  | dK (kvs : List (Key × V)) | dT (kvs : List (List Key × V))
  | set (S : Int → Bool) (n : Nat)
  | ins (C dx : Addr) (fs : List (Str × V))
  | own (x : Addr)
  | xd (fs : List (Str × V))
  | met (f x : Addr)
  | rng (lo hi : Int)
  | frz (o : Obj) (u : HO)
  | tbl (ps : Array Value)
  | ext (φ : Heap → Prop)
abbrev Hp := Addr → Option HO
def upd (H : Hp) (a : Addr) (o : HO) : Hp := fun b => if b = a then some o else H b
theorem upd_same {H : Hp} {a : Addr} {o : HO} : upd H a o a = some o := by unfold upd; rw [if_pos rfl]
theorem upd_ne {H : Hp} {a b : Addr} {o : HO} (h : b ≠ a) : upd H a o b = H b := by unfold upd; rw [if_neg h]
theorem ne_of {H : Hp} {a b : Addr} {o u : HO} (h : H a = some o) (h' : H b = some u) (d : o ≠ u) : a ≠ b := by
  intro e; subst e; rw [h] at h'; exact d (Option.some.inj h')
theorem ne_of_none {H : Hp} {a b : Addr} {o : HO} (h : H a = some o) (h' : H b = none) : a ≠ b := by
  intro e; subst e; rw [h] at h'; cases h'
section
variable (P : Program) (w : World)
def ObjOk (H : Hp) (h : Heap) (a : Addr) : HO → Prop
  | .lst xs => xs.length ≤ sizeLine ∧ ∃ (its : List Value) (n : Nat), Vals xs its ∧ h.get? a = some { cls := .type "list", data := .seq its.toArray n }
  | .tup xs => xs.length ≤ sizeLine ∧ ∃ its : List Value, Vals xs its ∧ IsTup h a its.toArray
  | .dK kvs => kvs.length ≤ sizeLine ∧ (a == sysModules) = false ∧ ∃ vs, KV kvs vs ∧ h.DictOf (mixKind P w) a vs
  | .dT kvs => kvs.length ≤ sizeLine ∧ (a == sysModules) = false ∧ ∃ xs : List (List Key × Addr × Value),
      Paired (fun (p : List Key × V) (q : List Key × Addr × Value) => p.1 = q.1 ∧ H q.2.1 = some (.tup (p.1.map kV)) ∧ RelV p.2 q.2.2) kvs xs ∧
      ∃ o es ep, h.get? a = some o ∧ o.ExactDict ∧ o.data = .dict es ep ∧ es.toList = xs.map (entryOfKey (tupleKind (mixKind P w))) ∧ (xs.map (·.1)).Nodup
  | .set S n => h.SetOf (intKind P w) a S n
  | .ins C dx fs => H dx = some (.own a) ∧ fs.length ≤ 1000 ∧ dx ≠ a ∧ h.get? a = some (PySem.W.instObj C dx) ∧
      ∃ mA, h.Ns1 dx mA ∧ (∀ f, RelO (fs.lookup f) (mA f)) ∧ PySem.Within mA (fs.map (·.1))
  | .own _ => ∃ o, h.get? a = some o
  | .xd fs => ∃ mA, h.Ns1 a mA ∧ ∀ f, RelO (fs.lookup f) (mA f)
  | .rng lo hi => ∃ t u v, h.get? a = some { cls := .type "range", data := .fields #[.int lo t, .int hi u, .int 1 v] }
  | .frz o u => h.get? a = some o ∧ ObjOk H h a u
  | .tbl ps => h.get? a = some { cls := .none, data := .fields ps }
  | .met f x => h.get? a = some (PySem.W.methodObj (.ref f) (.ref x))
  | .ext φ => φ h ∧ (∃ o, h.get? a = some o) ∧ ∀ h1 h2 : Heap, φ h1 → (∀ o, h1.get? a = some o → h2.get? a = some o) → φ h2
def HOk (H : Hp) (h : Heap) : Prop := ∀ a o, H a = some o → ObjOk P w H h a o
end
section
variable {P : Program} {w : World} {H H' : Hp} {h h' : Heap} {a : Addr} {o : HO}
theorem ObjOk.lt (x : ObjOk P w H h a o) : a < h.objs.size := by
  cases o with
  | lst xs => obtain ⟨_, _, _, _, e⟩ := x; exact Heap.lt_size e
  | tup xs => obtain ⟨_, _, _, p⟩ := x; exact p.lt
  | dK kvs => obtain ⟨_, _, _, _, o, _, _, e, _⟩ := x; exact Heap.lt_size e
  | dT kvs => obtain ⟨_, _, _, _, o, _, _, e, _⟩ := x; exact Heap.lt_size e
  | set S n => obtain ⟨o, _, _, _, e, _⟩ := x; exact Heap.lt_size e
  | ins C dx fs => obtain ⟨_, _, _, e, _⟩ := x; exact Heap.lt_size e
  | own y => obtain ⟨_, e⟩ := x; exact Heap.lt_size e
  | xd fs => obtain ⟨_, ⟨_, _, _, e, _⟩, _⟩ := x; exact Heap.lt_size e
  | rng lo hi => obtain ⟨_, _, _, e⟩ := x; exact Heap.lt_size e
  | frz ob u => obtain ⟨e, _⟩ := x; exact Heap.lt_size e
  | tbl ps => exact Heap.lt_size (show h.get? a = some _ from x)
  | met f y => exact Heap.lt_size (show h.get? a = some _ from x)
  | ext φ => obtain ⟨_, ⟨_, e⟩, _⟩ := x; exact Heap.lt_size e
theorem Paired.mapP {α β : Type} {F G : α → β → Prop} : ∀ {l₁ : List α} {l₂ : List β}, Paired F l₁ l₂ → (∀ a b, F a b → G a b) → Paired G l₁ l₂
  | _, _, .nil, _ => .nil
  | _, _, .cons r t, f => .cons (f _ _ r) (Paired.mapP t f)
theorem ObjOk.stay (x : ObjOk P w H h a o) (k : ∀ b u, (b = a ∨ H b = some (.own a)) → h.get? b = some u → h'.get? b = some u)
    (ho : ∀ b, H b = some (.own a) → H' b = some (.own a)) (ht : ∀ b xs, H b = some (.tup xs) → H' b = some (.tup xs)) : ObjOk P w H' h' a o := by
  induction o with
  | lst xs => obtain ⟨z, its, n, r, e⟩ := x; exact ⟨z, its, n, r, k _ _ (.inl rfl) e⟩
  | tup xs => obtain ⟨z, its, r, ob, e, c⟩ := x; exact ⟨z, its, r, ob, k _ _ (.inl rfl) e, c⟩
  | dK kvs => obtain ⟨z, y, vs, r, ob, es, ep, e, c⟩ := x; exact ⟨z, y, vs, r, ob, es, ep, k _ _ (.inl rfl) e, c⟩
  | dT kvs =>
    obtain ⟨z, y, xs, r, ob, es, ep, e, c⟩ := x
    exact ⟨z, y, xs, Paired.mapP r fun p q z => ⟨z.1, ht _ _ z.2.1, z.2.2⟩, ob, es, ep, k _ _ (.inl rfl) e, c⟩
  | set S n => obtain ⟨ob, es, ep, t, e, c⟩ := x; exact ⟨ob, es, ep, t, k _ _ (.inl rfl) e, c⟩
  | ins C dx fs =>
    obtain ⟨d, z, ne, e, mA, ⟨od, es, ep, e2, c⟩, r⟩ := x
    exact ⟨ho _ d, z, ne, k _ _ (.inl rfl) e, mA, ⟨od, es, ep, k _ _ (.inr d) e2, c⟩, r⟩
  | own y => obtain ⟨ob, e⟩ := x; exact ⟨ob, k _ _ (.inl rfl) e⟩
  | xd fs => obtain ⟨mA, ⟨od, es, ep, e, c⟩, r⟩ := x; exact ⟨mA, ⟨od, es, ep, k _ _ (.inl rfl) e, c⟩, r⟩
  | rng lo hi => obtain ⟨t, u, v, e⟩ := x; exact ⟨t, u, v, k _ _ (.inl rfl) e⟩
  | frz ob u ih => obtain ⟨e, q⟩ := x; exact ⟨k _ _ (.inl rfl) e, ih q⟩
  | tbl ps =>
    have e : h.get? a = some { cls := .none, data := .fields ps } := x
    show h'.get? a = some { cls := .none, data := .fields ps }
    exact k a _ (.inl rfl) e
  | met f y =>
    have e : h.get? a = some (PySem.W.methodObj (.ref f) (.ref y)) := x
    show h'.get? a = some (PySem.W.methodObj (.ref f) (.ref y))
    exact k a _ (.inl rfl) e
  | ext φ => obtain ⟨p, ⟨o, e⟩, st⟩ := x; exact ⟨st _ _ p fun o q => k _ _ (.inl rfl) q, ⟨o, k _ _ (.inl rfl) e⟩, st⟩
theorem HOk.lt (x : HOk P w H h) (e : H a = some o) : a < h.objs.size := (x a o e).lt
theorem HOk.fresh (x : HOk P w H h) (e : h.objs.size ≤ a) : H a = none := by
  cases q : H a with
  | none => rfl
  | some u => exact absurd (Nat.lt_of_lt_of_le (x.lt q) e) (Nat.lt_irrefl _)
theorem HOk.kept (x : HOk P w H h) (k : ∀ b u, h.get? b = some u → h'.get? b = some u) : HOk P w H h' := fun a o e =>
  (x a o e).stay (fun b u _ q => k b u q) (fun _ q => q) fun _ _ q => q
theorem HOk.laid (x : HOk P w H h) (k : ∀ b u, h.get? b = some u → h'.get? b = some u) (hp : h.objs.size ≤ a) (new : ObjOk P w (upd H a o) h' a o) : HOk P w (upd H a o) h' := fun b u e => by
  have hn := x.fresh hp
  by_cases hb : b = a
  · subst hb; rw [upd_same] at e; cases e; exact new
  · rw [upd_ne hb] at e
    exact (x b u e).stay (fun c v _ q => k c v q) (fun c q => by rw [upd_ne (ne_of_none q hn)]; exact q) fun c xs q => by rw [upd_ne (ne_of_none q hn)]; exact q
end
def Rd (H : Hp) (a : Addr) (u : HO) : Prop := H a = some u ∨ ∃ o, H a = some (.frz o u)
theorem Rd.of {H : Hp} {a : Addr} {u : HO} (h : H a = some u) : Rd H a u := .inl h
theorem Rd.ok {P : Program} {w : World} {H : Hp} {h : Heap} {a : Addr} {u : HO} (r : Rd H a u) (x : HOk P w H h) : ObjOk P w H h a u := by
  rcases r with r | ⟨o, r⟩
  · exact x a u r
  · obtain ⟨_, q⟩ := x a _ r
    exact q
def Mut : Option HO → Prop
  | some (.lst _) => True
  | some (.dK _) => True
  | some (.dT _) => True
  | some (.set _ _) => True
  | some (.ins _ _ _) => True
  | some (.ext _) => True
  | _ => False
section
variable {P : Program} {w : World} {H : Hp} {h h' : Heap} {x e : Addr} {o' : HO}
theorem HOk.write (ok : HOk P w H h) (mu : Mut (H x)) (he : e = x ∨ H e = some (.own x)) (k : ∀ b u, b ≠ e → h.get? b = some u → h'.get? b = some u) (heo : ∃ u, h'.get? e = some u)
    (new : ObjOk P w (upd H x o') h' x o') : HOk P w (upd H x o') h' := fun b u q => by
  have nown : ∀ c y, H c = some (.own y) → c ≠ x := fun c y r z => by subst z; rw [r] at mu; exact mu
  have ntup : ∀ c xs, H c = some (.tup xs) → c ≠ x := fun c xs r z => by subst z; rw [r] at mu; exact mu
  by_cases hb : b = x
  · subst hb; rw [upd_same] at q; cases q; exact new
  · rw [upd_ne hb] at q
    by_cases hbe : b = e
    · have q' : H b = some (.own x) := by
        rcases he with z | z
        · exact absurd (hbe.trans z) hb
        · rw [hbe]; exact z
      rw [q] at q'; cases q'
      obtain ⟨v, hv⟩ := heo
      exact ⟨v, by rw [hbe]; exact hv⟩
    · refine (ok b u q).stay (fun c v hc r => k c v ?_ r) (fun c r => by rw [upd_ne (nown c b r)]; exact r) fun c xs r => by rw [upd_ne (ntup c xs r)]; exact r
      rcases hc with rfl | hc
      · exact hbe
      · rintro rfl
        rcases he with z | z
        · exact nown c b hc z
        · rw [hc] at z; cases z; exact hb rfl
end
structure Un (fs ex : List Addr) (H H' : Hp) (h h' : Heap) : Prop where
  keep : ∀ b o, h.get? b = some o → H b = none → b ∉ fs → b ∉ ex → h'.get? b = some o
  slot : ∀ b o, h.get? b = some o → H b = none → b ∈ fs → b ∉ ex → ∃ sl, h'.get? b = some { o with slots := sl }
  free : ∀ b o, h.get? b = some o → H b = none → b ∉ ex → H' b = none
  there : ∀ b o, h.get? b = some o → b ∉ ex → ∃ o', h'.get? b = some o'
  tups : ∀ b xs, H b = some (.tup xs) → H' b = some (.tup xs)
  frzs : ∀ b o u, H b = some (.frz o u) → H' b = some (.frz o u)
  tbls : ∀ b ps, H b = some (.tbl ps) → ∃ more, H' b = some (.tbl (ps ++ more))
section
variable {fs fs' ex ex' : List Addr} {H H1 H2 : Hp} {h h1 h2 h' : Heap} {a x e : Addr} {o : HO}
theorem Un.any (u : Un fs ex H H1 h h1) {b : Addr} {ob : Obj} (q : h.get? b = some ob) (n : H b = none) (hx : b ∉ ex) : ∃ sl, h1.get? b = some { ob with slots := sl } := by
  by_cases hb : b ∈ fs
  · exact u.slot b ob q n hb hx
  · exact ⟨ob.slots, u.keep b ob q n hb hx⟩
theorem Un.trans (a : Un fs ex H H1 h h1) (b : Un fs ex H1 H2 h1 h2) : Un fs ex H H2 h h2 where
  keep := fun c ob q n hc hx => b.keep c ob (a.keep c ob q n hc hx) (a.free c ob q n hx) hc hx
  slot := fun c ob q n hc hx => by
    obtain ⟨sl, e1⟩ := a.slot c ob q n hc hx
    obtain ⟨sl', e2⟩ := b.slot c _ e1 (a.free c ob q n hx) hc hx
    exact ⟨sl', e2⟩
  free := fun c ob q n hx => by
    obtain ⟨o', e1⟩ := a.there c ob q hx
    exact b.free c o' e1 (a.free c ob q n hx) hx
  there := fun c ob q hx => by
    obtain ⟨o', e1⟩ := a.there c ob q hx
    exact b.there c o' e1 hx
  tups := fun c xs q => b.tups c xs (a.tups c xs q)
  frzs := fun c ob xs q => b.frzs c ob xs (a.frzs c ob xs q)
  tbls := fun c ps q => by
    obtain ⟨m1, e1⟩ := a.tbls c ps q
    obtain ⟨m2, e2⟩ := b.tbls c _ e1
    exact ⟨m1 ++ m2, by rw [e2, Array.append_assoc]⟩
theorem Un.kept (k : ∀ b u, h.get? b = some u → h'.get? b = some u) : Un fs ex H H h h' :=
  ⟨fun b ob q _ _ _ => k b ob q, fun b ob q _ _ _ => ⟨ob.slots, k b ob q⟩, fun _ _ _ n _ => n, fun b ob q _ => ⟨ob, k b ob q⟩, fun _ _ q => q, fun _ _ _ q => q, fun _ ps q => ⟨#[], by rw [q]; simp⟩⟩
theorem Un.refl : Un fs ex H H h h := Un.kept fun _ _ q => q
theorem Un.laid (k : ∀ b u, h.get? b = some u → h'.get? b = some u) (hp : h.objs.size ≤ a) (hn : H a = none) : Un fs ex H (upd H a o) h h' where
  keep := fun b u q _ _ _ => k b u q
  slot := fun b u q _ _ _ => ⟨u.slots, k b u q⟩
  free := fun b u q n _ => by rw [upd_ne (Nat.ne_of_lt (Nat.lt_of_lt_of_le (Heap.lt_size q) hp))]; exact n
  there := fun b u q _ => ⟨u, k b u q⟩
  tups := fun b xs q => by rw [upd_ne (ne_of_none q hn)]; exact q
  frzs := fun b u xs q => by rw [upd_ne (ne_of_none q hn)]; exact q
  tbls := fun b ps q => ⟨#[], by rw [upd_ne (ne_of_none q hn), q]; simp⟩
theorem Un.write (mu : Mut (H x)) (he : e = x ∨ H e = some (.own x)) (k : ∀ b u, b ≠ e → h.get? b = some u → h'.get? b = some u) (heo : ∃ u, h'.get? e = some u) : Un fs ex H (upd H x o) h h' := by
  have hx : ∀ b, H b = none → b ≠ x := fun b n z => by subst z; rw [n] at mu; exact mu
  have hb : ∀ b, H b = none → b ≠ e := fun b n z => by
    subst z
    rcases he with r | r
    · exact hx b n r
    · rw [n] at r; cases r
  have hm : ∀ b u, H b = some u → ¬ Mut (some u) → b ≠ x := fun b u q nm z => by subst z; rw [q] at mu; exact nm mu
  refine ⟨fun b u q n _ _ => k b u (hb b n) q, fun b u q n _ _ => ⟨u.slots, k b u (hb b n) q⟩, fun b u q n _ => by rw [upd_ne (hx b n)]; exact n, fun b u q _ => ?_,
    fun b xs q => by rw [upd_ne (hm b _ q fun z => z)]; exact q, fun b u xs q => by rw [upd_ne (hm b _ q fun z => z)]; exact q, fun b ps q => ⟨#[], by rw [upd_ne (hm b _ q fun z => z), q]; simp⟩⟩
  by_cases hbe : b = e
  · subst hbe; exact heo
  · exact ⟨u, k b u hbe q⟩
theorem Un.mono (u : Un fs ex H H1 h h1) (hs : ∀ b ∈ fs, b ∈ fs') (hx : ∀ b ∈ ex, b ∈ ex') : Un fs' ex' H H1 h h1 :=
  ⟨fun b ob q n hb he => u.keep b ob q n (fun z => hb (hs b z)) fun z => he (hx b z), fun _ _ q n _ he => u.any q n fun z => he (hx _ z), fun b ob q n he => u.free b ob q n fun z => he (hx b z), fun b ob q he => u.there b ob q fun z => he (hx b z), u.tups, u.frzs, u.tbls⟩
end
def trk (h : Heap) (H : Hp) : List Addr := (List.range h.objs.size).filter fun a => (H a).isSome
def hidT (h : Heap) (H : Hp) : Heap := PySem.W.hideAll h (trk h H)
theorem hidT_size (h : Heap) (H : Hp) : (hidT h H).objs.size = h.objs.size := PySem.W.hideAll_size _ _
theorem hidT_get {h : Heap} {H : Hp} {b : Addr} {o : Obj} (e : h.get? b = some o) (n : H b = none) : (hidT h H).get? b = some o :=
  PySem.W.hideAll_get _ e fun hm => by
    have q : (H b).isSome = true := (List.mem_filter.mp hm).2
    rw [n] at q; simp at q
theorem of_hidT {h : Heap} {H : Hp} {b : Addr} {o : Obj} (e : (hidT h H).get? b = some o) : h.get? b = some o ∧ H b = none := by
  have e' : h.get? b = some o := PySem.W.of_hideAll (trk h H) e
  refine ⟨e', ?_⟩
  cases q : H b with
  | none => rfl
  | some x =>
    have hm : b ∈ trk h H := List.mem_filter.mpr ⟨List.mem_range.mpr (Heap.lt_size e'), by simp [q]⟩
    have z : (hidT h H).get? b = none := PySem.W.hideAll_none (trk h H) hm
    rw [z] at e; cases e
def allNews (g h : Heap) (L : Addr) : List (Addr × Obj) := (List.range h.objs.size).filterMap fun a => if a = L ∨ (g.get? a).isSome = true then none else (h.get? a).map fun o => (a, o)
def rest (g h : Heap) (L d : Addr) : List (Addr × Obj) := (allNews g h L).filter fun p => decide (p.1 ≠ d)
end L2
namespace L2
open PySem PySem.Spec PyProof.Rows
structure Mod (K : PySem.W.Frag) (mg : Str → Option Value) (base : Heap) : Prop where
  kin : K.In base
  glob : base.Ns mainGlobals mg
  blt : ∃ mb, base.Ns builtinsNs mb ∧ ∀ x : Str, x ≠ "__name__" → mb x = bootBuiltins x
  nolimit : base.NoLimit
structure Cx where
  prog : Program
  w : World
  K : PySem.W.Frag
  mg : Str → Option Value
  base : Heap
  A : Around
  N : List Str
  s_0 : Shared
  H_0 : Hp
  env : Env
  outer : List Env
  stack : List Env
  ex : List Addr
  fn : Str → Bool
  calm : Bool
  pn : List (Addr × Obj)
  xe : Value → Shared → Prop
def frs (l : List Env) : List Addr := l.filterMap (·.frame)
abbrev Cx.fs (X : Cx) : List Addr := frs X.outer
def Vis (sc : Scope) (x : Str) : Prop := sc.names.lookup x = some .local ∨ sc.names.lookup x = some .cell ∨ sc.names.lookup x = some .free
def Loc (sc : Scope) (x : Str) : Prop := sc.names.lookup x = some .local ∨ sc.names.lookup x = some .cell
def Look (env : Env) (h : Heap) (m : Str → Option Value) (x : Str) (u : Value) : Prop :=
  (env.kindOf x = some .local ∧ m x = some u) ∨ ((env.kindOf x = some .cell ∨ env.kindOf x = some .free) ∧ ∃ c, env.cells.lookup x = some c ∧ h.IsCell c (some u))
structure Cx.Ok (X : Cx) : Prop where
  mod : Mod X.K X.mg X.base
  kind : X.env.scope.kind = .function
  glob : X.env.globals = mainGlobals
  blt : X.env.builtins = builtinsNs
  above : X.s_0.heap.objs.size ≤ X.env.locals
  inj : ∀ x y c, X.env.cells.lookup x = some c → X.env.cells.lookup y = some c → x = y
  has : ∀ x, (X.env.kindOf x = some .cell ∨ X.env.kindOf x = some .free) → ∃ c, X.env.cells.lookup x = some c
  cab : ∀ x c, X.fn x = true → X.env.cells.lookup x = some c → X.s_0.heap.objs.size ≤ c
  hd : X.calm = true → X.A.handled = none
  frames : X.A.frames = some X.stack
  stk : X.stack = X.outer ∨ (X.stack = X.env :: X.outer ∧ X.env.frame = some X.env.locals)
  exf : ∀ b ∈ X.ex, b ≠ X.env.locals ∧ ∀ x c, X.env.cells.lookup x = some c → c ≠ b
  bs : ∀ b o, X.base.get? b = some o → X.s_0.heap.get? b = some o ∧ X.H_0 b = none
  bsz : X.base.objs.size ≤ X.s_0.heap.objs.size
  noex : ∀ b o, X.base.get? b = some o → b ∉ X.ex
  exfs : ∀ b ∈ X.ex, b ∉ X.fs
  funs : X.s_0.heap.FunFrames X.base X.outer
  frf : ∀ b ∈ X.fs, X.H_0 b = none
structure Inv (X : Cx) (pins : List (Addr × Obj)) (σ : List (Option V)) (H : Hp) (s : Shared) : Prop where
  ok : X.Ok
  os : s.os = X.s_0.os
  bare : AllBare s.gens
  base : Un X.fs X.ex X.H_0 H X.s_0.heap s.heap
  loc : ∃ m, s.heap.Ns X.env.locals m ∧ ∀ (i : Nat) (x : Str) (v : V), X.N[i]? = some x → σ[i]? = some (some v) → Vis X.env.scope x → ∃ u, RelV v u ∧ Look X.env s.heap m x u
  cell : ∀ x c, X.env.cells.lookup x = some c → ∃ v, s.heap.IsCell c v
  free : H X.env.locals = none
  freeC : ∀ x c, X.env.cells.lookup x = some c → H c = none
  pin : ∀ p ∈ X.pn ++ pins, s.heap.get? p.1 = some p.2 ∧ H p.1 = none ∧ p.1 ≠ X.env.locals ∧ p.1 ∉ X.fs ∧ ∀ v, p.2.data ≠ .cell v
  hok : HOk X.prog X.w H s.heap
  len : σ.length = X.N.length
section
variable {X : Cx} {pins : List (Addr × Obj)} {σ : List (Option V)} {H H' : Hp} {s : Shared} {h' : Heap}
theorem Cx.Ok.nofr (ok : X.Ok) {b : Addr} {o : Obj} (e : X.base.get? b = some o) : b ∉ X.fs := fun hb => by
  have := (ok.funs.mem hb).1
  rw [e] at this; cases this
theorem Inv.bs (I : Inv X pins σ H s) : ∀ b o, X.base.get? b = some o → s.heap.get? b = some o ∧ H b = none := fun b o e =>
  ⟨I.base.keep b o (I.ok.bs b o e).1 (I.ok.bs b o e).2 (I.ok.nofr e) (I.ok.noex b o e), I.base.free b o (I.ok.bs b o e).1 (I.ok.bs b o e).2 (I.ok.noex b o e)⟩
theorem Inv.bk (I : Inv X pins σ H s) : ∀ b o, X.base.get? b = some o → s.heap.get? b = some o := fun b o e => (I.bs b o e).1
theorem Inv.mod (I : Inv X pins σ H s) : Mod X.K X.mg X.base := I.ok.mod
theorem Inv.kIn (I : Inv X pins σ H s) : X.K.In s.heap := I.ok.mod.kin.keeps I.bk
theorem Inv.nolimit (I : Inv X pins σ H s) : s.heap.NoLimit := I.ok.mod.nolimit.keeps I.bk
theorem Inv.fr (I : Inv X pins σ H s) : ∃ m, Fr X.base X.env.locals s.heap m :=
  let ⟨m, hn, _⟩ := I.loc
  ⟨m, hn, I.bk, Nat.le_trans I.ok.bsz I.ok.above⟩
theorem Inv.lt (I : Inv X pins σ H s) : X.env.locals < s.heap.objs.size := let ⟨_, hn, _⟩ := I.loc; hn.lt
theorem Inv.sz (I : Inv X pins σ H s) : X.s_0.heap.objs.size ≤ s.heap.objs.size := Nat.le_trans I.ok.above (Nat.le_of_lt I.lt)
theorem Inv.nofs (I : Inv X pins σ H s) {a : Addr} (h : s.heap.objs.size ≤ a) : a ∉ X.fs := fun hb => by
  obtain ⟨_, o, ho, _⟩ := I.ok.funs.mem hb
  exact absurd (Nat.lt_of_lt_of_le (Heap.lt_size ho) (Nat.le_trans I.sz h)) (Nat.lt_irrefl _)
theorem Inv.cne (I : Inv X pins σ H s) : ∀ x c, X.env.cells.lookup x = some c → c ≠ X.env.locals := fun x c e z => by
  obtain ⟨v, o, ho, hd⟩ := I.cell x c e
  obtain ⟨m, ⟨o', es, ep, ho', hd', _⟩, _⟩ := I.loc
  rw [z, ho'] at ho; cases ho; rw [hd'] at hd; cases hd
theorem Inv.funs (I : Inv X pins σ H s) : s.heap.FunFrames X.base X.outer := by
  have all : ∀ (l : List Env), (∀ b ∈ frs l, b ∈ X.fs) → X.s_0.heap.FunFrames X.base l → s.heap.FunFrames X.base l := by
    intro l
    induction l with
    | nil => intro _ _; trivial
    | cons env r ih =>
      intro hs hl
      obtain ⟨hk, ⟨L, o, hf, hn, ho, hd⟩, hr⟩ := hl
      have hL : L ∈ X.fs := hs L (by unfold frs; rw [List.filterMap_cons, hf]; exact List.mem_cons_self)
      obtain ⟨sl, e⟩ := I.base.slot L o ho (I.ok.frf L hL) hL fun z => I.ok.exfs L z hL
      exact ⟨hk, ⟨L, _, hf, hn, e, hd⟩, ih (fun b hb => hs b (by unfold frs; rw [List.filterMap_cons, hf]; exact List.mem_cons_of_mem _ hb)) hr⟩
  exact all X.outer (fun _ hb => hb) I.ok.funs
theorem Inv.stack (I : Inv X pins σ H s) : s.heap.FunFrames X.base X.stack := by
  rcases I.ok.stk with e | ⟨e, hf⟩
  · rw [e]; exact I.funs
  · rw [e]
    obtain ⟨m, hn, _⟩ := I.loc
    refine .cons (by rw [I.ok.kind]; decide) hf hn ?_ I.funs
    exact Heap.get?_none_of_le (Nat.le_trans I.ok.bsz I.ok.above)
theorem Inv.stkSub (I : Inv X pins σ H s) : ∀ b ∈ frs X.stack, b ∈ X.env.locals :: X.fs := fun b hb => by
  rcases I.ok.stk with e | ⟨e, hf⟩
  · rw [e] at hb; exact List.mem_cons_of_mem _ hb
  · rw [e] at hb
    unfold frs at hb
    rw [List.filterMap_cons, hf] at hb
    exact hb
theorem Inv.stkFree (I : Inv X pins σ H s) : ∀ b ∈ frs X.stack, H b = none := fun b hb => by
  rcases List.mem_cons.mp (I.stkSub b hb) with e | hb
  · rw [e]; exact I.free
  · obtain ⟨_, o, ho, _⟩ := I.ok.funs.mem hb
    exact I.base.free b o ho (I.ok.frf b hb) fun z => I.ok.exfs b z hb
theorem Inv.step {g' : Array GenState} {t' : Nat} {d' : Drawn} {ch : List Addr} (I : Inv X pins σ H s)
    (hch : ∀ b ∈ ch, (b ∈ X.ex ∨ X.s_0.heap.objs.size ≤ b) ∧ b ≠ X.env.locals ∧ (∀ x c, X.env.cells.lookup x = some c → c ≠ b) ∧ ∀ p ∈ X.pn ++ pins, p.1 ≠ b)
    (keep : ∀ b o, b ≠ X.env.locals → b ∉ X.fs → b ∉ ch → s.heap.get? b = some o → H b = none → h'.get? b = some o)
    (slot : ∀ b o, b ≠ X.env.locals → b ∈ X.fs → b ∉ ch → s.heap.get? b = some o → H b = none → ∃ sl, h'.get? b = some { o with slots := sl }) (free : ∀ b o, b ∉ ch → s.heap.get? b = some o → H b = none → H' b = none)
    (there : ∀ b o, b ∉ ch → s.heap.get? b = some o → ∃ o', h'.get? b = some o')
    (tups : ∀ b xs, H b = some (.tup xs) → H' b = some (.tup xs)) (frzs : ∀ b o u, H b = some (.frz o u) → H' b = some (.frz o u)) (tbls : ∀ b ps, H b = some (.tbl ps) → ∃ more, H' b = some (.tbl (ps ++ more)))
    (ns : ∀ m, s.heap.Ns X.env.locals m → h'.Ns X.env.locals m) (hok : HOk X.prog X.w H' h') (hg : AllBare g') :
    Inv X pins σ H' { s with heap := h', gens := g', drawn := d', toks := t' } := by
  have neL : ∀ b o, X.s_0.heap.get? b = some o → b ≠ X.env.locals := fun b o e => Nat.ne_of_lt (Nat.lt_of_lt_of_le (Heap.lt_size e) I.ok.above)
  have neC : ∀ b o, X.s_0.heap.get? b = some o → b ∉ X.ex → b ∉ ch := fun b o e hx hb => by
    rcases (hch b hb).1 with z | z
    · exact hx z
    · exact absurd (Nat.lt_of_lt_of_le (Heap.lt_size e) z) (Nat.lt_irrefl _)
  have cellK : ∀ x c, X.env.cells.lookup x = some c → ∀ v, s.heap.IsCell c v → h'.IsCell c v := fun x c e v ⟨o, ho, hd⟩ => by
    have nch : c ∉ ch := fun z => (hch c z).2.2.1 x c e rfl
    by_cases hc : c ∈ X.fs
    · obtain ⟨sl, q⟩ := slot c o (I.cne x c e) hc nch ho (I.freeC x c e)
      exact ⟨_, q, hd⟩
    · exact ⟨o, keep c o (I.cne x c e) hc nch ho (I.freeC x c e), hd⟩
  refine ⟨I.ok, I.os, hg, ⟨fun b o e n hb hx => ?_, fun b o e n hb hx => ?_, fun b o e n hx => ?_, fun b o e hx => ?_, fun b xs e => tups b xs (I.base.tups b xs e), fun b o xs e => frzs b o xs (I.base.frzs b o xs e), fun b ps e => ?_⟩, ?_, fun x c e => ?_, ?_, fun x c e => ?_, fun p hp => ?_, hok, I.len⟩
  · exact keep b o (neL b o e) hb (neC b o e hx) (I.base.keep b o e n hb hx) (I.base.free b o e n hx)
  · obtain ⟨sl, e1⟩ := I.base.slot b o e n hb hx
    obtain ⟨sl', e2⟩ := slot b _ (neL b o e) hb (neC b o e hx) e1 (I.base.free b o e n hx)
    exact ⟨sl', e2⟩
  · obtain ⟨o', e1⟩ := I.base.there b o e hx
    exact free b o' (neC b o e hx) e1 (I.base.free b o e n hx)
  · obtain ⟨o', e1⟩ := I.base.there b o e hx
    exact there b o' (neC b o e hx) e1
  · obtain ⟨m1, e1⟩ := I.base.tbls b ps e
    obtain ⟨m2, e2⟩ := tbls b _ e1
    exact ⟨m1 ++ m2, by rw [e2, Array.append_assoc]⟩
  · obtain ⟨m, hn, hl⟩ := I.loc
    refine ⟨m, ns m hn, fun i x v e1 e2 e3 => ?_⟩
    obtain ⟨u, r, l⟩ := hl i x v e1 e2 e3
    refine ⟨u, r, ?_⟩
    rcases l with l | ⟨k, c, e, z⟩
    · exact .inl l
    · exact .inr ⟨k, c, e, cellK x c e _ z⟩
  · obtain ⟨v, z⟩ := I.cell x c e
    exact ⟨v, cellK x c e v z⟩
  · obtain ⟨m, ⟨o, _, _, ho, _⟩, _⟩ := I.loc
    exact free _ o (fun z => (hch _ z).2.1 rfl) ho I.free
  · obtain ⟨v, o, ho, hd⟩ := I.cell x c e
    exact free c o (fun z => (hch c z).2.2.1 x c e rfl) ho (I.freeC x c e)
  · obtain ⟨e, n, ne, nf, d⟩ := I.pin p hp
    have nch : p.1 ∉ ch := fun z => (hch p.1 z).2.2.2 p hp rfl
    exact ⟨keep p.1 p.2 ne nf nch e n, free p.1 p.2 nch e n, ne, nf, d⟩
theorem Inv.un {t' : Nat} (I : Inv X pins σ H s) (u : Un X.fs [] H H' s.heap h') (hok : HOk X.prog X.w H' h') : Inv X pins σ H' { s with heap := h', toks := t' } := by
  obtain ⟨m, ⟨o, es, ep, ho, r⟩, _⟩ := id I.loc
  obtain ⟨sl, hL⟩ := u.any ho I.free (by simp)
  exact I.step (g' := s.gens) (d' := s.drawn) (ch := []) (fun _ z => nomatch z) (fun b o _ hb _ e n => u.keep b o e n hb (by simp)) (fun b o _ hb _ e n => u.slot b o e n hb (by simp)) (fun b o _ e n => u.free b o e n (by simp)) (fun b o _ e => u.there b o e (by simp)) u.tups u.frzs u.tbls (fun m' hm => by
    obtain ⟨o', es', ep', ho', r'⟩ := hm
    rw [ho] at ho'; cases ho'
    exact ⟨_, es', ep', hL, r'⟩) hok I.bare
theorem Inv.call {g' : Array GenState} {t' : Nat} {d' : Drawn} {ch : List Addr} (I : Inv X pins σ H s) (u : Un (frs X.stack) ch H H' s.heap h') (hok : HOk X.prog X.w H' h') (hg : AllBare g')
    (hch : ∀ b ∈ ch, (b ∈ X.ex ∨ X.s_0.heap.objs.size ≤ b) ∧ b ≠ X.env.locals ∧ (∀ x c, X.env.cells.lookup x = some c → c ≠ b) ∧ ∀ p ∈ X.pn ++ pins, p.1 ≠ b) :
    Inv X pins σ H' { s with heap := h', gens := g', drawn := d', toks := t' } := by
  obtain ⟨m, ⟨o, es, ep, ho, r⟩, _⟩ := id I.loc
  obtain ⟨sl, hL⟩ := u.any ho I.free fun z => (hch _ z).2.1 rfl
  exact I.step (ch := ch) hch (fun b o hL hb hc e n => u.keep b o e n (fun z => (List.mem_cons.mp (I.stkSub b z)).elim hL hb) hc) (fun b o _ _ hc e n => u.any e n hc) (fun b o hc e n => u.free b o e n hc) (fun b o hc e => u.there b o e hc) u.tups u.frzs u.tbls (fun m' hm => by
    obtain ⟨o', es', ep', ho', r'⟩ := hm
    rw [ho] at ho'; cases ho'
    exact ⟨_, es', ep', hL, r'⟩) hok hg
theorem Inv.turned {t' : Nat} {it : Addr} (I : Inv X pins σ H s) (k : ∀ b o, b ≠ it → s.heap.get? b = some o → h'.get? b = some o) (hn : H it = none) (hL : it ≠ X.env.locals)
    (h1 : it ∈ X.ex ∨ X.s_0.heap.objs.size ≤ it) (h2 : ∀ x c, X.env.cells.lookup x = some c → c ≠ it) (h3 : ∀ p ∈ X.pn ++ pins, p.1 ≠ it) : Inv X pins σ H { s with heap := h', toks := t' } := by
  have nit : ∀ b u, H b = some u → b ≠ it := fun b u e z => by rw [z, hn] at e; cases e
  refine I.step (g' := s.gens) (d' := s.drawn) (ch := [it]) (fun b hb => ?_) (fun b o _ _ hc e _ => k b o (fun z => hc (by simp [z])) e) (fun b o _ _ hc e _ => ⟨o.slots, k b o (fun z => hc (by simp [z])) e⟩) (fun _ _ _ _ n => n)
    (fun b o hc e => ⟨o, k b o (fun z => hc (by simp [z])) e⟩) (fun _ _ e => e) (fun _ _ _ e => e) (fun b ps e => ⟨#[], by rw [e]; simp⟩) (fun m hm => ?_) (fun b u e => ?_) I.bare
  · have e : b = it := by simpa using hb
    subst e
    exact ⟨h1, hL, h2, h3⟩
  · obtain ⟨o, es, ep, ho, r⟩ := hm
    exact ⟨o, es, ep, k _ o (Ne.symm hL) ho, r⟩
  · refine (I.hok b u e).stay (fun c v hc q => k c v ?_ q) (fun _ q => q) fun _ _ q => q
    rcases hc with z | z
    · rw [z]; exact nit b u e
    · exact nit c _ z
theorem Inv.tok (I : Inv X pins σ H s) (t : Nat) : Inv X pins σ H { s with toks := t } := I.un (h' := s.heap) (t' := t) Un.refl I.hok
theorem Inv.kept {t' : Nat} (I : Inv X pins σ H s) (k : ∀ b u, s.heap.get? b = some u → h'.get? b = some u) : Inv X pins σ H { s with heap := h', toks := t' } := I.un (Un.kept k) (I.hok.kept k)
theorem Inv.laid {a : Addr} {o : HO} {t' : Nat} (I : Inv X pins σ H s) (k : ∀ b u, s.heap.get? b = some u → h'.get? b = some u) (hp : s.heap.objs.size ≤ a) (new : ObjOk X.prog X.w (upd H a o) h' a o) :
    Inv X pins σ (upd H a o) { s with heap := h', toks := t' } := I.un (Un.laid k hp (I.hok.fresh hp)) (I.hok.laid k hp new)
theorem Inv.write {x e : Addr} {o : HO} {t' : Nat} (I : Inv X pins σ H s) (mu : Mut (H x)) (he : e = x ∨ H e = some (.own x)) (k : ∀ b u, b ≠ e → s.heap.get? b = some u → h'.get? b = some u) (heo : ∃ u, h'.get? e = some u)
    (new : ObjOk X.prog X.w (upd H x o) h' x o) : Inv X pins σ (upd H x o) { s with heap := h', toks := t' } := I.un (Un.write mu he k heo) (I.hok.write mu he k heo new)
theorem Inv.weak {σ' : List (Option V)} (I : Inv X pins σ H s) (hl : σ'.length = σ.length) (w : ∀ (i : Nat) v, σ'[i]? = some (some v) → σ[i]? = some (some v)) : Inv X pins σ' H s :=
  ⟨I.ok, I.os, I.bare, I.base, let ⟨m, hn, hl'⟩ := I.loc; ⟨m, hn, fun i x v e1 e2 e3 => hl' i x v e1 (w i v e2) e3⟩, I.cell, I.free, I.freeC, I.pin, I.hok, hl.trans I.len⟩
theorem Inv.pins_of {pins' : List (Addr × Obj)} (I : Inv X pins σ H s) (h : ∀ p ∈ pins', s.heap.get? p.1 = some p.2 ∧ H p.1 = none ∧ p.1 ≠ X.env.locals ∧ p.1 ∉ X.fs ∧ ∀ v, p.2.data ≠ .cell v) : Inv X pins' σ H s :=
  ⟨I.ok, I.os, I.bare, I.base, I.loc, I.cell, I.free, I.freeC, fun p hp => (List.mem_append.mp hp).elim (fun z => I.pin p (List.mem_append_left _ z)) (h p), I.hok, I.len⟩
theorem nodup_ix {N : List Str} (hN : N.Nodup) {i j : Nat} {x : Str} (a : N[i]? = some x) (b : N[j]? = some x) : i = j := by
  obtain ⟨h1, e1⟩ := List.getElem?_eq_some_iff.mp a
  obtain ⟨h2, e2⟩ := List.getElem?_eq_some_iff.mp b
  exact (List.getElem_inj hN).mp (e1.trans e2.symm)
theorem store_ok2 {M : Model} {A : Around} {E : Value → Shared → Prop} {i : Nat} {x : Str} {v : V} {u : Value} {Q : Unit → Shared → Prop} (I : Inv X pins σ H s) (hN : X.N.Nodup) (hi : X.N[i]? = some x) (hx : Loc X.env.scope x) (r : RelV v u)
    (h : ∀ s', Inv X pins (σ.set i (some v)) H s' → (∃ a, Heap.SameBut a s.heap s'.heap ∧ (a = X.env.locals ∨ X.env.cells.lookup x = some a)) → Q () s') (hf : X.fn x = true ∨ X.env.scope.names.lookup x = some .local := by first | exact .inl rfl | exact .inr rfl | assumption) : wpAny M A (storeName X.env x u) Q E s := by
  obtain ⟨m, hn, hl⟩ := id I.loc
  have hcls : (X.env.scope.kind == .class || (X.env.scope.kind == .module && X.env.locals != X.env.globals)) = false := by rw [I.ok.kind]; rfl
  have hiσ : i < σ.length := by rw [I.len]; exact (List.getElem?_eq_some_iff.mp hi).1
  have cne := I.cne
  have tracked : ∀ {a : Addr} {h' : Heap}, (∃ o, s.heap.get? a = some o ∧ H a = none) → Heap.SameBut a s.heap h' → HOk X.prog X.w H h' := fun {a h'} ha hs b ob e => by
    obtain ⟨_, _, hfree⟩ := ha
    refine (I.hok b ob e).stay (fun c w' hc q => (hs.2 c ?_).trans q) (fun _ q => q) fun _ _ q => q
    rintro rfl
    rcases hc with rfl | hc
    · rw [hfree] at e; cases e
    · rw [hfree] at hc; cases hc
  rcases hx with hk | hk
  · refine wpAny_storeName_local hk hn (fun h' hn' hs => ?_) hcls
    obtain ⟨oL, _, _, hoL, _⟩ := id hn
    refine h _ ⟨I.ok, I.os, I.bare, ⟨fun b o e n hb hx => ?_, fun b o e n hb hx => ?_, I.base.free, fun b o e hx => ?_, I.base.tups, I.base.frzs, I.base.tbls⟩, ⟨_, hn', fun j y v' e1 e2 e3 => ?_⟩, fun y c e => ?_, I.free, I.freeC, fun p hp => ?_, tracked ⟨oL, hoL, I.free⟩ hs, by simpa using I.len⟩ ⟨_, hs, .inl rfl⟩
    · exact (hs.2 b (Nat.ne_of_lt (Nat.lt_of_lt_of_le (Heap.lt_size e) I.ok.above))).trans (I.base.keep b o e n hb hx)
    · obtain ⟨sl, e1⟩ := I.base.slot b o e n hb hx
      exact ⟨sl, (hs.2 b (Nat.ne_of_lt (Nat.lt_of_lt_of_le (Heap.lt_size e) I.ok.above))).trans e1⟩
    · obtain ⟨o', e1⟩ := I.base.there b o e hx
      exact ⟨o', (hs.2 b (Nat.ne_of_lt (Nat.lt_of_lt_of_le (Heap.lt_size e) I.ok.above))).trans e1⟩
    · by_cases hj : j = i
      · subst hj
        rw [hi] at e1; cases e1
        rw [List.getElem?_set_self hiσ] at e2
        cases e2
        exact ⟨u, r, .inl ⟨hk, by simp⟩⟩
      · rw [List.getElem?_set_ne (Ne.symm hj)] at e2
        obtain ⟨u', r', q⟩ := hl j y v' e1 e2 e3
        refine ⟨u', r', ?_⟩
        rcases q with ⟨k, e⟩ | ⟨k, c, e, z⟩
        · refine .inl ⟨k, ?_⟩
          have : y ≠ x := fun e => hj (nodup_ix hN e1 (e ▸ hi))
          simp [this, e]
        · exact .inr ⟨k, c, e, z.sameBut hs (cne y c e)⟩
    · obtain ⟨w', z⟩ := I.cell y c e
      exact ⟨w', z.sameBut hs (cne y c e)⟩
    · obtain ⟨e, n, ne, nf, d⟩ := I.pin p hp
      exact ⟨(hs.2 p.1 ne).trans e, n, ne, nf, d⟩
  · have hfn : X.fn x = true := by
      rcases hf with z | z
      · exact z
      · rw [z] at hk; cases hk
    obtain ⟨c, hc⟩ := I.ok.has x (.inl hk)
    obtain ⟨w', z⟩ := I.cell x c hc
    refine wpAny_storeName_cell I.ok.kind hk hc z (fun h' hc' hs => ?_)
    obtain ⟨oc, hoc, hocd⟩ := id z
    refine h { s with heap := h' } ⟨I.ok, I.os, I.bare, ⟨fun b o e n hb hx => ?_, fun b o e n hb hx => ?_, I.base.free, fun b o e hx => ?_, I.base.tups, I.base.frzs, I.base.tbls⟩, ⟨m, hn.sameBut hs (Ne.symm (cne x c hc)), fun j y v' e1 e2 e3 => ?_⟩, fun y c' e => ?_, I.free, I.freeC, fun p hp => ?_, tracked ⟨oc, hoc, I.freeC x c hc⟩ hs, by simpa using I.len⟩ ⟨c, hs, .inr hc⟩
    · exact (hs.2 b (Nat.ne_of_lt (Nat.lt_of_lt_of_le (Heap.lt_size e) (I.ok.cab x c hfn hc)))).trans (I.base.keep b o e n hb hx)
    · obtain ⟨sl, e1⟩ := I.base.slot b o e n hb hx
      exact ⟨sl, (hs.2 b (Nat.ne_of_lt (Nat.lt_of_lt_of_le (Heap.lt_size e) (I.ok.cab x c hfn hc)))).trans e1⟩
    · obtain ⟨o', e1⟩ := I.base.there b o e hx
      exact ⟨o', (hs.2 b (Nat.ne_of_lt (Nat.lt_of_lt_of_le (Heap.lt_size e) (I.ok.cab x c hfn hc)))).trans e1⟩
    · by_cases hj : j = i
      · subst hj
        rw [hi] at e1; cases e1
        rw [List.getElem?_set_self hiσ] at e2
        cases e2
        exact ⟨u, r, .inr ⟨.inl hk, c, hc, hc'⟩⟩
      · rw [List.getElem?_set_ne (Ne.symm hj)] at e2
        obtain ⟨u', r', q⟩ := hl j y v' e1 e2 e3
        refine ⟨u', r', ?_⟩
        rcases q with q | ⟨k, c', e, z'⟩
        · exact .inl q
        · refine .inr ⟨k, c', e, z'.sameBut hs ?_⟩
          rintro rfl
          exact hj (nodup_ix hN e1 (I.ok.inj _ _ _ e hc ▸ hi))
    · by_cases hcc : c' = c
      · subst hcc; exact ⟨_, hc'⟩
      · obtain ⟨w2, z2⟩ := I.cell y c' e
        exact ⟨w2, z2.sameBut hs hcc⟩
    · obtain ⟨e, n, ne, nf, d⟩ := I.pin p hp
      refine ⟨(hs.2 p.1 ?_).trans e, n, ne, nf, d⟩
      intro q
      rw [q, hoc] at e
      have q' : oc = p.2 := Option.some.inj e
      exact d w' (by rw [← q']; exact hocd)
theorem store_ok {M : Model} {A : Around} {E : Value → Shared → Prop} {i : Nat} {x : Str} {v : V} {u : Value} {Q : Unit → Shared → Prop} (I : Inv X pins σ H s) (hN : X.N.Nodup) (hi : X.N[i]? = some x) (hx : Loc X.env.scope x) (r : RelV v u)
    (h : ∀ s', Inv X pins (σ.set i (some v)) H s' → Q () s') (hf : X.fn x = true ∨ X.env.scope.names.lookup x = some .local := by first | exact .inl rfl | exact .inr rfl | assumption) : wpAny M A (storeName X.env x u) Q E s :=
  store_ok2 I hN hi hx r (fun s' I' _ => h s' I') hf
theorem Inv.call' {s' : Shared} {ch : List Addr} (I : Inv X pins σ H s) (ho : s'.os = s.os) (u : Un (frs X.stack) ch H H' s.heap s'.heap) (hok : HOk X.prog X.w H' s'.heap) (hg : AllBare s'.gens)
    (hch : ∀ b ∈ ch, (b ∈ X.ex ∨ X.s_0.heap.objs.size ≤ b) ∧ b ≠ X.env.locals ∧ (∀ x c, X.env.cells.lookup x = some c → c ≠ b) ∧ ∀ p ∈ X.pn ++ pins, p.1 ≠ b) : Inv X pins σ H' s' := by
  obtain ⟨h', g', d', t', o'⟩ := s'
  have e : o' = s.os := ho
  subst e
  exact I.call (g' := g') (t' := t') (d' := d') u hok hg hch
end
abbrev XK := Value → Option Addr → Hp → Prop
abbrev St := List (Option V)
abbrev VK := V → Hp → Prop
abbrev TE := St → Hp → VK → Prop
abbrev TT := St → Hp → (Bool → Hp → Prop) → Prop
abbrev TA := St → Hp → (List V → Hp → Prop) → Prop
structure Ends where
  nx : St → Hp → Prop
  rt : VK
  bk : St → Hp → Prop := fun _ _ => False
  ct : St → Hp → Prop := fun _ _ => False
abbrev TS := Ends → St → Hp → Prop
def EP (X : Cx) (pins : List (Addr × Obj)) (σ : St) (Q : VK) (u : Value) (s' : Shared) : Prop := ∃ v H', Inv X pins σ H' s' ∧ RelV v u ∧ Q v H'
def TP (X : Cx) (pins : List (Addr × Obj)) (σ : St) (Q : Bool → Hp → Prop) (b : Bool) (s' : Shared) : Prop := ∃ H', Inv X pins σ H' s' ∧ Q b H'
def AP (X : Cx) (pins : List (Addr × Obj)) (σ : St) (Q : List V → Hp → Prop) (us : List Value) (s' : Shared) : Prop := ∃ vs H', Inv X pins σ H' s' ∧ Vals vs us ∧ Q vs H'
def SP (X : Cx) (pins : List (Addr × Obj)) (D : Ends) (f : Flow) (s' : Shared) : Prop :=
  match f with
  | .next => ∃ σ' H', Inv X pins σ' H' s' ∧ D.nx σ' H'
  | .brk => ∃ σ' H', Inv X pins σ' H' s' ∧ D.bk σ' H'
  | .cont => ∃ σ' H', Inv X pins σ' H' s' ∧ D.ct σ' H'
  | .ret u => ∃ v σ' H', Inv X pins σ' H' s' ∧ RelV v u ∧ D.rt v H'
def PE (X : Cx) (e : Expr) (t : TE) : Prop :=
  ∀ (pins : List (Addr × Obj)) (s : Shared) (σ : St) (H : Hp) (Q : VK), Inv X pins σ H s → t σ H Q → wpAny (model X.prog X.w) X.A (eval e X.env) (EP X pins σ Q) X.xe s
def PT (X : Cx) (e : Expr) (t : TT) : Prop :=
  ∀ (pins : List (Addr × Obj)) (s : Shared) (σ : St) (H : Hp) (Q : Bool → Hp → Prop), Inv X pins σ H s → t σ H Q → wpAny (model X.prog X.w) X.A (isTrue e X.env (eval e X.env)) (TP X pins σ Q) X.xe s
def PW (X : Cx) (e : Expr) (t : TT) : Prop :=
  ∀ (whole : Sem Value) (pins : List (Addr × Obj)) (s : Shared) (σ : St) (H : Hp) (Q : Bool → Hp → Prop), Inv X pins σ H s → t σ H Q → wpAny (model X.prog X.w) X.A (isTrue e X.env whole) (TP X pins σ Q) X.xe s
theorem PW.pt {X : Cx} {e : Expr} {t : TT} (h : PW X e t) : PT X e t := h _
def PA (X : Cx) (es : List Expr) (t : TA) : Prop :=
  ∀ (pos : Pos) (pins : List (Addr × Obj)) (s : Shared) (σ : St) (H : Hp) (Q : List V → Hp → Prop), Inv X pins σ H s → t σ H Q → wpAny (model X.prog X.w) X.A (spliced (backTo pos (starEach es X.env))) (AP X pins σ Q) X.xe s
def PS (X : Cx) (st : Stmt) (t : TS) : Prop :=
  ∀ (pins : List (Addr × Obj)) (s : Shared) (σ : St) (H : Hp) (D : Ends), Inv X pins σ H s → t D σ H → wpAny (model X.prog X.w) X.A (exec st X.env) (SP X pins D) X.xe s
def PSs (X : Cx) (st : List Stmt) (t : TS) : Prop :=
  ∀ (pins : List (Addr × Obj)) (s : Shared) (σ : St) (H : Hp) (D : Ends), Inv X pins σ H s → t D σ H → wpAny (model X.prog X.w) X.A (execs st X.env) (SP X pins D) X.xe s
theorem thn {α : Type} {t : Sem α} {Q Q' : α → Shared → Prop} {M : Model} {A : Around} {E : Value → Shared → Prop} {s : Shared} (h : wpAny M A t Q E s) (hQ : ∀ a s, Q a s → Q' a s) : wpAny M A t Q' E s := wpAny_mono h hQ fun _ _ x => x
end L2
namespace L2
open PySem PySem.Spec PyProof.Rows
section
variable {X : Cx}
def tVar (i : Nat) : TE := fun σ H Q => ∃ v, σ[i]? = some (some v) ∧ Q v H
def tC (v : V) : TE := fun _ H Q => Q v H
theorem pe_var {i : Nat} {x : Str} {pos : Pos} (hN : X.N[i]? = some x) (hv : Vis X.env.scope x) (hd : (x == ("__debug__" : Str)) = false := by decide) (hcd : (x == ("__classdict__" : Str)) = false := by decide) : PE X (.Name x pos) (tVar i) := by
  intro pins s σ H Q I h
  obtain ⟨v, e, h⟩ := h
  obtain ⟨m, hn, hl⟩ := I.loc
  obtain ⟨u, r, l⟩ := hl i x v hN e hv
  have fin : EP X pins σ Q u s := ⟨v, H, I, r, h⟩
  rcases l with ⟨hk, hm⟩ | ⟨hk, c, hc, hcell⟩
  · exact wpAny_Name (wpAny_loadName_local I.ok.kind hk hn hm fin) hd
  · rcases hk with hk | hk
    · exact wpAny_Name (wpAny_loadName_cell I.ok.kind hk hc hcell fin) hd
    · exact wpAny_Name (wpAny_loadName_free I.ok.kind hk hc hcell fin hcd) hd
theorem pe_int {i j pos} : PE X (.Constant (.int i) j pos) (tC (.int i)) := fun _ _ _ H _ I h => wpAny_Constant_int ⟨.int i, H, I.tok _, ⟨_, rfl⟩, h⟩
theorem pe_bl {b j pos} : PE X (.Constant (.bool b) j pos) (tC (.bl b)) := fun _ _ _ H _ I h => Constant_bool ⟨.bl b, H, I, rfl, h⟩
theorem pe_non {j pos} : PE X (.Constant .none j pos) (tC .non) := fun _ _ _ H _ I h => Constant_none ⟨.non, H, I, rfl, h⟩
theorem pe_str {x j pos} : PE X (.Constant (.str x) j pos) (tC (.str x)) := fun _ _ _ H _ I h => Calls.Constant_str ⟨.str x, H, I.tok _, ⟨_, rfl⟩, h⟩
def Gl (X : Cx) (x : Str) : Prop := X.env.kindOf x = some .globalImplicit
theorem ld_glob {E : Value → Shared → Prop} {pins : List (Addr × Obj)} {s : Shared} {σ : St} {H : Hp} {x : Str} {u : Value} {pos : Pos} {Q : Value → Shared → Prop} (I : Inv X pins σ H s) (hg : Gl X x) (hm : X.mg x = some u) (h : Q u s)
    (hd : (x == ("__debug__" : Str)) = false := by decide) : wpAny (model X.prog X.w) X.A (eval (.Name x pos) X.env) Q E s :=
  Calls.Name_function_global I.ok.kind hg (Calls.loadGlobal_global (by rw [I.ok.glob]; exact I.mod.glob.keeps I.bk) hm h) hd
theorem ld_blt {E : Value → Shared → Prop} {pins : List (Addr × Obj)} {s : Shared} {σ : St} {H : Hp} {x : Str} {u : Value} {pos : Pos} {Q : Value → Shared → Prop} (I : Inv X pins σ H s) (hg : Gl X x) (hm : X.mg x = none) (hv : bootBuiltins x = some u) (h : Q u s)
    (hn : x ≠ "__name__" := by decide) (hd : (x == ("__debug__" : Str)) = false := by decide) : wpAny (model X.prog X.w) X.A (eval (.Name x pos) X.env) Q E s := by
  obtain ⟨mb, h1, h2⟩ := I.mod.blt
  exact Calls.Name_function_global I.ok.kind hg (Calls.loadGlobal_builtin (by rw [I.ok.glob]; exact I.mod.glob.keeps I.bk) hm (by rw [I.ok.blt]; exact h1.keeps I.bk) ((h2 x hn).trans hv) h) hd
theorem pe_glob {x : Str} {v : V} {u : Value} {pos : Pos} (hg : Gl X x) (hm : X.mg x = some u) (r : RelV v u) (hd : (x == ("__debug__" : Str)) = false := by decide) : PE X (.Name x pos) (tC v) :=
  fun _ _ _ H _ I h => ld_glob I hg hm ⟨v, H, I, r, h⟩ hd
theorem pe_bltn {x : Str} {v : V} {u : Value} {pos : Pos} (hg : Gl X x) (hm : X.mg x = none) (hv : bootBuiltins x = some u) (r : RelV v u) (hn : x ≠ "__name__" := by decide) (hd : (x == ("__debug__" : Str)) = false := by decide) : PE X (.Name x pos) (tC v) :=
  fun _ _ _ H _ I h => ld_blt I hg hm hv ⟨v, H, I, r, h⟩ hn hd
variable {a b : Expr} {ta tb : TE} {pos : Pos}
def PC (X : Cx) (op : CmpOp) (a b : Expr) (t : TE) : Prop :=
  ∀ (pins : List (Addr × Obj)) (s : Shared) (σ : St) (H : Hp) (Q : VK), Inv X pins σ H s → t σ H Q →
    wpAny (model X.prog X.w) X.A (eval a X.env) (fun v s₁ => wpAny (model X.prog X.w) X.A (eval b X.env) (fun u s₂ => wpAny (model X.prog X.w) X.A (compareOp op v u) (EP X pins σ Q) X.xe s₂) X.xe s₁) X.xe s
theorem nobehind (b : Expr) {op : CmpOp} (h : op ≠ .In) (h2 : op ≠ .NotIn) : behindInMarks op b = false := by
  have e1 : (op == CmpOp.In) = false := by cases op <;> first | rfl | exact absurd rfl h
  have e2 : (op == CmpOp.NotIn) = false := by cases op <;> first | rfl | exact absurd rfl h2
  cases b <;> simp [behindInMarks, e1, e2]
def tB (t : TE) : TT := fun σ H Q => t σ H fun x H1 => ∃ c, x = .bl c ∧ Q c H1
theorem pe_cmp {op : CmpOp} {t : TE} (h : PC X op a b t) (h1 : behindInMarks op b = false := by first | exact nobehind _ (by decide) (by decide) | rfl) : PE X (.Compare a [op] [b] pos) t := fun pins s σ H Q I hw => wpAny_Compare1 (h pins s σ H Q I hw) h1
theorem pt_cmp {op : CmpOp} {t : TE} (h : PC X op a b t) (h1 : behindInMarks op b = false := by first | exact nobehind _ (by decide) (by decide) | rfl) : PT X (.Compare a [op] [b] pos) (tB t) := by
  intro pins s σ H Q I hw
  refine wpAny_isTrue_Compare1 (thn (h pins s σ H _ I hw) fun v s1 h1 => thn h1 fun u s2 h2 => thn h2 fun c s3 ⟨x, H1, I1, r1, q1⟩ => ?_) h1
  obtain ⟨d, rfl, q⟩ := q1
  cases r1
  exact wpAny_truthy_bool ⟨H1, I1, q⟩
theorem pt_val {e : Expr} {t : TE} (h : PE X e t) (he : ∀ whole, isTrue e X.env whole = (do let v ← whole; standAt e.pos; holding [v] (truthy v)) := by intro _; rfl) : PT X e (tB t) := by
  intro pins s σ H Q I hw
  refine isTrue_plain (thn (h pins s σ H _ I hw) fun v s1 ⟨x, H1, I1, r1, q1⟩ => ?_) (he _)
  obtain ⟨d, rfl, q⟩ := q1
  cases r1
  exact wpAny_truthy_bool ⟨H1, I1, q⟩
variable {tA tB' : TT} {rest : List Expr}
def tAnd (t u : TT) : TT := fun σ H Q => t σ H fun c H1 => if c = true then u σ H1 Q else Q false H1
def tOr (t u : TT) : TT := fun σ H Q => t σ H fun c H1 => if c = true then Q true H1 else u σ H1 Q
def tNot (t : TT) : TT := fun σ H Q => t σ H fun c H1 => Q (!c) H1
theorem pw_and1 (ha : PT X a tA) : PW X (.BoolOp .And [a] pos) tA := by
  intro wh pins s σ H Q I h
  refine isTrue_and (thn (ha pins s σ H Q I h) fun c s1 e => ?_)
  cases c with
  | true => exact isTrue_and_nil e
  | false => exact e
theorem pw_or1 (ha : PT X a tA) : PW X (.BoolOp .Or [a] pos) tA := by
  intro wh pins s σ H Q I h
  refine isTrue_or (thn (ha pins s σ H Q I h) fun c s1 e => ?_)
  cases c with
  | false => exact isTrue_or_nil e
  | true => exact e
theorem pw_and (ha : PT X a tA) (hb : PW X (.BoolOp .And (b :: rest) pos) tB') : PW X (.BoolOp .And (a :: b :: rest) pos) (tAnd tA tB') := by
  intro wh pins s σ H Q I h
  refine isTrue_and (thn (ha pins s σ H _ I h) fun c s1 ⟨H1, I1, q1⟩ => ?_)
  cases c with
  | true => exact hb wh pins s1 σ H1 Q I1 q1
  | false => exact ⟨H1, I1, q1⟩
theorem pw_or (ha : PT X a tA) (hb : PW X (.BoolOp .Or (b :: rest) pos) tB') : PW X (.BoolOp .Or (a :: b :: rest) pos) (tOr tA tB') := by
  intro wh pins s σ H Q I h
  refine isTrue_or (thn (ha pins s σ H _ I h) fun c s1 ⟨H1, I1, q1⟩ => ?_)
  cases c with
  | true => exact ⟨H1, I1, q1⟩
  | false => exact hb wh pins s1 σ H1 Q I1 q1
theorem pt_not (ha : PT X a tA) : PT X (.UnaryOp .Not a pos) (tNot tA) := by
  intro pins s σ H Q I h
  exact isTrue_not (ha pins s σ H (fun c H1 => Q (!c) H1) I h)
def tAndV (ta tb : TE) : TE := fun σ H Q => ta σ H fun x H1 => ∃ c, x = .bl c ∧ if c = true then tb σ H1 Q else Q (.bl false) H1
def tOrV (ta tb : TE) : TE := fun σ H Q => ta σ H fun x H1 => ∃ c, x = .bl c ∧ if c = true then Q (.bl true) H1 else tb σ H1 Q
def tNotV (ta : TE) : TE := fun σ H Q => ta σ H fun x H1 => ∃ c, x = .bl c ∧ Q (.bl (!c)) H1
theorem pe_one {op} {t : TE} (h : PE X a t) : PE X (.BoolOp op [a] pos) t := fun pins s σ H Q I hw => BoolOp_one (h pins s σ H Q I hw)
theorem pe_and (ha : PE X a ta) (hb : PE X (.BoolOp .And (b :: rest) pos) tb) : PE X (.BoolOp .And (a :: b :: rest) pos) (tAndV ta tb) := by
  intro pins s σ H Q I h
  refine BoolOp_and (thn (ha pins s σ H _ I h) fun v s1 ⟨x, H1, I1, r1, q1⟩ => ?_)
  obtain ⟨c, rfl, q1⟩ := q1
  cases r1
  refine wpAny_truthy_bool ?_
  cases c with
  | true => exact hb pins s1 σ H1 Q I1 q1
  | false => exact ⟨.bl false, H1, I1, rfl, q1⟩
theorem pe_not (ha : PE X a ta) : PE X (.UnaryOp .Not a pos) (tNotV ta) := by
  intro pins s σ H Q I h
  refine UnaryOp_ (thn (ha pins s σ H _ I h) fun v s1 ⟨x, H1, I1, r1, q1⟩ => ?_)
  obtain ⟨c, rfl, q1⟩ := q1
  cases r1
  exact not_of (wpAny_truthy_bool ⟨.bl (!c), H1, I1, rfl, q1⟩)
def tIf (t : TT) (ta tb : TE) : TE := fun σ H Q => t σ H fun c H1 => if c = true then ta σ H1 Q else tb σ H1 Q
theorem pe_ifExp {c : Expr} (hc : PT X c tA) (ha : PE X a ta) (hb : PE X b tb) : PE X (.IfExp c a b pos) (tIf tA ta tb) := by
  intro pins s σ H Q I h
  refine wpAny_IfExp (thn (hc pins s σ H _ I h) fun d s1 ⟨H1, I1, q1⟩ => ?_)
  cases d with
  | true => exact ha pins s1 σ H1 Q I1 q1
  | false => exact hb pins s1 σ H1 Q I1 q1
end
end L2
namespace L2
open PySem PySem.Spec PyProof.Rows
def SqL (K : PySem.W.Frag) (H : Hp) (a : Addr) (xs : List V) : Prop :=
  Rd H a (.lst xs) ∨
    ∃ (o : Obj) (its : Array Value) (n : Nat), K.lookup a = some o ∧ o.cls = .type "list" ∧ o.dict = none ∧ o.data = .seq its n ∧ its.size ≤ sizeLine ∧ Vals xs its.toList
def SqT (K : PySem.W.Frag) (H : Hp) (a : Addr) (xs : List V) : Prop :=
  Rd H a (.tup xs) ∨
    ∃ (o : Obj) (its : Array Value) (n : Nat), K.lookup a = some o ∧ o.cls = .type "tuple" ∧ o.data = .seq its n ∧ its.size ≤ sizeLine ∧ Vals xs its.toList
def absV : Value → Option V
  | .none => some .non
  | .bool b => some (.bl b)
  | .int i _ => some (.int i)
  | .str x _ => some (.str x)
  | .bytes b _ => some (.byt b)
  | .float b _ => some (.flt b)
  | .ref a => some (.ref a)
  | .type n => some (.ty n)
  | _ => none
theorem RelV.abs {x : V} {u : Value} (r : RelV x u) : absV u = some x := by
  cases x with
  | non => cases r; rfl
  | bl _ => cases r; rfl
  | int _ => obtain ⟨t, rfl⟩ := r; rfl
  | str _ => obtain ⟨t, rfl⟩ := r; rfl
  | byt _ => obtain ⟨t, rfl⟩ := r; rfl
  | flt _ => obtain ⟨t, rfl⟩ := r; rfl
  | ref _ => cases r; rfl
  | ty _ => cases r; rfl
theorem RelV.inj {x y : V} {u : Value} (r : RelV x u) (q : RelV y u) : x = y := Option.some.inj (r.abs.symm.trans q.abs)
theorem Vals.inj : ∀ {xs ys : List V} {us : List Value}, Vals xs us → Vals ys us → xs = ys
  | _, _, _, .nil, .nil => rfl
  | _, _, _, .cons r t, .cons r' t' => by rw [r.inj r', Vals.inj t t']
section
variable {X : Cx} {pins : List (Addr × Obj)} {σ : St} {H : Hp} {s : Shared} {a : Addr} {xs ys : List V}
theorem SqL.of {K : PySem.W.Frag} (h : H a = some (.lst xs)) : SqL K H a xs := .inl (.inl h)
theorem SqT.of {K : PySem.W.Frag} (h : H a = some (.tup xs)) : SqT K H a xs := .inl (.inl h)
theorem Inv.list (I : Inv X pins σ H s) (h : SqL X.K H a xs) : ∃ its : List Value, Vals xs its ∧ PlainL s.heap a its.toArray ∧ xs.length ≤ sizeLine := by
  rcases h with h | ⟨o, its, n, hk, hc, hd, hs, hz, r⟩
  · obtain ⟨z, its, n, r, e⟩ := h.ok I.hok
    exact ⟨its, r, ⟨_, n, e, rfl, rfl, rfl⟩, z⟩
  · refine ⟨its.toList, r, ⟨o, n, I.kIn a o hk, hc, hd, by simpa using hs⟩, ?_⟩
    have e := r.length
    simp only [Array.length_toList] at e
    omega
theorem Inv.tuple (I : Inv X pins σ H s) (h : SqT X.K H a xs) : ∃ its : List Value, Vals xs its ∧ IsTup s.heap a its.toArray ∧ xs.length ≤ sizeLine := by
  rcases h with h | ⟨o, its, n, hk, hc, hs, hz, r⟩
  · obtain ⟨z, its, r, p⟩ := h.ok I.hok
    exact ⟨its, r, p, z⟩
  · refine ⟨its.toList, r, ⟨o, I.kIn a o hk, hc, n, by simpa using hs⟩, ?_⟩
    have e := r.length
    simp only [Array.length_toList] at e
    omega
theorem Inv.list_inj (I : Inv X pins σ H s) (h : SqL X.K H a xs) (h' : SqL X.K H a ys) : xs = ys := by
  obtain ⟨its, r, ⟨o, n, e, _, _, d⟩, _⟩ := I.list h
  obtain ⟨its', r', ⟨o', n', e', _, _, d'⟩, _⟩ := I.list h'
  rw [e] at e'; cases e'
  rw [d] at d'
  injection d' with d1 _
  have : its = its' := by simpa using congrArg Array.toList d1
  subst this
  exact r.inj r'
theorem Inv.tuple_inj (I : Inv X pins σ H s) (h : SqT X.K H a xs) (h' : SqT X.K H a ys) : xs = ys := by
  obtain ⟨its, r, ⟨o, e, _, n, d⟩, _⟩ := I.tuple h
  obtain ⟨its', r', ⟨o', e', _, n', d'⟩, _⟩ := I.tuple h'
  rw [e] at e'; cases e'
  rw [d] at d'
  injection d' with d1 _
  have : its = its' := by simpa using congrArg Array.toList d1
  subst this
  exact r.inj r'
end
abbrev Cx.wish (X : Cx) (E : Value → Shared → Prop) : Cx := { X with xe := E }
abbrev Cx.nox (X : Cx) : Cx := X.wish fun _ _ => False
theorem Cx.Ok.wish {X : Cx} (ok : X.Ok) (E : Value → Shared → Prop) : (X.wish E).Ok :=
  ⟨ok.mod, ok.kind, ok.glob, ok.blt, ok.above, ok.inj, ok.has, ok.cab, ok.hd, ok.frames, ok.stk, ok.exf, ok.bs, ok.bsz, ok.noex, ok.exfs, ok.funs, ok.frf⟩
theorem Cx.Ok.unwish {X : Cx} {E : Value → Shared → Prop} (ok : (X.wish E).Ok) : X.Ok :=
  ⟨ok.mod, ok.kind, ok.glob, ok.blt, ok.above, ok.inj, ok.has, ok.cab, ok.hd, ok.frames, ok.stk, ok.exf, ok.bs, ok.bsz, ok.noex, ok.exfs, ok.funs, ok.frf⟩
section
variable {X : Cx} {pins : List (Addr × Obj)} {σ : St} {H : Hp} {s : Shared} {E : Value → Shared → Prop}
theorem Inv.wish (I : Inv X pins σ H s) (E : Value → Shared → Prop) : Inv (X.wish E) pins σ H s := ⟨I.ok.wish E, I.os, I.bare, I.base, I.loc, I.cell, I.free, I.freeC, I.pin, I.hok, I.len⟩
theorem Inv.unwish (I : Inv (X.wish E) pins σ H s) : Inv X pins σ H s := ⟨I.ok.unwish, I.os, I.bare, I.base, I.loc, I.cell, I.free, I.freeC, I.pin, I.hok, I.len⟩
theorem SP.unwish {D : Ends} {f : Flow} {s' : Shared} (h : SP (X.wish E) pins D f s') : SP X pins D f s' := by
  cases f with
  | next => obtain ⟨σ', H', I, q⟩ := h; exact ⟨σ', H', I.unwish, q⟩
  | brk => obtain ⟨σ', H', I, q⟩ := h; exact ⟨σ', H', I.unwish, q⟩
  | cont => obtain ⟨σ', H', I, q⟩ := h; exact ⟨σ', H', I.unwish, q⟩
  | ret u => obtain ⟨v, σ', H', I, r, q⟩ := h; exact ⟨v, σ', H', I.unwish, r, q⟩
theorem PE.nox {e : Expr} {t : TE} (h : PE X.nox e t) : PE X e t := fun pins s σ H Q I hw =>
  wpAny_mono (h pins s σ H Q (I.wish _) hw) (fun _ _ ⟨v, H', I', r, q⟩ => ⟨v, H', I'.unwish, r, q⟩) fun _ _ z => False.elim z
theorem PT.nox {e : Expr} {t : TT} (h : PT X.nox e t) : PT X e t := fun pins s σ H Q I hw =>
  wpAny_mono (h pins s σ H Q (I.wish _) hw) (fun _ _ ⟨H', I', q⟩ => ⟨H', I'.unwish, q⟩) fun _ _ z => False.elim z
theorem PSs.nox {st : List Stmt} {t : TS} (h : PSs X.nox st t) : PSs X st t := fun pins s σ H D I hw =>
  wpAny_mono (h pins s σ H D (I.wish _) hw) (fun _ _ q => q.unwish) fun _ _ z => False.elim z
end
section
variable {X : Cx} {st : Stmt} {rest : List Stmt} {t u : TS} {e : Expr} {te : TE} {pos : Pos}
def tNext : TS := fun D σ H => D.nx σ H
def tSeq (t u : TS) : TS := fun D σ H => t { D with nx := u D } σ H
theorem pss_nil : PSs X [] tNext := fun _ _ σ H _ I h => wpAny_execs_nil ⟨σ, H, I, h⟩
theorem pss_cons (h1 : PS X st t) (h2 : PSs X rest u) : PSs X (st :: rest) (tSeq t u) := by
  intro pins s σ H D I h
  refine wpAny_execs_cons (thn (h1 pins s σ H { D with nx := u D } I h) fun f s1 q => ?_)
  cases f with
  | next =>
    obtain ⟨σ', H', I', q⟩ := q
    exact h2 pins s1 σ' H' D I' q
  | ret v => exact q
  | brk => exact q
  | cont => exact q
theorem pss_one (h1 : PS X st t) : PSs X [st] t := by
  intro pins s σ H D I h
  refine wpAny_execs_cons (thn (h1 pins s σ H D I h) fun f s1 q => ?_)
  cases f with
  | next => exact wpAny_execs_nil q
  | ret v => exact q
  | brk => exact q
  | cont => exact q
theorem Inv.quiet {pins : List (Addr × Obj)} {σ : St} {H : Hp} {s : Shared} (I : Inv X pins σ H s) : interactive X.env = false := by simp [interactive, I.ok.kind]
def tDrop (te : TE) : TS := fun D σ H => te σ H fun _ H1 => D.nx σ H1
theorem ps_expr (he : PE X e te) (hs : swapsWith e none pos.line X.env = pure false := by rfl) : PS X (.Expr e pos) (tDrop te) := by
  intro pins s σ H D I h
  exact wpAny_Expr_any (thn (he pins s σ H _ I h) fun v s1 ⟨x, H1, I1, r1, q1⟩ => ⟨σ, H1, I1, q1⟩) I.quiet hs
def tRet (te : TE) : TS := fun D σ H => te σ H D.rt
theorem ps_ret (he : PE X e te) : PS X (.Return (some e) pos) (tRet te) := by
  intro pins s σ H D I h
  exact wpAny_Return_some (thn (he pins s σ H _ I h) fun v s1 ⟨x, H1, I1, r1, q1⟩ => ⟨x, σ, H1, I1, r1, q1⟩)
def tRetN : TS := fun D _ H => D.rt .non H
def tIfS (c : TT) (t u : TS) : TS := fun D σ H => c σ H fun b H1 => if b = true then t D σ H1 else u D σ H1
theorem ps_if {c : Expr} {a b : List Stmt} {tc : TT} (hc : PT X c tc) (ha : PSs X a t) (hb : PSs X b u) : PS X (.If c a b pos) (tIfS tc t u) := by
  intro pins s σ H D I h
  refine wpAny_If (thn (hc pins s σ H _ I h) fun d s1 ⟨H1, I1, q1⟩ => ?_)
  cases d with
  | true => exact ha pins s1 σ H1 D I1 q1
  | false => exact hb pins s1 σ H1 D I1 q1
def tNever : TS := fun _ _ _ => False
theorem ps_never : PS X st tNever := fun _ _ _ _ _ _ h => h.elim
end
abbrev TG := V → St → Hp → (St → Hp → Prop) → Prop
abbrev TGs := List V → St → Hp → (St → Hp → Prop) → Prop
def PG (X : Cx) (target : Expr) (t : TG) : Prop :=
  ∀ (pins : List (Addr × Obj)) (s : Shared) (σ : St) (H : Hp) (v : V) (u : Value) (Q : St → Hp → Prop), Inv X pins σ H s → RelV v u → t v σ H Q →
    wpAny (model X.prog X.w) X.A (assign target X.env u) (fun _ s' => ∃ σ' H', Inv X pins σ' H' s' ∧ Q σ' H') X.xe s
def PGs (X : Cx) (ts : List Expr) (t : TGs) : Prop :=
  ∀ (pins : List (Addr × Obj)) (s : Shared) (σ : St) (H : Hp) (vs : List V) (us : List Value) (Q : St → Hp → Prop), Inv X pins σ H s → Vals vs us → t vs σ H Q →
    wpAny (model X.prog X.w) X.A (assignInOrder ((assignEach ts X.env).map (·.2)) us) (fun _ s' => ∃ σ' H', Inv X pins σ' H' s' ∧ Q σ' H') X.xe s
abbrev TSet := V → V → V → Hp → (Hp → Prop) → Prop
def PSet (X : Cx) (t : TSet) : Prop :=
  ∀ (pins : List (Addr × Obj)) (s : Shared) (σ : St) (H : Hp) (o i v : V) (ov iv u : Value) (Q : Hp → Prop), Inv X pins σ H s → RelV o ov → RelV i iv → RelV v u → t o i v H Q →
    wpAny (model X.prog X.w) X.A (setItem ov iv u) (fun _ s' => ∃ H', Inv X pins σ H' s' ∧ Q H') X.xe s
abbrev TIp := V → V → Hp → VK → Prop
section
variable {X : Cx} {pos : Pos}
def gName (i : Nat) : TG := fun v σ H Q => Q (σ.set i (some v)) H
theorem pg_name {i : Nat} {x : Str} (hN : X.N.Nodup) (hi : X.N[i]? = some x) (hx : Loc X.env.scope x) (hf : X.fn x = true ∨ X.env.scope.names.lookup x = some .local := by first | exact .inl rfl | exact .inr rfl | assumption) : PG X (.Name x pos) (gName i) := by
  intro pins s σ H v u Q I r h
  exact wpAny_assign_Name (store_ok I hN hi hx r (fun s' I' => ⟨_, H, I', h⟩) hf)
def gNil : TGs := fun vs σ H Q => vs = [] ∧ Q σ H
def gCons (t : TG) (u : TGs) : TGs := fun vs σ H Q => ∃ v r, vs = v :: r ∧ t v σ H fun σ' H' => u r σ' H' Q
theorem pgs_nil : PGs X [] gNil := by
  intro pins s σ H vs us Q I r h
  obtain ⟨e, h⟩ := h
  subst e
  cases r
  exact assignInOrder_nil ⟨σ, H, I, h⟩
theorem pgs_cons {e : Expr} {es : List Expr} {t : TG} {u : TGs} (h1 : PG X e t) (h2 : PGs X es u)
    (hs : (assignEach (e :: es) X.env).map (·.2) = assign e X.env :: (assignEach es X.env).map (·.2) := by rfl) : PGs X (e :: es) (gCons t u) := by
  intro pins s σ H vs us Q I r h
  obtain ⟨v, vr, e1, h⟩ := h
  subst e1
  cases r with
  | cons r rr =>
    rw [hs]
    refine assignInOrder_cons (thn (h1 pins s σ H _ _ _ I r h) fun _ s1 ⟨σ1, H1, I1, q1⟩ => ?_)
    exact h2 pins s1 σ1 H1 _ _ Q I1 rr q1
def gTup (K : PySem.W.Frag) (n : Nat) (t : TGs) : TG := fun v σ H Q => ∃ a xs, v = .ref a ∧ SqT K H a xs ∧ xs.length = n ∧ t xs σ H Q
theorem pg_tup {es : List Expr} {k : Nat} {t : TGs} {n : Nat} (hc : X.calm = true) (h : PGs X es t)
    (hn : (assignEach es X.env).length = n := by rfl) (hst : (assignEach es X.env).findIdx? (·.1) = none := by rfl) : PG X (.Tuple es k pos) (gTup X.K n t) := by
  intro pins s σ H v u Q I r hw
  obtain ⟨a, xs, e1, hq, hl, hw⟩ := hw
  subst e1
  cases r
  obtain ⟨its, rv, ht, hz⟩ := I.tuple hq
  refine assign_Tuple_tuple (I.ok.hd hc) ht (by simp [hn, ← hl, rv.length]) hst fun h' hx => ?_
  have I1 : Inv X pins σ H { s with heap := h' } := I.kept (t' := s.toks) fun b o e => hx b o (Nat.ne_of_lt (Heap.lt_size e)) e
  exact h pins _ σ H xs _ Q I1 (by simpa using rv) hw
def gSub (to ti : TE) (t : TSet) : TG := fun v σ H Q => to σ H fun o H1 => ti σ H1 fun i H2 => t o i v H2 fun H3 => Q σ H3
theorem pg_sub {o i : Expr} {to ti : TE} {t : TSet} (ho : PE X o to) (hi : PE X i ti) (hs : PSet X t)
    (ha : ∀ v, assign (.Subscript o i pos) X.env v = (do
      let ov ← holding [v] (eval o X.env)
      let iv ← holding [v, ov] (eval i X.env)
      standAt pos
      holding [v, ov, iv] (setItem ov iv v)
      release [v, ov, iv] []) := by intro _; rfl) : PG X (.Subscript o i pos) (gSub to ti t) := by
  intro pins s σ H v u Q I r h
  rw [ha]
  refine wpAny_bind (wpAny_holding (thn (ho pins s σ H _ I h) fun ov s1 ⟨x, H1, I1, r1, q1⟩ => ?_))
  refine wpAny_bind (wpAny_holding (thn (hi pins s1 σ H1 _ I1 q1) fun iv s2 ⟨y, H2, I2, r2, q2⟩ => ?_))
  refine wpAny_bind (wpAny_standAt (wpAny_bind (wpAny_holding (thn (hs pins s2 σ H2 x y v ov iv u _ I2 r1 r2 r q2) fun _ s3 ⟨H3, I3, q3⟩ => ?_))))
  exact wpAny_release ⟨σ, H3, I3, q3⟩
def tAsg (te : TE) (g : TG) : TS := fun D σ H => te σ H fun x H1 => g x σ H1 D.nx
theorem ps_asg {tg e : Expr} {te : TE} {g : TG} (he : PE X e te) (hg : PG X tg g) (hs : swapsWithSole [tg] e pos.line X.env = pure false := by rfl) (hw : swappedStores [tg] e X.env = pure none := by rfl)
    (h1 : (assignEach [tg] X.env).map (·.2) = [assign tg X.env] := by rfl) : PS X (.Assign [tg] e pos) (tAsg te g) := by
  intro pins s σ H D I h
  refine wpAny_Assign_stores (thn (he pins s σ H _ I h) fun v s1 ⟨x, H1, I1, r1, q1⟩ => ?_) hs hw
  rw [h1]
  exact thn (hg pins s1 σ H1 x v _ I1 r1 q1) fun _ s2 q => q
theorem ps_set {i : Nat} {x : Str} {e : Expr} {te : TE} {pos' : Pos} (hN : X.N.Nodup) (hi : X.N[i]? = some x) (hx : Loc X.env.scope x) (he : PE X e te) (hs : swapsWith e (some (.Name x pos')) pos.line X.env = pure false := by rfl) (hf : X.fn x = true ∨ X.env.scope.names.lookup x = some .local := by first | exact .inl rfl | exact .inr rfl | assumption) :
    PS X (.Assign [.Name x pos'] e pos) (tAsg te (gName i)) := by
  intro pins s σ H D I h
  refine wpAny_Assign_Name (thn (he pins s σ H _ I h) fun v s1 ⟨y, H1, I1, r1, q1⟩ => ?_) hs
  exact store_ok I1 hN hi hx r1 (fun s2 I2 => ⟨_, H1, I2, q1⟩) hf
def tPar (i j : Nat) (ta : TA) : TS := fun D σ H => ta σ H fun vs H1 => ∃ v w, vs = [v, w] ∧ D.nx ((σ.set i (some v)).set j (some w)) H1
theorem ps_par {i j : Nat} {x y : Str} {a b : Expr} {ta : TA} {px py pt : Pos} {kt k2 pt2} (hc : X.calm = true) (hN : X.N.Nodup) (hi : X.N[i]? = some x) (hj : X.N[j]? = some y) (hij : i ≠ j)
    (hx : X.env.scope.names.lookup x = some .local) (hy : X.env.scope.names.lookup y = some .local) (ha : PA X [a, b] ta)
    (hw : swappedStores [.Tuple [.Name x px, .Name y py] kt pt] (.Tuple [a, b] k2 pt2) X.env = pure (some [x, y]))
    (hs : swapsWithSole [.Tuple [.Name x px, .Name y py] kt pt] (.Tuple [a, b] k2 pt2) pos.line X.env = pure false := by rfl) :
    PS X (.Assign [.Tuple [.Name x px, .Name y py] kt pt] (.Tuple [a, b] k2 pt2) pos) (tPar i j ta) := by
  intro pins s σ H D I h
  rw [exec_Assign_arm]
  refine wpAny_bind (wpAny_standAt ?_)
  rw [hs]
  refine wpAny_bind (wpAny_pure ?_)
  rw [if_neg (by decide)]
  refine wpAny_bind (Tuple_ (thn (ha _ pins s σ H _ I h) fun us s1 ⟨vs, H1, I1, r1, q1⟩ => ?_))
  obtain ⟨v, w, e1, q1⟩ := q1
  subst e1
  obtain ⟨u1, u2, rfl, rv, rw'⟩ : ∃ u1 u2, us = [u1, u2] ∧ RelV v u1 ∧ RelV w u2 := by
    cases r1 with
    | cons p q =>
      cases q with
      | cons p' q' =>
        cases q'
        exact ⟨_, _, rfl, p, p'⟩
  refine wpAny_newObj_type ?_ (by show 2 ≤ sizeLine; decide)
  have I2 : Inv X pins σ H1 { s1 with heap := s1.heap.push { cls := .type "tuple", data := .seq [u1, u2].toArray } } := I1.kept (t' := s1.toks) fun b o e => Heap.get?_push_of_some _ e
  rw [hw]
  refine wpAny_bind (wpAny_pure ?_)
  show wpAny (model X.prog X.w) X.A (do rule "assign.swapped-stores"; let items ← unpackItems (.ref s1.heap.objs.size) 2 none; assignInOrder [fun v => bindName X.env y v, fun v => bindName X.env x v] items.reverse; pure Flow.next) _ _ _
  refine wpAny_bind (wpAny_rule (wpAny_bind (unpackItems_tuple (items := #[u1, u2]) (I.ok.hd hc) (IsTup.new s1.heap _) fun h' hx' => ?_)))
  have I3 := I2.kept (h' := h') (t' := s1.toks) fun b o e => hx' b o (Nat.ne_of_lt (Heap.lt_size e)) e
  show wpAny _ _ (assignInOrder [fun v => bindName X.env y v, fun v => bindName X.env x v] [u2, u1] >>= fun _ => pure Flow.next) _ _ _
  refine wpAny_bind (assignInOrder_cons (wpAny_bindName (store_ok I3 hN hj (.inl hy) rw' (fun s2 I4 => ?_) (.inr hy))))
  refine assignInOrder_cons (wpAny_bindName (store_ok I4 hN hi (.inl hx) rv (fun s3 I5 => assignInOrder_nil (wpAny_pure ?_)) (.inr hx)))
  rw [List.set_comm _ _ (Ne.symm hij)] at I5
  exact ⟨_, H1, I5, q1⟩
def tAug (i : Nat) (te : TE) (ti : TIp) : TS := fun D σ H => ∃ x, σ[i]? = some (some x) ∧ te σ H fun y H1 => ti x y H1 fun z H2 => D.nx (σ.set i (some z)) H2
def ipI (f : Int → Int → Int) : TIp := fun x y H Q => ∃ i j, x = .int i ∧ y = .int j ∧ Q (.int (f i j)) H
end
section
variable {X : Cx} {pos : Pos}
end
structure It where
  go : Nat → Hp → Prop
  yld : Nat → Hp → V → Hp → Prop
  stop : Nat → Hp → Prop
def FpOk (X : Cx) (pins : List (Addr × Obj)) (H : Hp) (b : Addr) : Prop :=
  H b = none ∧ b ≠ X.env.locals ∧ b ∉ X.fs ∧ (b ∈ X.ex ∨ X.s_0.heap.objs.size ≤ b) ∧ (∀ x c, X.env.cells.lookup x = some c → c ≠ b) ∧ ∀ p ∈ X.pn ++ pins, p.1 ≠ b
theorem Inv.fpOk {X : Cx} {pins : List (Addr × Obj)} {σ : St} {H H' : Hp} {s : Shared} {b : Addr} (I : Inv X pins σ H s) (hb : s.heap.objs.size ≤ b) (hn : H' b = none) : FpOk X pins H' b := by
  refine ⟨hn, Nat.ne_of_gt (Nat.lt_of_lt_of_le I.lt hb), I.nofs hb, .inr (Nat.le_trans I.sz hb), fun x c e z => ?_, fun p hp z => ?_⟩
  · obtain ⟨v, q⟩ := I.cell x c e
    exact absurd (Nat.lt_of_lt_of_le q.lt (by rw [z]; exact hb)) (Nat.lt_irrefl _)
  · exact absurd (Nat.lt_of_lt_of_le (Heap.lt_size (I.pin p hp).1) (by rw [z]; exact hb)) (Nat.lt_irrefl _)
structure Turn (P : Program) (w : World) (K : PySem.W.Frag) (tg : Expr) (J : It) (fp : List Addr) (it : Addr) (tn : Nat → Heap → Prop) : Prop where
  mem : it ∈ fp
  obj : ∀ i h, tn i h → ∀ b ∈ fp, ∃ o, h.get? b = some o ∧ ∀ v, o.data ≠ .cell v
  keep : ∀ i h h', tn i h → (∀ b ∈ fp, ∀ o, h.get? b = some o → h'.get? b = some o) → tn i h'
  item : ∀ (X : Cx), X.prog = P → X.w = w → X.K = K → X.calm = true → ∀ (i : Nat) (pins : List (Addr × Obj)) (s : Shared) (σ : St) (H : Hp) (E : Value → Shared → Prop), Inv X pins σ H s → (∀ b ∈ fp, FpOk X pins H b) → tn i s.heap → J.go i H →
    wpAny (model P w) X.A (pyNext (.ref it)) (fun r s1 => ∃ u, r = some u ∧
      wpAny (model P w) X.A (letOwnedTupleGo tg (.ref it) u) (fun _ s2 => ∃ x H', Inv X pins σ H' s2 ∧ RelV x u ∧ J.yld i H x H' ∧ tn (i + 1) s2.heap ∧ ∀ b ∈ fp, H' b = none) E s1) E s
  done : ∀ (X : Cx), X.prog = P → X.w = w → X.K = K → X.calm = true → ∀ (i : Nat) (pins : List (Addr × Obj)) (s : Shared) (σ : St) (H : Hp) (E : Value → Shared → Prop), Inv X pins σ H s → (∀ b ∈ fp, FpOk X pins H b) → tn i s.heap → J.stop i H →
    wpAny (model P w) X.A (pyNext (.ref it)) (fun r s1 => r = none ∧ Inv X pins σ H s1) E s
  self : ∀ (A : Around) (i : Nat) (s : Shared) (Q : Value → Shared → Prop) (E : Value → Shared → Prop), tn i s.heap → Q (.ref it) s → wpAny (model P w) A (pyIter (.ref it)) Q E s
abbrev TI := St → Hp → (It → Hp → Prop) → Prop
def PIE (X : Cx) (pins : List (Addr × Obj)) (σ : St) (tg : Expr) (R : It → Hp → Prop) (itv : Value) (s2 : Shared) : Prop :=
  ∃ (it : Addr) (fp : List Addr) (tn : Nat → Heap → Prop) (J : It) (H' : Hp), itv = .ref it ∧ Inv X pins σ H' s2 ∧ Turn X.prog X.w X.K tg J fp it tn ∧ tn 0 s2.heap ∧ (∀ b ∈ fp, FpOk X pins H' b) ∧ R J H'
def PI (X : Cx) (tg iter : Expr) (wi : TI) : Prop :=
  ∀ (pins : List (Addr × Obj)) (s : Shared) (σ : St) (H : Hp) (R : It → Hp → Prop), Inv X pins σ H s → wi σ H R →
    wpAny (model X.prog X.w) X.A (eval iter X.env) (fun v s1 => wpAny (model X.prog X.w) X.A (pyIter v) (PIE X pins σ tg R) X.xe s1) X.xe s
theorem go_of {M : Model} {A : Around} {E : Value → Shared → Prop} {s : Shared} {tg : Expr} {it : Addr} {u : Value} {o : Obj} {n : String} {vs : Array Value} {Q : Unit → Shared → Prop} (ho : s.heap.get? it = some o) (hc : o.cls = .type n) (hd : o.data = .fields vs)
    (hn : ["enumerate", "zip", "dict_itemiterator", "dict_reverseitemiterator", "odict_iterator", "itertools.zip_longest", "itertools.pairwise"].contains n = false) (hQ : Q () s) : wpAny M A (letOwnedTupleGo tg (.ref it) u) Q E s := by
  unfold letOwnedTupleGo
  cases tg <;> first
    | exact wpAny_pure hQ
    | (cases u <;> first
        | exact wpAny_pure hQ
        | (refine wpAny_bind (wpAny_load ho ?_)
           rw [hc, hd]
           show wpAny M A (if (["enumerate", "zip", "dict_itemiterator", "dict_reverseitemiterator", "odict_iterator", "itertools.zip_longest", "itertools.pairwise"].contains n && vs[0]? == some (rawInt _)) = true then _ else _) Q E s
           rw [if_neg (by intro h; rw [hn, Bool.false_and] at h; cases h)]
           exact wpAny_pure hQ))
def Itl (K : PySem.W.Frag) (a : Addr) : It :=
  ⟨fun i H => ∃ xs x, SqL K H a xs ∧ xs[i]? = some x, fun i H x H' => H' = H ∧ ∀ xs, SqL K H a xs → xs[i]? = some x, fun i H => ∃ xs, SqL K H a xs ∧ xs.length ≤ i⟩
def Itt (K : PySem.W.Frag) (a : Addr) : It :=
  ⟨fun i H => ∃ xs x, SqT K H a xs ∧ xs[i]? = some x, fun i H x H' => H' = H ∧ ∀ xs, SqT K H a xs → xs[i]? = some x, fun i H => ∃ xs, SqT K H a xs ∧ xs.length ≤ i⟩
def Itr (lo : Int) (n : Nat) : It := ⟨fun i _ => i < n, fun i H x H' => H' = H ∧ x = .int (lo + i), fun i _ => n ≤ i⟩
theorem turn_list {P : Program} {w : World} {K : PySem.W.Frag} {tg : Expr} (a it : Addr) : Turn P w K tg (Itl K a) [it] it (fun i h => h.IsListIter it a i) where
  mem := by simp
  obj := fun i h st b hb => by
    have e : b = it := by simpa using hb
    subst e
    obtain ⟨o, e, c, d⟩ := st
    exact ⟨o, e, fun v z => by rw [d] at z; cases z⟩
  keep := fun i h h' st k => st.at fun o e => k it (by simp) o e
  item := by
    intro X hP hw hK hc i pins s σ H E I hf st hg
    subst hP hw hK
    obtain ⟨xs, x, hq, hx⟩ := hg
    obtain ⟨its, rv, p, hz⟩ := I.list hq
    obtain ⟨u, hu, ru⟩ := rv.get hx
    obtain ⟨f0, f1, f2, f3, f4, f5⟩ := hf it (by simp)
    refine wpAny_pyNext_list_item st p.isList (x := u) (by simpa using hu) fun h' st' sb => ?_
    have I1 : Inv X pins σ H { s with heap := h' } := I.turned (t' := s.toks) (fun b o hb e => (sb.2 b hb).trans e) f0 f1 f3 f4 f5
    obtain ⟨o, e, c, d⟩ := id st'
    exact ⟨u, rfl, go_of (s := { s with heap := h' }) e c d (by decide) ⟨x, H, I1, ru, ⟨rfl, fun ys hy => by rw [I.list_inj hy hq]; exact hx⟩, st', fun b hb => (hf b hb).1⟩⟩
  done := by
    intro X hP hw hK hc i pins s σ H E I hf st hg
    subst hP hw hK
    obtain ⟨xs, hq, hx⟩ := hg
    obtain ⟨its, rv, p, hz⟩ := I.list hq
    obtain ⟨f0, f1, f2, f3, f4, f5⟩ := hf it (by simp)
    have hl := rv.length
    exact wpAny_pyNext_list_end (I.ok.hd hc) st p.isList (by simp; omega) fun h' eb => ⟨rfl, I.turned (t' := s.toks) (fun b o hb e => eb b o hb e) f0 f1 f3 f4 f5⟩
  self := fun _ _ _ _ _ st h => wpAny_pyIter_listiter st h
theorem turn_tuple {P : Program} {w : World} {K : PySem.W.Frag} {tg : Expr} (a it : Addr) : Turn P w K tg (Itt K a) [it] it (fun i h => h.IsTupleIter it a i) where
  mem := by simp
  obj := fun i h st b hb => by
    have e : b = it := by simpa using hb
    subst e
    obtain ⟨o, e, c, d⟩ := st
    exact ⟨o, e, fun v z => by rw [d] at z; cases z⟩
  keep := fun i h h' st k => st.at fun o e => k it (by simp) o e
  item := by
    intro X hP hw hK hc i pins s σ H E I hf st hg
    subst hP hw hK
    obtain ⟨xs, x, hq, hx⟩ := hg
    obtain ⟨its, rv, p, hz⟩ := I.tuple hq
    obtain ⟨u, hu, ru⟩ := rv.get hx
    obtain ⟨f0, f1, f2, f3, f4, f5⟩ := hf it (by simp)
    refine wpAny_pyNext_tuple_item st (show s.heap.IsTuple a its.toArray from p) (x := u) (by simpa using hu) fun h' st' sb => ?_
    have I1 : Inv X pins σ H { s with heap := h' } := I.turned (t' := s.toks) (fun b o hb e => (sb.2 b hb).trans e) f0 f1 f3 f4 f5
    obtain ⟨o, e, c, d⟩ := id st'
    exact ⟨u, rfl, go_of (s := { s with heap := h' }) e c d (by decide) ⟨x, H, I1, ru, ⟨rfl, fun ys hy => by rw [I.tuple_inj hy hq]; exact hx⟩, st', fun b hb => (hf b hb).1⟩⟩
  done := by
    intro X hP hw hK hc i pins s σ H E I hf st hg
    subst hP hw hK
    obtain ⟨xs, hq, hx⟩ := hg
    obtain ⟨its, rv, p, hz⟩ := I.tuple hq
    obtain ⟨f0, f1, f2, f3, f4, f5⟩ := hf it (by simp)
    have hl := rv.length
    exact wpAny_pyNext_tuple_end (I.ok.hd hc) st (show s.heap.IsTuple a its.toArray from p) (by simp; omega) fun h' eb => ⟨rfl, I.turned (t' := s.toks) (fun b o hb e => eb b o hb e) f0 f1 f3 f4 f5⟩
  self := fun _ _ _ _ _ st h => wpAny_pyIter_tupleiter st h
theorem turn_range {P : Program} {w : World} {K : PySem.W.Frag} {tg : Expr} (it : Addr) (lo : Int) (n : Nat) : Turn P w K tg (Itr lo n) [it] it (fun i h => IsRangeIter h it (lo + (i : Nat) * 1) ((n : Int) - (i : Nat)) 1) where
  mem := by simp
  obj := fun i h st b hb => by
    have e : b = it := by simpa using hb
    subst e
    exact ⟨_, st, fun v z => by
      have z' : Data.fields _ = Data.cell v := z
      cases z'⟩
  keep := fun i h h' st k => k it (by simp) _ st
  item := by
    intro X hP hw hK hc i pins s σ H E I hf st hg
    subst hP hw hK
    obtain ⟨f0, f1, f2, f3, f4, f5⟩ := hf it (by simp)
    have W := Walks.range (prog := X.prog) (w := X.w) (I.ok.hd hc) it lo 1 n
    refine W.item i s _ _ hg st fun v h' tk hv st' kk => ?_
    obtain ⟨t, rfl⟩ := hv
    have I1 : Inv X pins σ H { s with heap := h', toks := tk } := I.turned (fun b o hb e => kk b o (by simpa using hb) e) f0 f1 f3 f4 f5
    refine ⟨_, rfl, go_of (s := { s with heap := h', toks := tk }) (n := "range_iterator") st' rfl rfl (by decide) ⟨.int (lo + i), H, I1, ⟨t, ?_⟩, ⟨rfl, rfl⟩, st', fun b hb => (hf b hb).1⟩⟩
    rw [Int.mul_one]
  done := by
    intro X hP hw hK hc i pins s σ H E I hf st hg
    subst hP hw hK
    obtain ⟨f0, f1, f2, f3, f4, f5⟩ := hf it (by simp)
    exact wpAny_pyNext_range_end (I.ok.hd hc) st (by have : n ≤ i := hg; omega) fun h' eb => ⟨rfl, I.turned (t' := s.toks) (fun b o hb e => eb b o hb e) f0 f1 f3 f4 f5⟩
  self := fun _ _ _ _ _ st h => wpAny_pyIter_rangeiter st h
end L2
namespace L2
open PySem PySem.Spec PyProof.Rows
section
variable {X : Cx} {tg : Expr}
def iList (K : PySem.W.Frag) (tl : TE) : TI := fun σ H R => tl σ H fun x H1 => ∃ a, x = .ref a ∧ (∃ xs, SqL K H1 a xs) ∧ R (Itl K a) H1
def iTup (K : PySem.W.Frag) (tl : TE) : TI := fun σ H R => tl σ H fun x H1 => ∃ a, x = .ref a ∧ (∃ xs, SqT K H1 a xs) ∧ R (Itt K a) H1
theorem pi_list {l : Expr} {tl : TE} (hl : PE X l tl) : PI X tg l (iList X.K tl) := by
  intro pins s σ H R I h
  refine thn (hl pins s σ H _ I h) fun v s1 ⟨x, H1, I1, r1, q1⟩ => ?_
  obtain ⟨a, e, ⟨xs, hq⟩, q⟩ := q1
  subst e
  cases r1
  obtain ⟨its, rv, p, hz⟩ := I1.list hq
  refine wpAny_pyIter_list p.isList ?_
  refine ⟨s1.heap.objs.size, [s1.heap.objs.size], _, _, H1, rfl, I1.kept (t' := s1.toks) fun b o e => Heap.get?_push_of_some _ e, turn_list a _, ⟨_, Heap.get?_push_size _ rfl, rfl, rfl⟩, fun b hb => ?_, q⟩
  have e : b = s1.heap.objs.size := by simpa using hb
  subst e
  exact I1.fpOk (Nat.le_refl _) (I1.hok.fresh (Nat.le_refl _))
theorem pi_tup {l : Expr} {tl : TE} (hl : PE X l tl) : PI X tg l (iTup X.K tl) := by
  intro pins s σ H R I h
  refine thn (hl pins s σ H _ I h) fun v s1 ⟨x, H1, I1, r1, q1⟩ => ?_
  obtain ⟨a, e, ⟨xs, hq⟩, q⟩ := q1
  subst e
  cases r1
  obtain ⟨its, rv, p, hz⟩ := I1.tuple hq
  refine wpAny_pyIter_tuple (show s1.heap.IsTuple a its.toArray from p) ?_
  refine ⟨s1.heap.objs.size, [s1.heap.objs.size], _, _, H1, rfl, I1.kept (t' := s1.toks) fun b o e => Heap.get?_push_of_some _ e, turn_tuple a _, ⟨_, Heap.get?_push_size _ rfl, rfl, rfl⟩, fun b hb => ?_, q⟩
  have e : b = s1.heap.objs.size := by simpa using hb
  subst e
  exact I1.fpOk (Nat.le_refl _) (I1.hok.fresh (Nat.le_refl _))
theorem range_it {pins : List (Addr × Obj)} {σ : St} {H : Hp} {s : Shared} {R : It → Hp → Prop} {E : Value → Shared → Prop} {lo hi : Int} {t u v : Tok} {tk : Nat} (I : Inv X pins σ H s) (h1 : -(2 ^ 62) ≤ lo) (h2 : lo < 2 ^ 62) (h3 : -(2 ^ 62) ≤ hi) (h4 : hi < 2 ^ 62)
    (q : R (Itr lo (hi - lo).toNat) H) : wpAny (model X.prog X.w) X.A (pyIter (.ref s.heap.objs.size)) (PIE X pins σ tg R) E { s with heap := s.heap.push { cls := .type "range", data := .fields #[.int lo t, .int hi u, .int 1 v] }, toks := tk } := by
  refine wpAny_pyIter_range (IsRange.new ..) (small_one h1 h2 h3 h4) ?_
  have I1 : Inv X pins σ H { s with heap := s.heap.push { cls := .type "range", data := .fields #[.int lo t, .int hi u, .int 1 v] }, toks := tk } := I.kept fun b o e => Heap.get?_push_of_some _ e
  refine ⟨(s.heap.push { cls := .type "range", data := .fields #[.int lo t, .int hi u, .int 1 v] }).objs.size, [(s.heap.push { cls := .type "range", data := .fields #[.int lo t, .int hi u, .int 1 v] }).objs.size], _, _, H, rfl,
    I1.kept (t' := tk) fun b o e => Heap.get?_push_of_some _ e, turn_range _ lo (hi - lo).toNat, ?_, fun b hb => ?_, q⟩
  · have e1 : lo + ((0 : Nat) : Int) * 1 = lo := by simp
    have e2 : (((hi - lo).toNat : Nat) : Int) - ((0 : Nat) : Int) = Builtin.Range.rangeSize lo hi 1 := by rw [rangeSize_one]; split <;> omega
    show IsRangeIter _ _ (lo + ((0 : Nat) : Int) * 1) ((((hi - lo).toNat : Nat) : Int) - ((0 : Nat) : Int)) 1
    rw [e1, e2]
    exact Heap.get?_push_size _ rfl
  · have e : b = (s.heap.push { cls := .type "range", data := .fields #[.int lo t, .int hi u, .int 1 v] }).objs.size := by simpa using hb
    subst e
    exact I1.fpOk (Nat.le_refl _) (I1.hok.fresh (Nat.le_refl _))
def iRng1 (ta : TA) : TI := fun σ H R => ta σ H fun vs H1 => ∃ j : Int, vs = [.int j] ∧ -(2 ^ 62) ≤ j ∧ j < 2 ^ 62 ∧ R (Itr 0 j.toNat) H1
def iRng2 (ta : TA) : TI := fun σ H R => ta σ H fun vs H1 => ∃ i j : Int, vs = [.int i, .int j] ∧ (-(2 ^ 62) ≤ i ∧ i < 2 ^ 62 ∧ -(2 ^ 62) ≤ j ∧ j < 2 ^ 62) ∧ R (Itr i (j - i).toNat) H1
theorem pi_range1 {a : Expr} {ta : TA} {p pos : Pos} (hg : Gl X "range") (hm : X.mg "range" = none) (ha : PA X [a] ta) (hs : starEach [a] X.env = [(false, eval a X.env)] := by rfl) : PI X tg (.Call (.Name "range" p) [a] [] pos) (iRng1 ta) := by
  intro pins s σ H R I h
  refine Call_ (ld_blt I hg hm boot_range (PyProof.Rows.callWith_type1 (thn (ha pos pins s σ H _ I h) fun us s1 ⟨vs, H1, I1, r1, q1⟩ => ?_) hs rfl))
  obtain ⟨j, e, q1, q2, q⟩ := q1
  subst e
  cases r1 with
  | cons r rr =>
    cases rr
    obtain ⟨t, rfl⟩ := r
    exact call_range_1 (range_it I1 (by omega) (by omega) q1 q2 (by simpa using q))
theorem pi_range2 {a b : Expr} {ta : TA} {p pos : Pos} (hg : Gl X "range") (hm : X.mg "range" = none) (ha : PA X [a, b] ta) (hs : starEach [a, b] X.env = [(false, eval a X.env), (false, eval b X.env)] := by rfl) (hs2 : starEach [b] X.env = [(false, eval b X.env)] := by rfl) :
    PI X tg (.Call (.Name "range" p) [a, b] [] pos) (iRng2 ta) := by
  intro pins s σ H R I h
  refine Call_ (ld_blt I hg hm boot_range (PyProof.Rows.callWith_type1 (thn (ha pos pins s σ H _ I h) fun us s1 ⟨vs, H1, I1, r1, q1⟩ => ?_) (by rw [hs, hs2]) (by rw [hs2]; rfl)))
  obtain ⟨i, j, e, ⟨q1, q2, q3, q4⟩, q⟩ := q1
  subst e
  cases r1 with
  | cons r rr =>
    cases rr with
    | cons r' rr =>
      cases rr
      obtain ⟨t, rfl⟩ := r
      obtain ⟨t', rfl⟩ := r'
      exact call_range_2 (range_it I1 q1 q2 q3 q4 q)
def tFor (wi : TI) (g : TG) (tb : TS) : TS := fun D σ H => wi σ H fun J H1 => ∃ W : Nat → Nat → St → Hp → Prop, (∃ m, W 0 m σ H1) ∧ ∀ i m σ H, W i m σ H →
  (J.stop i H ∧ D.nx σ H) ∨ (J.go i H ∧ ∃ N : St → Hp → Prop, (∀ σ' H', N σ' H' → ∃ m', m' < m ∧ W (i + 1) m' σ' H') ∧ ∀ x H', J.yld i H x H' → g x σ H' fun σ2 H2 => tb { D with nx := N, ct := N, bk := D.nx } σ2 H2)
def pinsAt (fp : List Addr) (h : Heap) : List (Addr × Obj) := fp.filterMap fun b => (h.get? b).map fun o => (b, o)
theorem mem_pinsAt {fp : List Addr} {h : Heap} {b : Addr} {o : Obj} (hb : b ∈ fp) (e : h.get? b = some o) : (b, o) ∈ pinsAt fp h := List.mem_filterMap.mpr ⟨b, hb, by rw [e]; rfl⟩
theorem of_pinsAt {fp : List Addr} {h : Heap} {p : Addr × Obj} (hp : p ∈ pinsAt fp h) : p.1 ∈ fp ∧ h.get? p.1 = some p.2 := by
  obtain ⟨b, hb, e⟩ := List.mem_filterMap.mp hp
  cases q : h.get? b with
  | none => rw [q] at e; cases e
  | some o =>
    rw [q] at e
    have e' : (b, o) = p := Option.some.inj e
    subst e'
    exact ⟨hb, q⟩
theorem Inv.pinned {pins : List (Addr × Obj)} {σ : St} {H : Hp} {s : Shared} {fp : List Addr} (I : Inv X pins σ H s) (hf : ∀ b ∈ fp, FpOk X pins H b) (ho : ∀ b ∈ fp, ∃ o, s.heap.get? b = some o ∧ ∀ v, o.data ≠ .cell v) : Inv X (pins ++ pinsAt fp s.heap) σ H s :=
  I.pins_of fun p hp => (List.mem_append.mp hp).elim (fun z => I.pin p (List.mem_append_right _ z)) fun z => by
    obtain ⟨hb, e⟩ := of_pinsAt z
    obtain ⟨f0, f1, f2, _⟩ := hf p.1 hb
    obtain ⟨o, e', d⟩ := ho p.1 hb
    rw [e] at e'; cases e'
    exact ⟨e, f0, f1, f2, d⟩
theorem Inv.unpinned {pins pl : List (Addr × Obj)} {σ : St} {H : Hp} {s : Shared} (I : Inv X (pins ++ pl) σ H s) : Inv X pins σ H s := I.pins_of fun p hp => I.pin p (List.mem_append_right _ (List.mem_append_left _ hp))
theorem ps_for {iter : Expr} {body : List Stmt} {wi : TI} {g : TG} {tb : TS} {pos : Pos} (hp : PassesOwn (model X.prog X.w) X.A X.env X.xe) (hc : X.calm = true) (hi : PI X tg iter wi) (hg : PG X tg g) (hb : PSs X body tb)
    (hs : ∀ x, foldedSetIterable iter X.env x = pure x := by intro _; rfl) : PS X (.For tg iter body [] pos) (tFor wi g tb) := by
  intro pins s σ H D I h
  refine wpAny_For (thn (hi pins s σ H _ I h) fun v s1 h1 => thn h1 fun itv s2 h2 => ?_) hs
  obtain ⟨it, fp, tn, J, H2, e, I2, T, st2, f2, W, ⟨m0, w0⟩, turn⟩ := h2
  subst e
  have stat : ∀ {H' : Hp}, (∀ b ∈ fp, H' b = none) → ∀ b ∈ fp, FpOk X pins H' b := fun hn b hb => ⟨hn b hb, (f2 b hb).2⟩
  refine codeAny_forLoop_any (fun n s' => ∃ i σ' H', Inv X pins σ' H' s' ∧ tn i s'.heap ∧ (∀ b ∈ fp, H' b = none) ∧ W i n σ' H') ?_ m0 ⟨0, σ, H2, I2, st2, fun b hb => (f2 b hb).1, w0⟩
  rintro n s3 ⟨i, σ3, H3, I3, st3, fr3, w3⟩
  rcases turn i n σ3 H3 w3 with ⟨stop, qn⟩ | ⟨go, N, hN, step⟩
  · refine wpAny_passesOwn hp (thn (T.done X rfl rfl rfl hc i pins s3 σ3 H3 X.xe I3 (stat fr3) st3 stop) fun r s4 ⟨hr, I4⟩ => ?_)
    subst hr
    exact wpAny_execs_nil ⟨σ3, H3, I4, qn⟩
  · refine wpAny_passesOwn hp (thn (T.item X rfl rfl rfl hc i pins s3 σ3 H3 X.xe I3 (stat fr3) st3 go) fun r s4 ⟨u, hr, h4⟩ => ?_)
    subst hr
    refine wpAny_passesOwn hp (thn h4 fun _ s5 ⟨x, H5, I5, r5, y5, st5, fr5⟩ => ?_)
    have I5' := I5.pinned (stat fr5) (T.obj _ _ st5)
    refine wpAny_passesOwn hp (thn (hg _ s5 σ3 H5 x u _ I5' r5 (step x H5 y5)) fun _ s6 ⟨σ6, H6, I6, q6⟩ => ?_)
    refine wpAny_passesOwn hp (thn (hb _ s6 σ6 H6 _ I6 q6) fun f s7 q7 => ?_)
    have again : ∀ {σ7 : St} {H7 : Hp}, Inv X (pins ++ pinsAt fp s5.heap) σ7 H7 s7 → N σ7 H7 → ∃ m, m < n ∧ ∃ i σ' H', Inv X pins σ' H' s7 ∧ tn i s7.heap ∧ (∀ b ∈ fp, H' b = none) ∧ W i m σ' H' := fun {σ7 H7} I7 n7 => by
      obtain ⟨m', hm, w7⟩ := hN σ7 H7 n7
      refine ⟨m', hm, i + 1, σ7, H7, I7.unpinned, T.keep _ _ _ st5 fun b hb o e => (I7.pin (b, o) (List.mem_append_right _ (List.mem_append_right _ (mem_pinsAt hb e)))).1, fun b hb => ?_, w7⟩
      obtain ⟨o, e, d⟩ := T.obj _ _ st5 b hb
      exact (I7.pin (b, o) (List.mem_append_right _ (List.mem_append_right _ (mem_pinsAt hb e)))).2.1
    cases f with
    | next => obtain ⟨σ7, H7, I7, n7⟩ := q7; exact again I7 n7
    | cont => obtain ⟨σ7, H7, I7, n7⟩ := q7; exact again I7 n7
    | brk => obtain ⟨σ7, H7, I7, q7⟩ := q7; exact ⟨σ7, H7, I7.unpinned, q7⟩
    | ret v => obtain ⟨x7, σ7, H7, I7, r7, q7⟩ := q7; exact ⟨x7, σ7, H7, I7.unpinned, r7, q7⟩
end
theorem for_list {K : PySem.W.Frag} {a : Addr} {xs : List V} {g : TG} {tb : TS} {D : Ends} {σ : St} {H : Hp} (Pv : Nat → St → Hp → Prop) (h0 : Pv 0 σ H) (hl : ∀ i σ H, i ≤ xs.length → Pv i σ H → SqL K H a xs)
    (hs : ∀ i x σ H, xs[i]? = some x → Pv i σ H → g x σ H fun σ2 H2 => tb { D with nx := Pv (i + 1), ct := Pv (i + 1), bk := D.nx } σ2 H2) (hd : ∀ σ H, Pv xs.length σ H → D.nx σ H) :
    ∃ W : Nat → Nat → St → Hp → Prop, (∃ m, W 0 m σ H) ∧ ∀ i m σ H, W i m σ H →
      ((Itl K a).stop i H ∧ D.nx σ H) ∨ ((Itl K a).go i H ∧ ∃ N : St → Hp → Prop, (∀ σ' H', N σ' H' → ∃ m', m' < m ∧ W (i + 1) m' σ' H') ∧ ∀ x H', (Itl K a).yld i H x H' → g x σ H' fun σ2 H2 => tb { D with nx := N, ct := N, bk := D.nx } σ2 H2) := by
  refine ⟨fun i m σ H => m = xs.length - i ∧ i ≤ xs.length ∧ Pv i σ H, ⟨xs.length, by simp, Nat.zero_le _, h0⟩, ?_⟩
  rintro i m σ H ⟨rfl, hi, p⟩
  have q := hl i σ H hi p
  by_cases hlt : i < xs.length
  · refine .inr ⟨⟨xs, xs[i], q, by simp [hlt]⟩, Pv (i + 1), fun σ' H' p' => ⟨xs.length - (i + 1), by omega, rfl, hlt, p'⟩, fun x H' y => ?_⟩
    obtain ⟨e, y⟩ := y
    subst e
    exact hs i x σ _ (y xs q) p
  · have e : i = xs.length := by omega
    subst e
    exact .inl ⟨⟨xs, q, Nat.le_refl _⟩, hd σ H p⟩
theorem for_tup {K : PySem.W.Frag} {a : Addr} {xs : List V} {g : TG} {tb : TS} {D : Ends} {σ : St} {H : Hp} (Pv : Nat → St → Hp → Prop) (h0 : Pv 0 σ H) (hl : ∀ i σ H, i ≤ xs.length → Pv i σ H → SqT K H a xs)
    (hs : ∀ i x σ H, xs[i]? = some x → Pv i σ H → g x σ H fun σ2 H2 => tb { D with nx := Pv (i + 1), ct := Pv (i + 1), bk := D.nx } σ2 H2) (hd : ∀ σ H, Pv xs.length σ H → D.nx σ H) :
    ∃ W : Nat → Nat → St → Hp → Prop, (∃ m, W 0 m σ H) ∧ ∀ i m σ H, W i m σ H →
      ((Itt K a).stop i H ∧ D.nx σ H) ∨ ((Itt K a).go i H ∧ ∃ N : St → Hp → Prop, (∀ σ' H', N σ' H' → ∃ m', m' < m ∧ W (i + 1) m' σ' H') ∧ ∀ x H', (Itt K a).yld i H x H' → g x σ H' fun σ2 H2 => tb { D with nx := N, ct := N, bk := D.nx } σ2 H2) := by
  refine ⟨fun i m σ H => m = xs.length - i ∧ i ≤ xs.length ∧ Pv i σ H, ⟨xs.length, by simp, Nat.zero_le _, h0⟩, ?_⟩
  rintro i m σ H ⟨rfl, hi, p⟩
  have q := hl i σ H hi p
  by_cases hlt : i < xs.length
  · refine .inr ⟨⟨xs, xs[i], q, by simp [hlt]⟩, Pv (i + 1), fun σ' H' p' => ⟨xs.length - (i + 1), by omega, rfl, hlt, p'⟩, fun x H' y => ?_⟩
    obtain ⟨e, y⟩ := y
    subst e
    exact hs i x σ _ (y xs q) p
  · have e : i = xs.length := by omega
    subst e
    exact .inl ⟨⟨xs, q, Nat.le_refl _⟩, hd σ H p⟩
theorem for_range {lo : Int} {n : Nat} {g : TG} {tb : TS} {D : Ends} {σ : St} {H : Hp} (Pv : Nat → St → Hp → Prop) (h0 : Pv 0 σ H)
    (hs : ∀ i σ H, i < n → Pv i σ H → g (.int (lo + i)) σ H fun σ2 H2 => tb { D with nx := Pv (i + 1), ct := Pv (i + 1), bk := D.nx } σ2 H2) (hd : ∀ σ H, Pv n σ H → D.nx σ H) :
    ∃ W : Nat → Nat → St → Hp → Prop, (∃ m, W 0 m σ H) ∧ ∀ i m σ H, W i m σ H →
      ((Itr lo n).stop i H ∧ D.nx σ H) ∨ ((Itr lo n).go i H ∧ ∃ N : St → Hp → Prop, (∀ σ' H', N σ' H' → ∃ m', m' < m ∧ W (i + 1) m' σ' H') ∧ ∀ x H', (Itr lo n).yld i H x H' → g x σ H' fun σ2 H2 => tb { D with nx := N, ct := N, bk := D.nx } σ2 H2) := by
  refine ⟨fun i m σ H => m = n - i ∧ i ≤ n ∧ Pv i σ H, ⟨n, by simp, Nat.zero_le _, h0⟩, ?_⟩
  rintro i m σ H ⟨rfl, hi, p⟩
  by_cases hlt : i < n
  · refine .inr ⟨hlt, Pv (i + 1), fun σ' H' p' => ⟨n - (i + 1), by omega, rfl, hlt, p'⟩, fun x H' y => ?_⟩
    obtain ⟨e, y⟩ := y
    subst e y
    exact hs i σ _ hlt p
  · have e : i = n := by omega
    subst e
    exact .inl ⟨Nat.le_refl _, hd σ H p⟩
end L2
namespace L2
open PySem PySem.Spec PyProof.Rows
abbrev R2 := V → V → Hp → VK → Prop
def OpR (X : Cx) (f : Value → Value → Sem Value) (r : R2) : Prop :=
  ∀ (pins : List (Addr × Obj)) (s : Shared) (σ : St) (H : Hp) (x y : V) (v u : Value) (Q : VK), Inv X pins σ H s → RelV x v → RelV y u → r x y H Q →
    wpAny (model X.prog X.w) X.A (f v u) (EP X pins σ Q) X.xe s
def UnR (X : Cx) (f : Value → Sem Value) (r : V → Hp → VK → Prop) : Prop :=
  ∀ (pins : List (Addr × Obj)) (s : Shared) (σ : St) (H : Hp) (x : V) (v : Value) (Q : VK), Inv X pins σ H s → RelV x v → r x H Q →
    wpAny (model X.prog X.w) X.A (f v) (EP X pins σ Q) X.xe s
def CallR (X : Cx) (f : Value) (r : List V → Hp → VK → Prop) : Prop :=
  ∀ (pins : List (Addr × Obj)) (s : Shared) (σ : St) (H : Hp) (xs : List V) (us : List Value) (Q : VK), Inv X pins σ H s → Vals xs us → r xs H Q →
    wpAny (model X.prog X.w) X.A (call f us) (EP X pins σ Q) X.xe s
def tOp (r : R2) (ta tb : TE) : TE := fun σ H Q => ta σ H fun x H1 => tb σ H1 fun y H2 => r x y H2 Q
def tUn (r : V → Hp → VK → Prop) (ta : TE) : TE := fun σ H Q => ta σ H fun x H1 => r x H1 Q
def rI (C : Int → Int → Prop) (g : Int → Int → V) : R2 := fun x y H Q => ∃ i j, x = .int i ∧ y = .int j ∧ C i j ∧ Q (g i j) H
def rI0 (g : Int → Int → V) : R2 := fun x y H Q => ∃ i j, x = .int i ∧ y = .int j ∧ Q (g i j) H
def rU (g : Int → V) : V → Hp → VK → Prop := fun x H Q => ∃ i, x = .int i ∧ Q (g i) H
section
variable {X : Cx} {a b c : Expr} {ta tb tc : TE} {pos : Pos}
theorem binT (ha : PE X a ta) (hb : PE X b tb) {pins : List (Addr × Obj)} {s : Shared} {σ : St} {H : Hp} {R : V → V → Hp → Prop} (I : Inv X pins σ H s)
    (h : ta σ H fun x H1 => tb σ H1 fun y H2 => R x y H2) {Q : Value → Shared → Prop} {f : Value → Value → Sem Value}
    (hf : ∀ v u s2 x y H2, Inv X pins σ H2 s2 → RelV x v → RelV y u → R x y H2 → wpAny (model X.prog X.w) X.A (f v u) Q X.xe s2) :
    wpAny (model X.prog X.w) X.A (eval a X.env) (fun v s₁ => wpAny (model X.prog X.w) X.A (eval b X.env) (fun u s₂ => wpAny (model X.prog X.w) X.A (f v u) Q X.xe s₂) X.xe s₁) X.xe s := by
  refine thn (ha pins s σ H _ I h) fun v s1 ⟨x, H1, I1, r1, q1⟩ => ?_
  refine thn (hb pins s1 σ H1 _ I1 q1) fun u s2 ⟨y, H2, I2, r2, q2⟩ => ?_
  exact hf v u s2 x y H2 I2 r1 r2 q2
theorem pe_op {op : Operator} {r : R2} (ho : OpR X (binaryOp op) r) (ha : PE X a ta) (hb : PE X b tb) : PE X (.BinOp a op b pos) (tOp r ta tb) := by
  intro pins s σ H Q I h
  exact wpAny_BinOp (binT ha hb I h fun v u s2 x y H2 I2 rx ry q => ho pins s2 σ H2 x y v u Q I2 rx ry q)
theorem pe_un {op : UnaryOp} {r : V → Hp → VK → Prop} (ho : UnR X (unaryOp op) r) (ha : PE X a ta) : PE X (.UnaryOp op a pos) (tUn r ta) := by
  intro pins s σ H Q I h
  exact UnaryOp_ (thn (ha pins s σ H _ I h) fun v s1 ⟨x, H1, I1, r1, q1⟩ => ho pins s1 σ H1 x v Q I1 r1 q1)
theorem opI {f : Value → Value → Sem Value} {C : Int → Int → Prop} {g : Int → Int → Int}
    (rule : ∀ (i j : Int) (t u : Tok) (s : Shared) (Q : Value → Shared → Prop) (E : Value → Shared → Prop), C i j → Q (.int (g i j) s.toks) { s with toks := s.toks + 1 } → wpAny (model X.prog X.w) X.A (f (.int i t) (.int j u)) Q E s) :
    OpR X f (rI C fun i j => .int (g i j)) := by
  intro pins s σ H x y v u Q I rx ry h
  obtain ⟨i, j, rfl, rfl, hc, q⟩ := h
  obtain ⟨t, rfl⟩ := rx
  obtain ⟨t', rfl⟩ := ry
  exact rule i j t t' s _ _ hc ⟨.int (g i j), H, I.tok _, ⟨_, rfl⟩, q⟩
theorem opI0 {f : Value → Value → Sem Value} {g : Int → Int → Int}
    (rule : ∀ (i j : Int) (t u : Tok) (s : Shared) (Q : Value → Shared → Prop) (E : Value → Shared → Prop), Q (.int (g i j) s.toks) { s with toks := s.toks + 1 } → wpAny (model X.prog X.w) X.A (f (.int i t) (.int j u)) Q E s) :
    OpR X f (rI0 fun i j => .int (g i j)) := by
  intro pins s σ H x y v u Q I rx ry h
  obtain ⟨i, j, rfl, rfl, q⟩ := h
  obtain ⟨t, rfl⟩ := rx
  obtain ⟨t', rfl⟩ := ry
  exact rule i j t t' s _ _ ⟨.int (g i j), H, I.tok _, ⟨_, rfl⟩, q⟩
theorem opB0 {f : Value → Value → Sem Value} {g : Int → Int → Bool}
    (rule : ∀ (i j : Int) (t u : Tok) (s : Shared) (Q : Value → Shared → Prop) (E : Value → Shared → Prop), Q (.bool (g i j)) s → wpAny (model X.prog X.w) X.A (f (.int i t) (.int j u)) Q E s) :
    OpR X f (rI0 fun i j => .bl (g i j)) := by
  intro pins s σ H x y v u Q I rx ry h
  obtain ⟨i, j, rfl, rfl, q⟩ := h
  obtain ⟨t, rfl⟩ := rx
  obtain ⟨t', rfl⟩ := ry
  exact rule i j t t' s _ _ ⟨.bl (g i j), H, I, rfl, q⟩
def CDiv (i j : Int) : Prop := 0 < j ∧ j < 1073741824
def CPow (i j : Int) : Prop := 0 ≤ j ∧ j ≤ 1000000 ∧ i.natAbs < 2 ^ 64
def CMul (i j : Int) : Prop := (-(2 ^ 64) < i ∧ i < 2 ^ 64) ∨ (-(2 ^ 64) < j ∧ j < 2 ^ 64)
theorem CMul.ok {i j : Int} (h : CMul i j) : IntMulOk i j := by
  rcases h with ⟨h1, h2⟩ | ⟨h1, h2⟩
  · exact .of_left (intBits_le_64 h1 h2)
  · exact .of_right (intBits_le_64 h1 h2)
theorem op_add : OpR X (binaryOp .Add) (rI0 fun i j => .int (i + j)) := opI0 fun _ _ _ _ _ _ _ q => add_int q
theorem op_sub : OpR X (binaryOp .Sub) (rI0 fun i j => .int (i - j)) := opI0 fun _ _ _ _ _ _ _ q => sub_int q
theorem op_mul : OpR X (binaryOp .Mult) (rI CMul fun i j => .int (i * j)) := opI fun _ _ _ _ _ _ _ hc q => mul_int q hc.ok
theorem op_fdiv : OpR X (binaryOp .FloorDiv) (rI CDiv fun i j => .int (i / j)) := opI fun i j _ _ _ _ _ hc q => by
  have h1 : (0 : Int) < j := hc.1
  have h2 : j < 1073741824 := hc.2
  exact floordiv_int (by omega) (by rw [Int.fdiv_eq_ediv_of_nonneg i (by omega)]; exact q) (.inl (PyProof.noPylong_small (by omega)))
theorem op_mod : OpR X (binaryOp .Mod) (rI (fun _ j => 0 < j) fun i j => .int (i % j)) := opI fun i j _ _ _ _ _ hc q => by
  have h1 : (0 : Int) < j := hc
  exact mod_int' (by omega) (by rw [Int.fmod_eq_emod_of_nonneg i (by omega)]; exact q)
theorem op_pow : OpR X (binaryOp .Pow) (rI CPow fun i j => .int (i ^ j.toNat)) := opI fun _ _ _ _ _ _ _ hc q => pow_int_small hc.1 hc.2.1 hc.2.2 q
theorem unI {f : Value → Sem Value} {g : Int → Int}
    (rule : ∀ (i : Int) (t : Tok) (s : Shared) (Q : Value → Shared → Prop) (E : Value → Shared → Prop), Q (.int (g i) s.toks) { s with toks := s.toks + 1 } → wpAny (model X.prog X.w) X.A (f (.int i t)) Q E s) :
    UnR X f (rU fun i => .int (g i)) := by
  intro pins s σ H x v Q I rx h
  obtain ⟨i, rfl, q⟩ := h
  obtain ⟨t, rfl⟩ := rx
  exact rule i t s _ _ ⟨.int (g i), H, I.tok _, ⟨_, rfl⟩, q⟩
theorem un_neg : UnR X (unaryOp .USub) (rU fun i => .int (-i)) := unI fun _ _ _ _ _ q => neg_int q
end
def scal : V → V → Bool
  | .non, .non => true | .non, .int _ => true | .int _, .non => true | .non, .bl _ => true | .bl _, .non => true | .non, .str _ => true | .str _, .non => true
  | .int _, .int _ => true | .bl _, .bl _ => true | .str _, .str _ => true | .byt _, .byt _ => true
  | .int _, .str _ => true | .str _, .int _ => true | .bl _, .str _ => true | .str _, .bl _ => true
  | _, _ => false
def rEq : R2 := fun x y H Q => scal x y = true ∧ Q (.bl (decide (x = y))) H
def rNe : R2 := fun x y H Q => scal x y = true ∧ Q (.bl (!decide (x = y))) H
theorem dec_int {i j : Int} : decide (V.int i = V.int j) = (i == j) := by
  rw [Bool.eq_iff_iff]
  simp
theorem dec_bl {i j : Bool} : decide (V.bl i = V.bl j) = (i == j) := by
  rw [Bool.eq_iff_iff]
  simp
theorem dec_str {i j : Str} : decide (V.str i = V.str j) = (i == j) := by
  rw [Bool.eq_iff_iff]
  simp
theorem dec_byt {i j : Array UInt8} : decide (V.byt i = V.byt j) = (i.toList == j.toList) := by
  rw [Bool.eq_iff_iff]
  cases i
  cases j
  simp
section
variable {X : Cx} {a b c : Expr} {ta tb tc : TE} {pos : Pos}
theorem fin_bl {pins : List (Addr × Obj)} {σ : St} {H : Hp} {s : Shared} {Q : VK} {k k' : Bool} (I : Inv X pins σ H s) (q : Q (.bl k) H) (e : k = k') : EP X pins σ Q (.bool k') s := by
  subst e
  exact ⟨.bl k, H, I, rfl, q⟩
theorem op_eq : OpR X (compareOp .Eq) rEq := by
  intro pins s σ H x y v u Q I rx ry h
  obtain ⟨hs, q⟩ := h
  cases x with
  | non =>
    cases rx
    cases y with
    | non => cases ry; exact PySem.EqNone.eq_none_none (fin_bl I q (by simp))
    | bl j => cases ry; exact PySem.EqNone.eq_none_bool (fin_bl I q (by simp))
    | int j => obtain ⟨t', rfl⟩ := ry; exact PySem.EqNone.eq_none_int (fin_bl I q (by simp))
    | str j => obtain ⟨t', rfl⟩ := ry; exact PySem.EqNone.eq_none_str (fin_bl I q (by simp))
    | _ => exact absurd (show false = true from hs) Bool.false_ne_true
  | bl i =>
    cases rx
    cases y with
    | non => cases ry; exact PySem.EqNone.eq_bool_none (fin_bl I q (by simp))
    | bl j => cases ry; exact eq_bool (fin_bl I q dec_bl)
    | str j => obtain ⟨t', rfl⟩ := ry; exact PySem.EqMixed.eq_bool_str (fin_bl I q (by simp))
    | _ => exact absurd (show false = true from hs) Bool.false_ne_true
  | int i =>
    obtain ⟨t, rfl⟩ := rx
    cases y with
    | non => cases ry; exact PySem.EqNone.eq_int_none (fin_bl I q (by simp))
    | int j => obtain ⟨t', rfl⟩ := ry; exact eq_int (fin_bl I q dec_int)
    | str j => obtain ⟨t', rfl⟩ := ry; exact PySem.EqMixed.eq_int_str (fin_bl I q (by simp))
    | _ => exact absurd (show false = true from hs) Bool.false_ne_true
  | str i =>
    obtain ⟨t, rfl⟩ := rx
    cases y with
    | non => cases ry; exact PySem.EqNone.eq_str_none (fin_bl I q (by simp))
    | bl j => cases ry; exact PySem.EqMixed.eq_str_bool (fin_bl I q (by simp))
    | int j => obtain ⟨t', rfl⟩ := ry; exact PySem.EqMixed.eq_str_int (fin_bl I q (by simp))
    | str j => obtain ⟨t', rfl⟩ := ry; exact eq_str (fin_bl I q dec_str)
    | _ => exact absurd (show false = true from hs) Bool.false_ne_true
  | byt i =>
    obtain ⟨t, rfl⟩ := rx
    cases y with
    | byt j => obtain ⟨t', rfl⟩ := ry; exact PySem.W.eq_bytes (fin_bl I q dec_byt)
    | _ => exact absurd (show false = true from hs) Bool.false_ne_true
  | _ => cases y <;> exact absurd (show false = true from hs) Bool.false_ne_true
theorem op_ne : OpR X (compareOp .NotEq) rNe := by
  intro pins s σ H x y v u Q I rx ry h
  obtain ⟨hs, q⟩ := h
  cases x with
  | non =>
    cases rx
    cases y with
    | non => cases ry; exact PySem.EqNone.ne_none_none (fin_bl I q (by simp))
    | bl j => cases ry; exact PySem.EqNone.ne_none_bool (fin_bl I q (by simp))
    | int j => obtain ⟨t', rfl⟩ := ry; exact PySem.EqNone.ne_none_int (fin_bl I q (by simp))
    | str j => obtain ⟨t', rfl⟩ := ry; exact PySem.EqNone.ne_none_str (fin_bl I q (by simp))
    | _ => exact absurd (show false = true from hs) Bool.false_ne_true
  | bl i =>
    cases rx
    cases y with
    | non => cases ry; exact PySem.EqNone.ne_bool_none (fin_bl I q (by simp))
    | bl j => cases ry; exact ne_bool (fin_bl I q (congrArg not dec_bl))
    | str j => obtain ⟨t', rfl⟩ := ry; exact PySem.EqMixed.ne_bool_str (fin_bl I q (by simp))
    | _ => exact absurd (show false = true from hs) Bool.false_ne_true
  | int i =>
    obtain ⟨t, rfl⟩ := rx
    cases y with
    | non => cases ry; exact PySem.EqNone.ne_int_none (fin_bl I q (by simp))
    | int j => obtain ⟨t', rfl⟩ := ry; exact ne_int (fin_bl I q (congrArg not dec_int))
    | str j => obtain ⟨t', rfl⟩ := ry; exact PySem.EqMixed.ne_int_str (fin_bl I q (by simp))
    | _ => exact absurd (show false = true from hs) Bool.false_ne_true
  | str i =>
    obtain ⟨t, rfl⟩ := rx
    cases y with
    | non => cases ry; exact PySem.EqNone.ne_str_none (fin_bl I q (by simp))
    | bl j => cases ry; exact PySem.EqMixed.ne_str_bool (fin_bl I q (by simp))
    | int j => obtain ⟨t', rfl⟩ := ry; exact PySem.EqMixed.ne_str_int (fin_bl I q (by simp))
    | str j => obtain ⟨t', rfl⟩ := ry; exact ne_str (fin_bl I q (congrArg not dec_str))
    | _ => exact absurd (show false = true from hs) Bool.false_ne_true
  | byt i =>
    obtain ⟨t, rfl⟩ := rx
    cases y with
    | byt j => obtain ⟨t', rfl⟩ := ry; exact PySem.W.ne_bytes (fin_bl I q (congrArg not dec_byt))
    | _ => exact absurd (show false = true from hs) Bool.false_ne_true
  | _ => cases y <;> exact absurd (show false = true from hs) Bool.false_ne_true
theorem op_lt : OpR X (compareOp .Lt) (rI0 fun i j => .bl (decide (i < j))) := opB0 fun _ _ _ _ _ _ _ q => lt_int q
theorem op_le : OpR X (compareOp .LtE) (rI0 fun i j => .bl (decide (i ≤ j))) := opB0 fun _ _ _ _ _ _ _ q => le_int q
theorem op_gt : OpR X (compareOp .Gt) (rI0 fun i j => .bl (decide (j < i))) := opB0 fun _ _ _ _ _ _ _ q => gt_int q
theorem op_ge : OpR X (compareOp .GtE) (rI0 fun i j => .bl (decide (j ≤ i))) := opB0 fun _ _ _ _ _ _ _ q => ge_int q
theorem op_isN : OpR X (compareOp .Is) (fun x y H Q => y = .non ∧ Q (.bl (decide (x = .non))) H) := by
  intro pins s σ H x y v u Q I rx ry h
  obtain ⟨rfl, q⟩ := h
  cases ry
  refine is_none_gen (fin_bl I q ?_)
  cases x <;> first
    | (cases rx; rfl)
    | (obtain ⟨t, rfl⟩ := rx; rfl)
theorem op_notN : OpR X (compareOp .IsNot) (fun x y H Q => y = .non ∧ Q (.bl (!decide (x = .non))) H) := by
  intro pins s σ H x y v u Q I rx ry h
  obtain ⟨rfl, q⟩ := h
  cases ry
  refine isnot_none_gen (fin_bl I q ?_)
  cases x <;> first
    | (cases rx; rfl)
    | (obtain ⟨t, rfl⟩ := rx; rfl)
theorem OpR.or {f : Value → Value → Sem Value} {r r' : R2} (h : OpR X f r) (h' : OpR X f r') : OpR X f (fun x y H Q => r x y H Q ∨ r' x y H Q) := by
  intro pins s σ H x y v u Q I rx ry q
  rcases q with q | q
  · exact h pins s σ H x y v u Q I rx ry q
  · exact h' pins s σ H x y v u Q I rx ry q
theorem nomark (b : Expr) {op : CmpOp} (h : op ≠ .In := by decide) (h2 : op ≠ .NotIn := by decide) : behindInMarks op b = false := by
  have e1 : (op == CmpOp.In) = false := by cases op <;> first | rfl | exact absurd rfl h
  have e2 : (op == CmpOp.NotIn) = false := by cases op <;> first | rfl | exact absurd rfl h2
  cases b <;> simp [behindInMarks, e1, e2]
theorem pe_cmpR {op : CmpOp} {r : R2} (ho : OpR X (compareOp op) r) (ha : PE X a ta) (hb : PE X b tb) (hm : behindInMarks op b = false) : PE X (.Compare a [op] [b] pos) (tOp r ta tb) := by
  intro pins s σ H Q I h
  exact wpAny_Compare1 (binT ha hb I h fun v u s2 x y H2 I2 rx ry q => ho pins s2 σ H2 x y v u Q I2 rx ry q) hm
def tTest (t : TE) : TT := fun σ H Q => t σ H fun x H' => ∃ k, x = .bl k ∧ Q k H'
theorem pt_cmpR {op : CmpOp} {r : R2} (ho : OpR X (compareOp op) r) (ha : PE X a ta) (hb : PE X b tb) (hm : behindInMarks op b = false) : PT X (.Compare a [op] [b] pos) (tTest (tOp r ta tb)) := by
  intro pins s σ H Q I h
  refine wpAny_isTrue_Compare1 (thn (ha pins s σ H _ I h) fun v s1 ⟨x, H1, I1, r1, q1⟩ => thn (hb pins s1 σ H1 _ I1 q1) fun u s2 ⟨y, H2, I2, r2, q2⟩ =>
    thn (ho pins s2 σ H2 x y v u _ I2 r1 r2 q2) fun c s3 ⟨z, H3, I3, r3, k, e, q3⟩ => ?_) hm
  subst e
  cases r3
  exact wpAny_truthy_bool ⟨H3, I3, q3⟩
def tChain (r r' : R2) (ta tb tc : TE) : TE := fun σ H Q => ta σ H fun x H1 => tb σ H1 fun y H2 => r x y H2 fun z H3 => ∃ k, z = .bl k ∧
  (if k = true then tc σ H3 fun w' H4 => r' y w' H4 Q else Q (.bl false) H3)
theorem pe_chain {op op' : CmpOp} {r r' : R2} (ho : OpR X (compareOp op) r) (ho' : OpR X (compareOp op') r') (ha : PE X a ta) (hb : PE X b tb) (hc : PE X c tc)
    (hm : lastMarks [op, op'] [b, c] = false := by with_unfolding_all rfl) : PE X (.Compare a [op, op'] [b, c] pos) (tChain r r' ta tb tc) := by
  intro pins s σ H Q I h
  refine Compare_chain (thn (ha pins s σ H _ I h) fun v s1 ⟨x, H1, I1, r1, q1⟩ => chain_link (thn (hb pins s1 σ H1 _ I1 q1) fun u s2 ⟨y, H2, I2, r2, q2⟩ =>
    thn (ho pins s2 σ H2 x y v u _ I2 r1 r2 q2) fun d s3 ⟨z, H3, I3, r3, k, e, q3⟩ => ?_)) hm
  subst e
  cases r3
  refine wpAny_truthy_bool ?_
  cases k with
  | false => exact ite_ff ⟨.bl false, H3, I3, rfl, q3⟩
  | true => exact ite_tt (chain_last (thn (hc pins s3 σ H3 _ I3 q3) fun w' s4 ⟨z', H4, I4, r4, q4⟩ => ho' pins s4 σ H4 y z' u w' Q I4 r2 r4 q4))
theorem line63 : (sizeLine : Nat) < 2 ^ 63 := by rw [sizeLine_eq]; decide
theorem op_add_str : OpR X (binaryOp .Add) (fun x y H Q => ∃ i j, x = .str i ∧ y = .str j ∧ i.length + j.length ≤ sizeLine ∧ Q (.str (i ++ j)) H) := by
  intro pins s σ H x y v u Q I rx ry h
  obtain ⟨i, j, rfl, rfl, hz, q⟩ := h
  obtain ⟨t, rfl⟩ := rx
  obtain ⟨t', rfl⟩ := ry
  exact add_str (fun t' tk => ⟨.str (i ++ j), H, I.tok _, ⟨_, rfl⟩, q⟩) hz
theorem vals1 {x : V} {us : List Value} (r : Vals [x] us) : ∃ u, us = [u] ∧ RelV x u := by
  cases r with
  | cons r1 r2 => cases r2; exact ⟨_, rfl, r1⟩
theorem vals2 {x y : V} {us : List Value} (r : Vals [x, y] us) : ∃ u w', us = [u, w'] ∧ RelV x u ∧ RelV y w' := by
  cases r with
  | cons r1 r2 =>
    cases r2 with
    | cons r3 r4 => cases r4; exact ⟨_, _, rfl, r1, r3⟩
theorem call_max2 (hc : X.calm = true) : CallR X (.builtin "max") (fun xs H Q => ∃ i j, xs = [.int i, .int j] ∧ Q (.int (if j > i then j else i)) H) := by
  intro pins s σ H xs us Q I r h
  obtain ⟨i, j, rfl, q⟩ := h
  obtain ⟨u, w', rfl, ⟨t, rfl⟩, ⟨t', rfl⟩⟩ := vals2 r
  refine max_two_ints (I.ok.hd hc) fun h' tk k => ⟨_, H, I.kept k, ?_, q⟩
  by_cases hj : j > i
  · rw [if_pos hj, if_pos hj]; exact ⟨_, rfl⟩
  · rw [if_neg hj, if_neg hj]; exact ⟨_, rfl⟩
theorem call_min2 (hc : X.calm = true) : CallR X (.builtin "min") (fun xs H Q => ∃ i j, xs = [.int i, .int j] ∧ Q (.int (if j < i then j else i)) H) := by
  intro pins s σ H xs us Q I r h
  obtain ⟨i, j, rfl, q⟩ := h
  obtain ⟨u, w', rfl, ⟨t, rfl⟩, ⟨t', rfl⟩⟩ := vals2 r
  refine min_two_ints (I.ok.hd hc) fun h' tk k => ⟨_, H, I.kept k, ?_, q⟩
  by_cases hj : j < i
  · rw [if_pos hj, if_pos hj]; exact ⟨_, rfl⟩
  · rw [if_neg hj, if_neg hj]; exact ⟨_, rfl⟩
theorem call_int1 : CallR X (.type "int") (fun xs H Q => (∃ i, xs = [.int i] ∧ Q (.int i) H) ∨ ∃ k, xs = [.bl k] ∧ Q (.int (if k then 1 else 0)) H) := by
  intro pins s σ H xs us Q I r h
  rcases h with ⟨i, rfl, q⟩ | ⟨k, rfl, q⟩
  · obtain ⟨u, rfl, t, rfl⟩ := vals1 r
    exact call_int_int ⟨.int i, H, I, ⟨_, rfl⟩, q⟩
  · obtain ⟨u, rfl, r1⟩ := vals1 r
    cases r1
    exact call_int_bool ⟨.int (if k then 1 else 0), H, I.tok _, ⟨_, rfl⟩, q⟩
theorem call_str_int : CallR X (.type "str") (fun xs H Q => ∃ i, xs = [.int i] ∧ i.natAbs.log2 < 1920 ∧ Q (.str (toString i)) H) := by
  intro pins s σ H xs us Q I r h
  obtain ⟨i, rfl, hz, q⟩ := h
  obtain ⟨u, rfl, t, rfl⟩ := vals1 r
  exact PySem.P.str_of_int hz ⟨.str _, H, I.tok _, ⟨_, rfl⟩, q⟩
end
end L2
namespace L2
open PySem PySem.Spec PyProof.Rows
structure ObjM (h : Heap) (x dx C : Addr) (mA : Str → Option Value) : Prop where
  obj : h.get? x = some (PySem.W.instObj C dx)
  ns : h.Ns1 dx mA
  ne : dx ≠ x
theorem lookIn_ns {h : Heap} {dx : Addr} {mA : Str → Option Value} (n : h.Ns1 dx mA) : ∃ od, h.get? dx = some od ∧ ∀ name, PySem.W.lookIn name od = some (mA name) := by
  obtain ⟨o, es, ep, ho, hd, hk, _, hm⟩ := n
  refine ⟨o, ho, fun name => ?_⟩
  have e := hm name
  unfold nsFind findBy at e
  rw [← Array.find?_toList] at e
  unfold PySem.W.lookIn
  rw [hd]
  dsimp only
  split
  · rename_i y q
    rw [q] at e
    exact congrArg some e
  · rename_i q
    rw [q] at e
    have a : es.toList.any (·.refKey) = false := by
      rw [List.any_eq_false]
      intro y hy
      obtain ⟨z, t, hkey⟩ := hk y (Array.mem_toList_iff.mp hy)
      simp [DictEntry.refKey, hkey]
    have a' : ¬ es.toList.any (·.refKey) = true := by rw [a]; exact Bool.false_ne_true
    rw [if_neg a']
    exact congrArg some e
theorem ObjM.look {h : Heap} {x dx C : Addr} {mA : Str → Option Value} (I : ObjM h x dx C mA) : ∃ od, PySem.W.InstAt h x (PySem.W.instObj C dx) C (some od) ∧ ∀ name, PySem.W.lookIn name od = some (mA name) :=
  let ⟨od, ho, hl⟩ := lookIn_ns I.ns
  ⟨od, ⟨I.obj, rfl, rfl, ho⟩, hl⟩
section
variable {prog : Program} {w : World} {A : Around} {E : Value → Shared → Prop} {s : Shared} {K : PySem.W.Frag} {x dx C f : Addr} {mA : Str → Option Value} {name : Str} {v : Value}
end
section
variable {P : Program} {w : World} {H H' : Hp} {h h' : Heap} {a C dx : Addr} {fs fs' : List (Str × V)}
theorem ins_get (hok : HOk P w H h) (e : H a = some (.ins C dx fs)) : ∃ mA, ObjM h a dx C mA ∧ (∀ f, RelO (fs.lookup f) (mA f)) ∧ PySem.Within mA (fs.map (·.1)) ∧ fs.length ≤ 1000 ∧ H dx = some (.own a) := by
  obtain ⟨d, z, ne, ob, mA, n, r, q⟩ := (show ObjOk P w H h a (.ins C dx fs) from hok a _ e)
  exact ⟨mA, ⟨ob, n, ne⟩, r, q, z, d⟩
end
structure Cls (K : PySem.W.Frag) (C : Addr) : Prop where
  pg : PySem.W.plainGet K C Str.empty = true
  hd : PySem.W.hasDictIn K C = true
  po : PySem.W.plainOver K C = true
  sa : PySem.W.findIn K (.ref C) "__setattr__" = some (some (.builtin "object.__setattr__"))
theorem Cls.get {K : PySem.W.Frag} {C : Addr} (c : Cls K C) (f : Str) : PySem.W.plainGet K C f = true := c.pg
def NoAttr (K : PySem.W.Frag) (C : Addr) (f : Str) : Prop := PySem.W.findIn K (.ref C) f = some none
structure Con (K : PySem.W.Frag) (C : Addr) (f : Str) (v : V) (u : Value) : Prop where
  at_ : PySem.W.findIn K (.ref C) f = some (some u)
  rel : RelV v u
  get : PySem.W.specialIn K u "__get__" = some none
  cp : PySem.W.copiedNames.contains f = false
structure Meth (K : PySem.W.Frag) (C : Addr) (m : Str) (f : Addr) : Prop where
  at_ : PySem.W.findIn K (.ref C) m = some (some (.ref f))
  fn : PySem.W.isFn K (.ref f) = true
  kp : PySem.W.keepIn K (.ref f) = true
section
variable {X : Cx} {pins : List (Addr × Obj)} {σ : St} {H : Hp} {s : Shared} {a C dx : Addr} {fs : List (Str × V)} {f : Str} {v : V} {A : Around} {E : Value → Shared → Prop}
end
section
variable {X : Cx} {o e value : Expr} {f : Str} {pos pos' tpos : Pos} {ta tv : TE}
end
section
variable {X : Cx} {pins : List (Addr × Obj)} {σ : St} {H : Hp} {s : Shared} {A : Around} {E : Value → Shared → Prop} {Q : Value → Shared → Prop} {c : Value} {b : Bool}
inductive TyOf (K : PySem.W.Frag) (H : Hp) : V → Value → Prop where
  | non : TyOf K H .non (.type "NoneType")
  | bl (x : Bool) : TyOf K H (.bl x) (.type "bool")
  | int (i : Int) : TyOf K H (.int i) (.type "int")
  | str (x : Str) : TyOf K H (.str x) (.type "str")
  | flt (x : UInt64) : TyOf K H (.flt x) (.type "float")
  | lst {a : Addr} {xs : List V} (e : H a = some (.lst xs)) : TyOf K H (.ref a) (.type "list")
  | frz {a : Addr} {o : Obj} {xs : List V} (e : H a = some (.frz o (.lst xs))) : TyOf K H (.ref a) (.type "list")
  | tup {a : Addr} {xs : List V} (e : H a = some (.tup xs)) : TyOf K H (.ref a) (.type "tuple")
  | dK {a : Addr} {kvs : List (Key × V)} (e : H a = some (.dK kvs)) : TyOf K H (.ref a) (.type "dict")
  | dT {a : Addr} {kvs : List (List Key × V)} (e : H a = some (.dT kvs)) : TyOf K H (.ref a) (.type "dict")
  | ins {a C dx : Addr} {fs : List (Str × V)} (e : H a = some (.ins C dx fs)) (cl : Cls K C) (ha : PySem.W.findIn K (.ref C) "__class__" = some (some (.builtin "object.__class__")))
      (hn : PySem.W.specialIn K (.builtin "object.__class__") "__get__" = some (some (.builtin "getset_descriptor.__get__"))) (htk : PySem.W.takesIn K (.builtin "object.__class__") = some true)
      (hm : PySem.W.mroIn K C (.type "object") = some true) : TyOf K H (.ref a) (.ref C)
theorem isinst_ok {x : V} {u t : Value} (I : Inv X pins σ H s) (rx : RelV x u) (ty : TyOf X.K H x t) (e : PySem.W.kitOne X.K t c = some b) (h : ∀ tk, Q (.bool b) { s with toks := tk }) :
    wpAny (model X.prog X.w) A (call (.builtin "isinstance") [u, c]) Q E s := by
  cases ty with
  | non => cases (show u = Value.none from rx); exact PySem.W.kia_one PySem.W.kitx_none I.kIn True.intro e (fun z => nomatch z) h
  | bl y => cases (show u = Value.bool y from rx); exact PySem.W.kia_one PySem.W.kitx_bool I.kIn True.intro e (fun z => nomatch z) h
  | int i => obtain ⟨t, q⟩ := (show ∃ t, u = Value.int i t from rx); cases q; exact PySem.W.kia_one PySem.W.kitx_int I.kIn True.intro e (fun z => nomatch z) h
  | str y => obtain ⟨t, q⟩ := (show ∃ t, u = Value.str y t from rx); cases q; exact PySem.W.kia_one PySem.W.kitx_str I.kIn True.intro e (fun z => nomatch z) h
  | flt y => obtain ⟨t, q⟩ := (show ∃ t, u = Value.float y t from rx); cases q; exact PySem.W.kia_one PySem.W.kitx_float I.kIn True.intro e (fun z => nomatch z) h
  | @lst a xs ea =>
    cases (show u = Value.ref a from rx)
    obtain ⟨_, _, n, _, h1⟩ := (show ObjOk X.prog X.w H s.heap a (.lst xs) from I.hok a _ ea)
    exact PySem.W.kia_one PySem.W.kitx_list I.kIn ⟨_, h1, rfl⟩ e (fun z => nomatch z) h
  | @frz a ob xs ea =>
    cases (show u = Value.ref a from rx)
    obtain ⟨_, _, _, n, _, h1⟩ := (show ObjOk X.prog X.w H s.heap a (.frz ob (.lst xs)) from I.hok a _ ea)
    exact PySem.W.kia_one PySem.W.kitx_list I.kIn ⟨_, h1, rfl⟩ e (fun z => nomatch z) h
  | @tup a xs ea =>
    cases (show u = Value.ref a from rx)
    obtain ⟨_, _, _, p⟩ := (show ObjOk X.prog X.w H s.heap a (.tup xs) from I.hok a _ ea)
    obtain ⟨o, h1, h2, _⟩ := p
    exact PySem.W.kia_one PySem.W.kitx_tuple I.kIn ⟨o, h1, h2⟩ e (fun z => nomatch z) h
  | @dK a kvs ea =>
    cases (show u = Value.ref a from rx)
    obtain ⟨_, _, vs, _, p⟩ := (show ObjOk X.prog X.w H s.heap a (.dK kvs) from I.hok a _ ea)
    obtain ⟨o, es, ep, h1, h2, _⟩ := p
    exact PySem.W.kia_one PySem.W.kitx_dict I.kIn ⟨o, h1, h2.1⟩ e (fun z => nomatch z) h
  | @dT a kvs ea =>
    cases (show u = Value.ref a from rx)
    obtain ⟨_, _, xs, _, o, es, ep, h1, h2, _⟩ := (show ObjOk X.prog X.w H s.heap a (.dT kvs) from I.hok a _ ea)
    exact PySem.W.kia_one PySem.W.kitx_dict I.kIn ⟨o, h1, h2.1⟩ e (fun z => nomatch z) h
  | @ins a C dx fs ea cl ha hn htk hm =>
    cases (show u = Value.ref a from rx)
    obtain ⟨mA, O, _⟩ := ins_get I.hok ea
    obtain ⟨od, J, _⟩ := O.look
    exact PySem.W.kia_one (PySem.W.kitx_own (cl.get _) cl.hd ha hn htk hm) I.kIn J e (fun z => nomatch z) h
end
end L2
namespace L2
open PySem PySem.Spec PyProof.Rows
structure Room (k : Nat) (A : Around) : Prop where
  hd : A.handled = none
  dp : A.depth + 3 * k + 5 < recursionLimit
  un : A.units + 16 * k + 200 < cLine
theorem Room.mono {j k : Nat} {A : Around} (r : Room k A) (h : j ≤ k) : Room j A := ⟨r.hd, by have := r.dp; omega, by have := r.un; omega⟩
theorem Room.deeper {k : Nat} {A : Around} (r : Room (k + 1) A) (env : Env) : Room k (A.deeper env) :=
  ⟨r.hd, by have := r.dp; show A.depth + 1 + 3 * k + 5 < _; omega, by have := r.un; show A.units + 3 + 16 * k + 200 < _; omega⟩
theorem Room.in1 {k : Nat} {A : Around} (r : Room (k + 1) A) : Room k A.in1 :=
  ⟨r.hd, by have := r.dp; show A.depth + 3 * k + 5 < _; omega, by have := r.un; show A.units + 1 + 16 * k + 200 < _; omega⟩
theorem Room.depth {k : Nat} {A : Around} (r : Room k A) : A.depth < recursionLimit := by have := r.dp; omega
theorem Room.units {k : Nat} {A : Around} (r : Room k A) : A.units + 64 < cLine := by have := r.un; omega
def tNil : TA := fun _ H Q => Q [] H
def tCons (ta : TE) (tr : TA) : TA := fun σ H Q => ta σ H fun x H1 => tr σ H1 fun xs H2 => Q (x :: xs) H2
section
variable {X : Cx} {e : Expr} {es : List Expr} {te : TE} {t : TA} {pos : Pos}
theorem pa_nil : PA X [] tNil := fun _ _ _ _ H Q I h => Calls.spliced_nil ⟨[], H, I, .nil, h⟩
theorem pa_cons (ha : PE X e te) (hr : PA X es t) (hs : starEach (e :: es) X.env = (false, eval e X.env) :: starEach es X.env := by rfl) : PA X (e :: es) (tCons te t) := by
  intro pos pins s σ H Q I h
  rw [hs]
  show wpAny _ _ (spliced ((false, eval e X.env) :: backTo pos (starEach es X.env))) _ _ s
  refine Calls.spliced_cons (thn (ha pins s σ H _ I h) fun u s1 ⟨x, H1, I1, r1, q1⟩ => ?_)
  exact thn (hr pos pins s1 σ H1 _ I1 q1) fun us s2 ⟨xs, H2, I2, r2, q2⟩ => ⟨x :: xs, H2, I2, .cons r1 r2, q2⟩
def tTup (t : TA) : TE := fun σ H Q => t σ H fun xs H1 => xs.length ≤ sizeLine ∧ ∀ p, H1 p = none → Q (.ref p) (upd H1 p (.tup xs))
def tLst (t : TA) : TE := fun σ H Q => t σ H fun xs H1 => xs.length ≤ sizeLine ∧ ∀ p, H1 p = none → Q (.ref p) (upd H1 p (.lst xs))
theorem pe_tup {x1} (h : PA X es t) : PE X (.Tuple es x1 pos) (tTup t) := by
  intro pins s σ H Q I hq
  refine wpAny_Tuple_spliced (thn (h pos pins s σ H _ I hq) fun us s1 ⟨xs, H1, I1, r, z, q⟩ => ⟨by rw [← r.length]; exact z, ?_⟩)
  have hf : H1 s1.heap.objs.size = none := I1.hok.fresh (Nat.le_refl _)
  refine ⟨.ref s1.heap.objs.size, upd H1 s1.heap.objs.size (.tup xs), I1.laid (t' := s1.toks) (fun b u e => Heap.get?_push_of_some _ e) (Nat.le_refl _) ?_, rfl, q _ hf⟩
  exact ⟨z, us, r, ⟨_, Heap.get?_push_size _ rfl, rfl, _, rfl⟩⟩
theorem pe_lst (h : PA X es t) : PE X (.List es pos) (tLst t) := by
  intro pins s σ H Q I hq
  refine wpAny_List_spliced (thn (h pos pins s σ H _ I hq) fun us s1 ⟨xs, H1, I1, r, z, q⟩ => ⟨by rw [← r.length]; exact z, ?_⟩)
  have hf : H1 s1.heap.objs.size = none := I1.hok.fresh (Nat.le_refl _)
  refine ⟨.ref s1.heap.objs.size, upd H1 s1.heap.objs.size (.lst xs), I1.laid (t' := s1.toks) (fun b u e => Heap.get?_push_of_some _ e) (Nat.le_refl _) ?_, rfl, q _ hf⟩
  exact ⟨z, us, 0, r, Heap.get?_push_size _ rfl⟩
end
abbrev Sp := List V → Hp → VK → XK → Prop
abbrev CXT := List Env → Hp → Shared → XK → Value → Shared → Prop
structure Env0 (P : Program) (w : World) (K : PySem.W.Frag) (mg : Str → Option Value) (base : Heap) (A : Around) (outer : List Env) (s : Shared) (H : Hp) : Prop where
  frames : A.frames = some outer
  mod : Mod K mg base
  bs : ∀ b o, base.get? b = some o → s.heap.get? b = some o ∧ H b = none
  bsz : base.objs.size ≤ s.heap.objs.size
  funs : s.heap.FunFrames base outer
  frf : ∀ b ∈ frs outer, H b = none
  hok : HOk P w H s.heap
  bare : AllBare s.gens
def CE (outer : List Env) (P : Program) (w : World) (H : Hp) (s : Shared) (Q : VK) (u : Value) (s' : Shared) : Prop :=
  ∃ v H', s'.os = s.os ∧ AllBare s'.gens ∧ Un (frs outer) [] H H' s.heap s'.heap ∧ HOk P w H' s'.heap ∧ RelV v u ∧ Q v H'
def CR (CX : CXT) (outer : List Env) (P : Program) (w : World) (H : Hp) (s : Shared) (Q : VK) (E : XK) (r : Result) (s' : Shared) : Prop :=
  match r with
  | .ok (.ret u) => CE outer P w H s Q u s'
  | .ok _ => False
  | .error e => CX outer H s E e s'
structure FnOk (P : Program) (w : World) (K : PySem.W.Frag) (mg : Str → Option Value) (base : Heap) (CX : CXT) (k : Nat) (f : Addr) (fd : FuncData) (ps : List Str) (sp : Sp) : Prop where
  len : ∀ vs H Q E, sp vs H Q E → vs.length = ps.length
  run : ∀ (A : Around) (outer : List Env) (s : Shared) (H : Hp) (args : Args) (us : List Value) (vs : List V) (Q : VK) (E : XK), Room k A → Env0 P w K mg base A outer s H → BindsTo s fd args (ps.zip us) → Vals vs us → sp vs H Q E →
    codeAny (model P w) A (.call (.ref f) args) (CR CX outer P w H s Q E) s
theorem FnOk.mono {P : Program} {w : World} {K : PySem.W.Frag} {mg : Str → Option Value} {base : Heap} {CX : CXT} {j k : Nat} {f : Addr} {fd : FuncData} {ps : List Str} {sp : Sp} (F : FnOk P w K mg base CX j f fd ps sp) (h : j ≤ k) :
    FnOk P w K mg base CX k f fd ps sp := ⟨F.len, fun A outer s H args us vs Q E hr => F.run A outer s H args us vs Q E (hr.mono h)⟩
theorem Env0.in1 {P : Program} {w : World} {K : PySem.W.Frag} {mg : Str → Option Value} {base : Heap} {A : Around} {outer : List Env} {s : Shared} {H : Hp} (e : Env0 P w K mg base A outer s H) :
    Env0 P w K mg base A.in1 outer s H := ⟨e.frames, e.mod, e.bs, e.bsz, e.funs, e.frf, e.hok, e.bare⟩
section
variable {X : Cx} {pins : List (Addr × Obj)} {σ : St} {H : Hp} {s s' : Shared}
theorem Inv.env0 (I : Inv X pins σ H s) : Env0 X.prog X.w X.K X.mg X.base X.A X.stack s H :=
  ⟨I.ok.frames, I.ok.mod, I.bs, Nat.le_trans I.ok.bsz I.sz, I.stack, I.stkFree, I.hok, I.bare⟩
theorem Inv.after {Q : VK} {u : Value} (I : Inv X pins σ H s) (h : CE X.stack X.prog X.w H s Q u s') : EP X pins σ Q u s' := by
  obtain ⟨v, H', os, bare, un, hok, r, q⟩ := h
  obtain ⟨hh, g, d, t, os'⟩ := s'
  obtain rfl : os' = s.os := os
  exact ⟨v, H', I.call (h' := hh) (g' := g) (d' := d) (t' := t) (ch := []) un hok bare (fun b z => absurd z (by simp)), r, q⟩
end
def tCall (sp : Sp) (dvs : List V) (E : XK) (t : TA) : TE := fun σ H Q => t σ H fun vs H1 => sp (vs ++ dvs) H1 Q E
def Binds (K : PySem.W.Frag) (fd : FuncData) (ps : List Str) (ds : List Value) : Prop :=
  ∀ (s : Shared) (us : List Value), K.In s.heap → (us ++ ds).length = ps.length → BindsTo s fd ⟨us, []⟩ (ps.zip (us ++ ds))
theorem Binds.all {K : PySem.W.Frag} {fd : FuncData} {ps : List Str} (h : ∀ us : List Value, us.length = ps.length → bindArgs fd ⟨us, []⟩ = pure (ps.zip us)) : Binds K fd ps [] := fun s us _ hl => by
  rw [List.append_nil] at hl ⊢
  exact .of_eq (h us hl)
def Passes (CX : CXT) (X : Cx) (E : XK) : Prop := ∀ (pins : List (Addr × Obj)) (σ : St) (H : Hp) (s : Shared) (e : Value) (s' : Shared), Inv X pins σ H s → CX X.stack H s E e s' → X.xe e s'
section
variable {X : Cx} {CX : CXT} {k : Nat} {f C : Addr} {fd : FuncData} {ps : List Str} {sp : Sp} {dvs : List V} {ds : List Value} {E : XK} {x m : Str} {p pos apos : Pos} {e o : Expr} {es : List Expr} {ta : TE} {t : TA}
theorem run_fn {pins : List (Addr × Obj)} {σ : St} {H : Hp} {s : Shared} {Q : VK} {us : List Value} {vs : List V} (F : FnOk X.prog X.w X.K X.mg X.base CX k f fd ps sp) (hr : Room k X.A) (hb : Binds X.K fd ps ds) (hd : Vals dvs ds) (hx : Passes CX X E)
    (I : Inv X pins σ H s) (r : Vals vs us) (h : sp (vs ++ dvs) H Q E) : wpAny (model X.prog X.w) X.A (call (.ref f) us) (EP X pins σ Q) X.xe s := by
  have r2 : Vals (vs ++ dvs) (us ++ ds) := r.append hd
  have hl : (us ++ ds).length = ps.length := by rw [← r2.length]; exact F.len _ _ _ _ h
  refine wpAny_call (codeAny_mono (F.run X.A X.stack s H ⟨us, []⟩ (us ++ ds) (vs ++ dvs) Q E hr I.env0 (hb s us I.kIn hl) r2 h) fun r s' hq => ?_)
  cases r with
  | error e => exact hx pins σ H s e s' I hq
  | ok fl =>
    cases fl with
    | ret u => exact I.after hq
    | next => exact False.elim hq
    | brk => exact False.elim hq
    | cont => exact False.elim hq
theorem pe_call (F : FnOk X.prog X.w X.K X.mg X.base CX k f fd ps sp) (hr : Room k X.A) (hg : Gl X x) (hm : X.mg x = some (.ref f)) (hk : PySem.W.keepIn X.K (.ref f) = true) (hb : Binds X.K fd ps ds) (hd : Vals dvs ds) (hx : Passes CX X E)
    (ha : PA X (e :: es) t) (hdb : (x == ("__debug__" : Str)) = false := by decide) (he : starEach (e :: es) X.env = (false, eval e X.env) :: starEach es X.env := by rfl) (hpl : (backTo pos (starEach es X.env)).any (·.1) = false := by rfl) :
    PE X (.Call (.Name x p) (e :: es) [] pos) (tCall sp dvs E t) := by
  intro pins s σ H Q I h
  refine wpAny_Call_Name_kw (ld_glob I hg hm ?_ hdb)
  refine PySem.W.callWith_K (h₀ := X.base) I.ok.mod.kin hk (thn (ha pos pins s σ H _ I h) fun us s1 ⟨vs, H1, I1, r, q⟩ => ⟨I1.kIn, ?_⟩) he hpl
  exact run_fn F hr hb hd hx I1 r q
structure Mk (K : PySem.W.Frag) (C f : Addr) : Prop where
  makes : PySem.W.makesIn K C = true
  init : PySem.W.findIn K (.ref C) "__init__" = some (some (.ref f))
  fn : PySem.W.isFn K (.ref f) = true
  kp : PySem.W.keepIn K (.ref C) = true
end
section
variable {X : Cx} {CX : CXT} {k : Nat} {f C : Addr} {fd : FuncData} {ps ks : List Str} {sp : Sp} {E : XK} {x m : Str} {p pos apos kpos : Pos} {e o : Expr} {es : List Expr} {kws : List Keyword} {te ta : TE} {t tk : TA} {nm : Option Str}
structure KBinds (K : PySem.W.Frag) (fd : FuncData) (ps ks : List Str) (g : List Value → List Value → List Value) (gV : List V → List V → List V) : Prop where
  to : ∀ (s : Shared) (us ws : List Value), K.In s.heap → (g us ws).length = ps.length → BindsTo s fd ⟨us, ks.zip ws⟩ (ps.zip (g us ws))
  rel : ∀ {vs : List V} {us : List Value} {zs : List V} {ws : List Value}, Vals vs us → Vals zs ws → Vals (gV vs zs) (g us ws)
variable {g : List Value → List Value → List Value} {gV : List V → List V → List V}
end
structure FnScope (N P : List Str) (sc : Scope) : Prop where
  kind : sc.kind = .function
  co : sc.isCoroutine = false
  gen : sc.isGenerator = false
  nd : N.Nodup
  pre : N.take P.length = P
  par : ∀ x ∈ P, sc.names.lookup x = some .local ∨ sc.names.lookup x = some .cell
  nofree : ∀ y ∈ sc.names, y.2 ≠ .free
theorem bindL_out {kindOf : Str → Option NameKind} {x : Str} : ∀ {binds : List (Str × Value)} {m : Str → Option Value}, (∀ v, (x, v) ∉ binds) → bindL kindOf binds m x = m x
  | [], _, _ => rfl
  | (n, v) :: r, m, h => by
    unfold bindL
    rw [bindL_out fun w hw => h w (List.mem_cons_of_mem _ hw)]
    split
    · have : x ≠ n := by rintro rfl; exact h v List.mem_cons_self
      simp [this]
    · rfl
theorem bindC_out {kindOf : Str → Option NameKind} {x : Str} : ∀ {binds : List (Str × Value)} {m : Str → Option Value}, (∀ v, (x, v) ∉ binds) → bindC kindOf binds m x = m x
  | [], _, _ => rfl
  | (n, v) :: r, m, h => by
    unfold bindC
    rw [bindC_out fun w hw => h w (List.mem_cons_of_mem _ hw)]
    split
    · rfl
    · have : x ≠ n := by rintro rfl; exact h v List.mem_cons_self
      simp [this]
theorem bindL_get {kindOf : Str → Option NameKind} {x : Str} {v : Value} : ∀ {P : List Str} {vs : List Value} {i : Nat} {m : Str → Option Value}, P.Nodup → P[i]? = some x → vs[i]? = some v → kindOf x = some .local →
    bindL kindOf (P.zip vs) m x = some v
  | [], _, _, _, _, h, _, _ => by simp at h
  | _ :: _, [], _, _, _, _, h, _ => by simp at h
  | p :: P, w :: vs, 0, m, nd, h1, h2, hk => by
    simp at h1 h2; subst h1; subst h2
    show bindL kindOf ((p, w) :: P.zip vs) m p = _
    unfold bindL
    rw [bindL_out fun v hv => (List.nodup_cons.mp nd).1 (List.of_mem_zip hv).1, if_pos hk]
    simp
  | p :: P, w :: vs, i + 1, m, nd, h1, h2, hk => by
    show bindL kindOf ((p, w) :: P.zip vs) m x = _
    unfold bindL
    exact bindL_get (i := i) (List.nodup_cons.mp nd).2 (by simpa using h1) (by simpa using h2) hk
theorem bindC_get {kindOf : Str → Option NameKind} {x : Str} {v : Value} : ∀ {P : List Str} {vs : List Value} {i : Nat} {m : Str → Option Value}, P.Nodup → P[i]? = some x → vs[i]? = some v → kindOf x ≠ some .local →
    bindC kindOf (P.zip vs) m x = some v
  | [], _, _, _, _, h, _, _ => by simp at h
  | _ :: _, [], _, _, _, _, h, _ => by simp at h
  | p :: P, w :: vs, 0, m, nd, h1, h2, hk => by
    simp at h1 h2; subst h1; subst h2
    show bindC kindOf ((p, w) :: P.zip vs) m p = _
    unfold bindC
    rw [bindC_out fun v hv => (List.nodup_cons.mp nd).1 (List.of_mem_zip hv).1, if_neg hk]
    simp
  | p :: P, w :: vs, i + 1, m, nd, h1, h2, hk => by
    show bindC kindOf ((p, w) :: P.zip vs) m x = _
    unfold bindC
    exact bindC_get (i := i) (List.nodup_cons.mp nd).2 (by simpa using h1) (by simpa using h2) hk
def start (N : List Str) (vs : List V) : St := vs.map some ++ List.replicate (N.length - vs.length) none
def cxOf (CX : CXT) (P : Program) (w : World) (K : PySem.W.Frag) (mg : Str → Option Value) (base : Heap) (N : List Str) (qual : Str) (scope : Scope) (f : Addr) (cd : Value) (A : Around) (outer : List Env) (s : Shared) (H : Hp) (E : XK) : Cx where
  prog := P
  w := w
  K := K
  mg := mg
  base := base
  A := A.deeper (envOfC qual scope s.heap.objs.size f cd)
  N := N
  s_0 := s
  H_0 := H
  env := envOfC qual scope s.heap.objs.size f cd
  outer := outer
  stack := envOfC qual scope s.heap.objs.size f cd :: outer
  ex := []
  calm := true
  fn := fun _ => true
  pn := []
  xe := fun e s' => wpAny (model P w) (A.deeper (envOfC qual scope s.heap.objs.size f cd)) (leaving (envOfC qual scope s.heap.objs.size f cd) e) (fun _ s'' => CX outer H s E e s'') (fun e' s'' => CX outer H s E e' s'') s'
theorem cell_has {sc : Scope} {n : Nat} {x : Str} (h : sc.names.lookup x = some .cell) : ∃ c, (cellsFrom n sc.names []).lookup x = some c := by
  have q := PySem.W.cellsFrom_some sc.names n [] (.inl h)
  exact Option.isSome_iff_exists.mp q
theorem inv_start {CX : CXT} {P : Program} {w : World} {K : PySem.W.Frag} {mg : Str → Option Value} {base : Heap} {N ps : List Str} {qual : Str} {scope : Scope} {f : Addr} {cd : Value} {A : Around} {outer : List Env} {s s1 : Shared} {H : Hp} {E : XK} {us : List Value} {vs : List V}
    (S : FnScope N ps scope) (hd : A.handled = none) (e0 : Env0 P w K mg base A outer s H) (hl : vs.length = ps.length) (r : Vals vs us)
    (x : InCallC s s.heap.objs.size (bindL (envOfC qual scope s.heap.objs.size f cd).kindOf (ps.zip us) fun _ => none) (cellsFrom (s.heap.objs.size + 1) scope.names []) (bindC (envOfC qual scope s.heap.objs.size f cd).kindOf (ps.zip us) fun _ => none) s1) :
    Inv (cxOf CX P w K mg base N qual scope f cd A outer s H E) [] (start N vs) H s1 := by
  have hpl : ps.length ≤ N.length := by have := congrArg List.length S.pre; rw [List.length_take] at this; omega
  obtain ⟨h1, tk, rfl, hk⟩ := x.done
  have noA : ∀ b : Addr, b ∉ (cxOf CX P w K mg base N qual scope f cd A outer s H E).ex := fun b z => absurd (show b ∈ ([] : List Addr) from z) (by simp)
  refine ⟨⟨e0.mod, S.kind, rfl, rfl, Nat.le_refl _, fun y z c h1 h2 => ?_, fun y hy => ?_, fun y c _ h => ?_, fun _ => hd, Around.frames_deeper e0.frames, .inr ⟨rfl, rfl⟩, fun b z => absurd z (noA b), e0.bs, e0.bsz, fun b _ _ => noA b, fun b z => absurd z (noA b), e0.funs, e0.frf⟩,
    rfl, e0.bare, Un.kept hk, ⟨_, x.toInCall.ns, fun i y v h1 h2 h3 => ?_⟩, fun y c h => ⟨_, x.cell y c h⟩, e0.hok.fresh (Nat.le_refl _), fun y c h => ?_, fun p hp => absurd (show p ∈ ([] : List (Addr × Obj)) from hp) (by simp), e0.hok.kept hk, ?_⟩
  · exact name_of_addr x.apart (PySem.mem_of_lookup h1) (PySem.mem_of_lookup h2)
  · have hy : scope.names.lookup y = some .cell ∨ scope.names.lookup y = some .free := hy
    rcases hy with hy | hy
    · exact cell_has hy
    · exact absurd rfl (S.nofree _ (PySem.mem_of_lookup hy))
  · exact Nat.le_of_lt (x.above y c (PySem.mem_of_lookup h))
  · have hi : i < vs.length := by
      unfold start at h2
      by_cases hi : i < vs.length
      · exact hi
      · rw [List.getElem?_append_right (by simpa using hi)] at h2
        rw [List.getElem?_replicate] at h2
        split at h2 <;> cases h2
    have ha : vs[i]? = some v := by
      unfold start at h2
      rw [List.getElem?_append_left (by simpa using hi), List.getElem?_map] at h2
      cases e : vs[i]? with
      | none => rw [e] at h2; cases h2
      | some a => rw [e] at h2; cases h2; rfl
    obtain ⟨u, hu, rv⟩ := r.get ha
    have hp : ps[i]? = some y := by
      rw [← S.pre, List.getElem?_take_of_lt (by omega)]; exact h1
    have ndP : ps.Nodup := by rw [← S.pre]; exact S.nd.sublist (List.take_sublist _ _)
    refine ⟨u, rv, ?_⟩
    rcases S.par y (List.mem_of_getElem? hp) with k | k
    · exact .inl ⟨k, bindL_get ndP hp hu k⟩
    · obtain ⟨c, e⟩ := cell_has (n := s.heap.objs.size + 1) k
      refine .inr ⟨.inl k, c, e, ?_⟩
      have q := x.cell y c e
      rw [bindC_get ndP hp hu (by show scope.names.lookup y ≠ _; rw [k]; decide)] at q
      exact q
  · exact e0.hok.fresh (Nat.le_of_lt (x.above y c (PySem.mem_of_lookup h)))
  · unfold start
    show _ = N.length
    rw [List.length_append, List.length_map, List.length_replicate]
    omega
theorem fn_of {CX : CXT} {P : Program} {w : World} {K : PySem.W.Frag} {mg : Str → Option Value} {base : Heap} {k : Nat} {f : Addr} {name qual : Str} {params : Arguments} {body : List Stmt} {scope : Scope} {dV kV doc pm cdv ct oc : Value} {an od : Option Addr}
    {osl : Array (Option Value)} {N ps : List Str} {sp : Sp} (lk : K.lookup f = some ⟨oc, od, .func (PySem.W.fnOf name qual params body scope dV kV doc pm an cdv ct), osl⟩) (hcd : PySem.W.codeIn K cdv qual = true) (S : FnScope N ps scope)
    (len : ∀ vs H Q E, sp vs H Q E → vs.length = ps.length)
    (hbody : ∀ (A : Around) (outer : List Env) (s : Shared) (H : Hp) (vs : List V) (Q : VK) (E : XK), Room k (A.deeper (envOfC qual scope s.heap.objs.size f cdv)) → sp vs H Q E →
      ∃ t, PSs (cxOf CX P w K mg base N qual scope f cdv A outer s H E) body t ∧ t { nx := fun _ H' => Q .non H', rt := Q } (start N vs) H) :
    FnOk P w K mg base CX (k + 1) f (PySem.W.fnOf name qual params body scope dV kV doc pm an cdv ct) ps sp := by
  refine ⟨len, fun A outer s H args us vs Q E hr e0 hb r hsp => ?_⟩
  have hl := len _ _ _ _ hsp
  have KX : K.In s.heap := e0.mod.kin.keeps fun b o e => (e0.bs b o e).1
  have lim : s.heap.NoLimit := e0.mod.nolimit.keeps fun b o e => (e0.bs b o e).1
  have hkind : ∀ y ∈ ps.zip us, scope.names.lookup y.1 = some .local ∨ (scope.names.lookup y.1 = some .cell ∧ ((cellsFrom (s.heap.objs.size + 1) scope.names []).lookup y.1).isSome = true) := fun ⟨n, v⟩ hy => by
    rcases S.par n (List.of_mem_zip hy).1 with q | q
    · exact .inl q
    · exact .inr ⟨q, PySem.W.cellsFrom_some _ _ _ (.inl q)⟩
  refine codeAny_call_function hr.depth (KX _ _ lk) rfl S.co S.gen rfl (PySem.W.codeRec_of KX hcd) (hb _ _ _ _ ?_)
  refine wpAny_newFunctionEnv_cells S.kind hkind fun env he s1 x => ?_
  subst he
  refine ⟨lim.keeps x.toInCall.keep, codeAny_func ?_⟩
  obtain ⟨t, ht, hq⟩ := hbody A outer s H vs Q E (hr.deeper _) hsp
  have I : Inv (cxOf CX P w K mg base N qual scope f cdv A outer s H E) [] (start N vs) H s1 := inv_start S hr.hd e0 hl r x
  refine wpAny_mono (ht [] s1 (start N vs) H _ I hq) (fun fl s' hs => ?_) fun e s' hs => hs
  have fin : ∀ {σ' : St} {H' : Hp} {v : V} {u : Value}, Inv (cxOf CX P w K mg base N qual scope f cdv A outer s H E) [] σ' H' s' → RelV v u → Q v H' → CE outer P w H s Q u s' :=
    fun {σ' H' v u} J rv q => ⟨v, H', J.os, J.bare, J.base, J.hok, rv, q⟩
  cases fl with
  | ret u =>
    obtain ⟨v, σ', H', J, rv, q⟩ := hs
    exact fin J rv q
  | next =>
    obtain ⟨σ', H', J, q⟩ := hs
    exact fin (v := V.non) (u := Value.none) J rfl q
  | brk =>
    obtain ⟨_, _, _, q⟩ := hs
    exact False.elim q
  | cont =>
    obtain ⟨_, _, _, q⟩ := hs
    exact False.elim q
end L2
namespace L2
open PySem PySem.Spec PyProof.Rows
section
variable {X : Cx} {x : Str} {p pos : Pos} {e : Expr} {es : List Expr} {t : TA} {id T : String} {r : List V → Hp → VK → Prop}
def tCB (r : List V → Hp → VK → Prop) (t : TA) : TE := fun σ H Q => t σ H fun vs H1 => r vs H1 Q
theorem pe_callB (hc : CallR X (.builtin id) r) (hg : Gl X x) (hm : X.mg x = none) (hv : bootBuiltins x = some (.builtin id)) (ha : PA X (e :: es) t) (hn : x ≠ "__name__" := by decide) (hdb : (x == ("__debug__" : Str)) = false := by decide)
    (he : starEach (e :: es) X.env = (false, eval e X.env) :: starEach es X.env := by rfl) (hpl : (backTo pos (starEach es X.env)).any (·.1) = false := by rfl) : PE X (.Call (.Name x p) (e :: es) [] pos) (tCB r t) := by
  intro pins s σ H Q I h
  refine wpAny_Call_Name_kw (ld_blt I hg hm hv ?_ hn hdb)
  exact PyProof.Rows.callWith_builtin1 (thn (ha pos pins s σ H _ I h) fun us s1 ⟨vs, H1, I1, r1, q1⟩ => hc pins s1 σ H1 vs us Q I1 r1 q1) he hpl
theorem pe_callTy (hc : CallR X (.type T) r) (hg : Gl X x) (hm : X.mg x = none) (hv : bootBuiltins x = some (.type T)) (ha : PA X (e :: es) t) (hn : x ≠ "__name__" := by decide) (hdb : (x == ("__debug__" : Str)) = false := by decide)
    (he : starEach (e :: es) X.env = (false, eval e X.env) :: starEach es X.env := by rfl) (hpl : (backTo pos (starEach es X.env)).any (·.1) = false := by rfl) : PE X (.Call (.Name x p) (e :: es) [] pos) (tCB r t) := by
  intro pins s σ H Q I h
  refine wpAny_Call_Name_kw (ld_blt I hg hm hv ?_ hn hdb)
  exact PyProof.Rows.callWith_type1 (thn (ha pos pins s σ H _ I h) fun us s1 ⟨vs, H1, I1, r1, q1⟩ => hc pins s1 σ H1 vs us Q I1 r1 q1) he hpl
end
end L2
namespace HT
open PySem PyProof.Rows
section
open PySem.SeqAt
open PySem.AutoSeq1 (wpAny_loadPart')
open PySem.MeetsSeq PySem.MeetsSeq2 PySem.MeetsSeq3
end
section
variable {prog : Program} {w : World} {A : Around} {E : Value → Shared → Prop} {s : Shared}
theorem cat_tup {t b : Addr} {vs ws : List Value} {Q : Value → Shared → Prop} (ht : IsTup s.heap t vs.toArray) (hb : IsTup s.heap b ws.toArray) (hv : vs ≠ [])
    (h1 : ws = [] → Q (.ref t) s) (h2 : ws ≠ [] → Q (.ref s.heap.objs.size) { s with heap := s.heap.push { cls := .type "tuple", data := .seq (vs ++ ws).toArray } })
    (hsz : vs.length + ws.length ≤ sizeLine) : wpAny (model prog w) A (binaryOp .Add (.ref t) (.ref b)) Q E s := by
  obtain ⟨⟨cls, dd, data, sl⟩, ho, hc, n, hd⟩ := id ht
  obtain ⟨⟨cls2, dd2, data2, sl2⟩, ho2, hc2, n2, hd2⟩ := id hb
  simp only at hc hd hc2 hd2
  subst hc hd hc2 hd2
  have e : vs.toArray ++ ws.toArray = (vs ++ ws).toArray := by simp
  by_cases hw : ws = []
  · exact concat_meets ⟨_, ho, rfl⟩ ⟨_, ho2, rfl⟩ noFill_tuple_add seq_tuple_add PySem.F.slot_tuple_add PySem.F.entry_tuple_add (PySem.F.args_tuple_add_2 _ _)
      (tuple_addW1 t b vs.toArray ws.toArray n n2 dd dd2 sl sl2 (by simpa using hv) (by simp [hw])) ⟨ho, ho2, h1 hw⟩
  · refine concat_meets ⟨_, ho, rfl⟩ ⟨_, ho2, rfl⟩ noFill_tuple_add seq_tuple_add PySem.F.slot_tuple_add PySem.F.entry_tuple_add (PySem.F.args_tuple_add_2 _ _)
      (tuple_addW2 t b vs.toArray ws.toArray n n2 dd dd2 sl sl2 (by simpa using hv) (by simpa using hw) (by rw [List.size_toArray, List.size_toArray]; exact hsz)) ⟨ho, ho2, ?_⟩
    rw [e]
    exact h2 hw
def sIx (n d : Nat) : Option Int → Nat
  | none => d
  | some v => if v < 0 then (v + (n : Int)).toNat else min v.toNat n
theorem sIx_le (n d : Nat) (hd : d ≤ n) (o : Option Int) : sIx n d o ≤ n := by
  cases o with
  | none => exact hd
  | some v =>
    show (if v < 0 then (v + (n : Int)).toNat else min v.toNat n) ≤ n
    by_cases hv : v < 0
    · rw [if_pos hv]; omega
    · rw [if_neg hv]; exact Nat.min_le_right _ _
theorem clip_eq (v : Int) (n d : Nat) : (if v < 0 then max (v + (n : Int)) 0 else min v (n : Int)) = ((sIx n d (some v) : Nat) : Int) := by
  show (if v < 0 then max (v + (n : Int)) 0 else min v (n : Int)) = (((if v < 0 then (v + (n : Int)).toNat else min v.toNat n) : Nat) : Int)
  by_cases hv : v < 0
  · simp only [if_pos hv]; omega
  · simp only [if_neg hv]; omega
theorem adjust_gen (lo hi : Option Int) (n : Nat) : Builtin.Slice.sliceAdjust lo hi 1 (n : Int) = (((sIx n 0 lo : Nat) : Int), ((sIx n n hi : Nat) : Int)) := by
  have h1 : ¬ ((1 : Int) < 0) := by omega
  unfold Builtin.Slice.sliceAdjust
  simp only [h1, if_false]
  refine Prod.ext ?_ ?_
  · cases lo with
    | none => rfl
    | some v => exact clip_eq v n 0
  · cases hi with
    | none => rfl
    | some v => exact clip_eq v n n
theorem places_gen (i j : Nat) : Builtin.Slice.slicePlaces (i : Int) (j : Int) 1 = j - i := by
  unfold Builtin.Slice.slicePlaces
  have h1 : (1 : Int) > 0 := by omega
  simp only [h1, if_true, Int.ediv_one]
  split <;> omega
theorem slicePart_ {v : Value} {o : Option Int} {Q : Option Int → Shared → Prop} (p : IsPart v o) (h : Q o s) : wpAny (model prog w) A (Builtin.Slice.slicePartIndex v) Q E s := by
  cases p with
  | none => exact slicePart_none h
  | int i t => exact slicePart_int h
theorem sliceApplied_gen {sl : Addr} {vl vu : Value} {lo hi : Option Int} {n : Nat} {Q : Int × Int × Nat → Shared → Prop} (hs : s.heap.IsSliceOf sl vl vu .none) (pl : IsPart vl lo) (pu : IsPart vu hi)
    (h : Q (((sIx n 0 lo : Nat) : Int), 1, sIx n n hi - sIx n 0 lo) s) : wpAny (model prog w) A (Builtin.Slice.sliceApplied (.ref sl) (pure (n : Int))) Q E s := by
  obtain ⟨os, hos, hcs, hds⟩ := id hs
  unfold Builtin.Slice.sliceApplied Builtin.Slice.sliceFields
  refine wpAny_bind (wpAny_bind (wpAny_field hos hds (x := vl) rfl (wpAny_bind (wpAny_field hos hds (x := vu) rfl (wpAny_bind (wpAny_field hos hds (x := .none) rfl (wpAny_pure ?_)))))))
  refine wpAny_bind (slicePart_none ?_)
  show wpAny _ _ (if ((1 : Int) == 0) = true then _ else _) _ _ s
  rw [if_neg (by decide)]
  refine wpAny_bind (slicePart_ pl (wpAny_bind (slicePart_ pu (wpAny_bind (wpAny_pure ?_)))))
  show wpAny _ _ (match Builtin.Slice.sliceAdjust lo hi 1 (n : Int) with | (lo, hi) => pure (lo, (1 : Int), Builtin.Slice.slicePlaces lo hi 1)) _ _ s
  rw [adjust_gen lo hi n]
  show wpAny _ _ (pure (((sIx n 0 lo : Nat) : Int), (1 : Int), Builtin.Slice.slicePlaces ((sIx n 0 lo : Nat) : Int) ((sIx n n hi : Nat) : Int) 1)) _ _ s
  rw [places_gen]
  exact wpAny_pure h
theorem pick_gen (xs : Array Value) (i k : Nat) : ((List.range k).filterMap fun (m : Nat) => xs[((i : Int) + (m : Int) * 1).toNat]?).toArray = ((xs.toList.drop i).take k).toArray := by
  have e : (fun (m : Nat) => xs[((i : Int) + (m : Int) * 1).toNat]?) = fun m => xs[i + m]? := by
    funext m
    have : ((i : Int) + (m : Int) * 1).toNat = i + m := by omega
    rw [this]
  rw [e]
  have := pick_run xs i k
  rw [List.filterMap_map] at this
  have e2 : ((fun x => xs[x]?) ∘ fun x => i + x) = fun m => xs[i + m]? := rfl
  rw [e2] at this
  rw [this]
theorem getItem_tuple_cut {t sl : Addr} {items : Array Value} {vl vu : Value} {lo hi : Option Int} {Q : Value → Shared → Prop} (ht : IsTup s.heap t items) (hs : s.heap.IsSliceOf sl vl vu .none) (pl : IsPart vl lo) (pu : IsPart vu hi)
    (hw : ¬ (sIx items.size 0 lo = 0 ∧ sIx items.size items.size hi = items.size))
    (h : Q (.ref s.heap.objs.size) { s with heap := s.heap.push { cls := .type "tuple", data := .seq ((items.toList.drop (sIx items.size 0 lo)).take (sIx items.size items.size hi - sIx items.size 0 lo)).toArray } })
    (hsz : items.size ≤ sizeLine) : wpAny (model prog w) A (getItem (.ref t) (.ref sl)) Q E s := by
  have htake : sizeOk (.seq ((items.toList.drop (sIx items.size 0 lo)).take (sIx items.size items.size hi - sIx items.size 0 lo)).toArray) := by
    show ((items.toList.drop (sIx items.size 0 lo)).take (sIx items.size items.size hi - sIx items.size 0 lo)).toArray.size ≤ sizeLine
    rw [List.size_toArray, List.length_take, List.length_drop, Array.length_toList]
    omega
  have hj : sIx items.size items.size hi ≤ items.size := sIx_le _ _ (Nat.le_refl _) hi
  obtain ⟨os, hos, hcs, hds⟩ := id hs
  have hTs : s.TypeIs (.ref sl) "slice" := ⟨os, hos, hcs⟩
  unfold getItem
  try with_reducible refine wpAny_holding ?_
  first | refine wpAny_bind (wpAny_pure ?_) | skip
  refine wpAny_bind (wpAny_sequenceKey ht.typeIs (by decide) ?_)
  refine wpAny_bind (wpAny_callSpecial?_slot (name := Str.ofString "__getitem__") ht.typeIs PyProof.Rows.slot_tuple_getitem
    (wpAny_call_entry PyProof.Rows.slot_tuple_getitem ht.typeIs entry_tuple_getitem ?_ (args_tuple_getitem _ _)))
  show wpAny _ _ (Builtin.Tuple.tupleItemsOf (.ref t) >>= _) _ _ s
  refine wpAny_bind (tupleItemsOf_ ht ?_)
  refine wpAny_bind (wpAny_typeOf hTs ?_)
  rw [if_pos (by decide)]
  refine wpAny_bind (sliceApplied_gen hs pl pu ?_)
  have hno : ¬ ((((sIx items.size 0 lo : Nat) : Int) == 0 && (1 : Int) == 1 && (sIx items.size items.size hi - sIx items.size 0 lo) == items.size) = true) := by
    intro q
    rw [Bool.and_eq_true, Bool.and_eq_true] at q
    have q1 : ((sIx items.size 0 lo : Nat) : Int) = 0 := eq_of_beq q.1.1
    have q2 : sIx items.size items.size hi - sIx items.size 0 lo = items.size := eq_of_beq q.2
    exact hw ⟨by omega, by omega⟩
  show wpAny _ _ (if (((sIx items.size 0 lo : Nat) : Int) == 0 && (1 : Int) == 1 && (sIx items.size items.size hi - sIx items.size 0 lo) == items.size) = true then _ else _) _ _ s
  rw [if_neg hno, pick_gen]
  first
    | exact wpAny_bind (m := Builtin.Tuple.tupleExact _) (wpAny_newObj_type (wpAny_pure ⟨_, rfl, wpAny_pure h⟩) htake)
    | exact wpAny_bind (m := Builtin.Tuple.tupleExact _) (wpAny_newObj_type (wpAny_bind (wpAny_pure (wpAny_pure ⟨_, rfl, wpAny_pure h⟩))) htake)
    | exact wpAny_bind (wpAny_bind (m := Builtin.Tuple.tupleExact _) (wpAny_newObj_type (wpAny_pure (wpAny_pure ⟨_, rfl, wpAny_pure h⟩)) htake))
    | exact wpAny_bind (wpAny_bind (m := Builtin.Tuple.tupleExact _) (wpAny_newObj_type (wpAny_pure ⟨_, rfl, wpAny_pure h⟩) htake))
end
end HT
namespace L2
open PySem PySem.Spec PyProof.Rows
abbrev TO := St → Hp → (Option Int → Hp → Prop) → Prop
def PO (X : Cx) (e : Option Expr) (t : TO) : Prop :=
  ∀ (pins : List (Addr × Obj)) (s : Shared) (σ : St) (H : Hp) (Q : Option Int → Hp → Prop), Inv X pins σ H s → t σ H Q →
    wpAny (model X.prog X.w) X.A (evalPart e X.env) (fun u s' => ∃ o H', Inv X pins σ H' s' ∧ IsPart u o ∧ Q o H') X.xe s
def tNoPart : TO := fun _ H Q => Q none H
def tPart (t : TE) : TO := fun σ H Q => t σ H fun x H1 => ∃ i, x = .int i ∧ Q (some i) H1
section
variable {X : Cx} {e : Expr} {te : TE} {lo hi : Option Expr} {tl th : TO} {pos p2 : Pos}
theorem po_none : PO X none tNoPart := by
  intro pins s σ H Q I h
  rw [evalPart_none]
  exact wpAny_pure ⟨none, H, I, .none, h⟩
theorem po_some (h : PE X e te) : PO X (some e) (tPart te) := by
  intro pins s σ H Q I hw
  rw [evalPart_some]
  refine thn (h pins s σ H _ I hw) fun u s1 ⟨x, H1, I1, r1, q1⟩ => ?_
  obtain ⟨i, rfl, q⟩ := q1
  obtain ⟨t, rfl⟩ := r1
  exact ⟨some i, H1, I1, .int i t, q⟩
def SlR (X : Cx) (r : V → Option Int → Option Int → Hp → VK → Prop) : Prop :=
  ∀ (pins : List (Addr × Obj)) (s : Shared) (σ : St) (H : Hp) (x : V) (v vl vu : Value) (lo hi : Option Int) (sl : Addr) (Q : VK), Inv X pins σ H s → RelV x v → s.heap.IsSliceOf sl vl vu .none → IsPart vl lo → IsPart vu hi → r x lo hi H Q →
    ∃ T id, typeLookup (.type T) "__getitem__" = pure (some (.builtin id)) ∧ s.TypeIs v T ∧ wpAny (model X.prog X.w) X.A (getItem v (.ref sl)) (EP X pins σ Q) X.xe s
theorem SlR.or {r r' : V → Option Int → Option Int → Hp → VK → Prop} (h : SlR X r) (h' : SlR X r') : SlR X (fun x lo hi H Q => r x lo hi H Q ∨ r' x lo hi H Q) := by
  intro pins s σ H x v vl vu lo hi sl Q I rx hs pl pu q
  rcases q with q | q
  · exact h pins s σ H x v vl vu lo hi sl Q I rx hs pl pu q
  · exact h' pins s σ H x v vl vu lo hi sl Q I rx hs pl pu q
def tSl (r : V → Option Int → Option Int → Hp → VK → Prop) (te : TE) (tl th : TO) : TE := fun σ H Q => te σ H fun x H1 => tl σ H1 fun l H2 => th σ H2 fun u H3 => r x l u H3 Q
theorem pe_slice {r : V → Option Int → Option Int → Hp → VK → Prop} (hr : SlR X r) (he : PE X e te) (hl : PO X lo tl) (hu : PO X hi th) : PE X (.Subscript e (.Slice lo hi none p2) pos) (tSl r te tl th) := by
  intro pins s σ H Q I h
  refine Subscript_ (thn (he pins s σ H _ I h) fun v s1 ⟨x, H1, I1, r1, q1⟩ => ?_)
  refine wpAny_Slice (thn (hl pins s1 σ H1 _ I1 q1) fun vl s2 ⟨l, H2, I2, pl, q2⟩ => thn (hu pins s2 σ H2 _ I2 q2) fun vu s3 ⟨u, H3, I3, pu, q3⟩ => ?_)
  rw [evalPart_none]
  refine wpAny_pure ?_
  have I4 : Inv X pins σ H3 { s3 with heap := s3.heap.push { cls := .type "slice", data := .fields #[vl, vu, .none] } } := I3.kept (t' := s3.toks) fun b ob q => Heap.get?_push_of_some _ q
  obtain ⟨T, id, hT, ht, hg⟩ := hr pins { s3 with heap := s3.heap.push { cls := .type "slice", data := .fields #[vl, vu, .none] } } σ H3 x v vl vu l u s3.heap.objs.size Q I4 r1 (Heap.IsSliceOf.new ..) pl pu q3
  show wpAny (model X.prog X.w) X.A (subscriptTail e (.Slice lo hi none p2) v (.ref s3.heap.objs.size)) (EP X pins σ Q) X.xe { s3 with heap := s3.heap.push { cls := .type "slice", data := .fields #[vl, vu, .none] } }
  exact tail_any (ops := [.ref s3.heap.objs.size, v]) ht hT hg (by with_unfolding_all rfl)
def cutV (xs : List V) (lo hi : Option Int) : List V := (xs.drop (HT.sIx xs.length 0 lo)).take (HT.sIx xs.length xs.length hi - HT.sIx xs.length 0 lo)
theorem cutV_length (xs : List V) (lo hi : Option Int) : (cutV xs lo hi).length ≤ xs.length := by
  unfold cutV
  rw [List.length_take, List.length_drop]
  omega
def rSlT (K : PySem.W.Frag) : V → Option Int → Option Int → Hp → VK → Prop := fun x lo hi H Q => ∃ a xs, x = .ref a ∧ SqT K H a xs ∧
  ¬ (HT.sIx xs.length 0 lo = 0 ∧ HT.sIx xs.length xs.length hi = xs.length) ∧ ∀ p, H p = none → Q (.ref p) (upd H p (.tup (cutV xs lo hi)))
theorem sl_tup : SlR X (rSlT X.K) := by
  intro pins s σ H x v vl vu lo hi sl Q I rx hs pl pu h
  obtain ⟨a, xs, rfl, hx, hw, q⟩ := h
  cases rx
  obtain ⟨its, r, ht, hz⟩ := I.tuple hx
  have hlen : its.toArray.size = xs.length := by rw [List.size_toArray]; exact r.length.symm
  refine ⟨"tuple", _, PyProof.Rows.slot_tuple_getitem.lookup, ht.typeIs, ?_⟩
  refine HT.getItem_tuple_cut ht hs pl pu (by rw [hlen]; exact hw) ?_ (by rw [hlen]; exact hz)
  rw [hlen]
  refine ⟨.ref s.heap.objs.size, _, I.laid (t' := s.toks) (o := .tup (cutV xs lo hi)) (fun b ob q => Heap.get?_push_of_some _ q) (Nat.le_refl _) ?_, rfl, q _ (I.hok.fresh (Nat.le_refl _))⟩
  exact ⟨Nat.le_trans (cutV_length xs lo hi) hz, _, (r.drop (HT.sIx xs.length 0 lo)).take (HT.sIx xs.length xs.length hi - HT.sIx xs.length 0 lo), IsTup.new _ _⟩
def rCatT (K : PySem.W.Frag) : R2 := fun x y H Q => ∃ a b xs ys, x = .ref a ∧ y = .ref b ∧ SqT K H a xs ∧ SqT K H b ys ∧ xs ≠ [] ∧ xs.length + ys.length ≤ sizeLine ∧
  (ys = [] → Q (.ref a) H) ∧ (ys ≠ [] → ∀ p, H p = none → Q (.ref p) (upd H p (.tup (xs ++ ys))))
theorem Vals.nil_iff {xs : List V} {us : List Value} (r : Vals xs us) : us = [] ↔ xs = [] := by
  cases r with
  | nil => simp
  | cons _ _ => simp
theorem op_catT : OpR X (binaryOp .Add) (rCatT X.K) := by
  intro pins s σ H x y v u Q I rx ry h
  obtain ⟨a, b, xs, ys, rfl, rfl, ha, hb, hx, hz, q1, q2⟩ := h
  cases rx
  cases ry
  obtain ⟨its, r1, p1, _⟩ := I.tuple ha
  obtain ⟨its2, r2, p2, _⟩ := I.tuple hb
  refine HT.cat_tup p1 p2 (fun z => hx (r1.nil_iff.mp z)) (fun z => ⟨.ref a, H, I, rfl, q1 (r2.nil_iff.mp z)⟩) (fun z => ?_) (by rw [← r1.length, ← r2.length]; exact hz)
  refine ⟨.ref s.heap.objs.size, _, I.laid (t' := s.toks) (o := .tup (xs ++ ys)) (fun b ob q => Heap.get?_push_of_some _ q) (Nat.le_refl _) ?_, rfl, q2 (fun w => z (r2.nil_iff.mpr w)) _ (I.hok.fresh (Nat.le_refl _))⟩
  exact ⟨by rw [List.length_append]; exact hz, _, r1.append r2, IsTup.new _ _⟩
end
end L2
namespace L2
open PySem PySem.Spec PyProof.Rows
def ixN (n : Nat) (i : Int) : Option Nat := if 0 ≤ i then (if i < n then some i.toNat else none) else if -(n : Int) ≤ i then some (i + n).toNat else none
def atI {α : Type} (xs : List α) (i : Int) : Option α := (ixN xs.length i).bind fun j => xs[j]?
theorem ixN_seq {n : Nat} {i : Int} {j : Nat} (h : ixN n i = some j) : seqIndex? i n = some j ∧ j < n ∧ -(n : Int) ≤ i ∧ i < n := by
  unfold ixN at h
  by_cases h0 : 0 ≤ i
  · rw [if_pos h0] at h
    by_cases h1 : i < n
    · rw [if_pos h1] at h
      have e : i.toNat = j := Option.some.inj h
      exact ⟨by rw [seqIndex_of h0 h1, e], by omega, by omega, h1⟩
    · rw [if_neg h1] at h; cases h
  · rw [if_neg h0] at h
    by_cases h1 : -(n : Int) ≤ i
    · rw [if_pos h1] at h
      have e : (i + n).toNat = j := Option.some.inj h
      exact ⟨by rw [seqIndex_neg (by omega) h1, e], by omega, h1, by omega⟩
    · rw [if_neg h1] at h; cases h
theorem atI_get {α : Type} {xs : List α} {i : Int} {v : α} (h : atI xs i = some v) : ∃ j, seqIndex? i xs.length = some j ∧ xs[j]? = some v ∧ j < xs.length ∧ -(xs.length : Int) ≤ i ∧ i < xs.length := by
  unfold atI at h
  cases e : ixN xs.length i with
  | none => rw [e] at h; cases h
  | some j =>
    rw [e] at h
    obtain ⟨h1, h2, h3, h4⟩ := ixN_seq e
    exact ⟨j, h1, h, h2, h3, h4⟩
theorem atI_nat {α : Type} {xs : List α} {j : Nat} {v : α} (h : xs[j]? = some v) : atI xs (j : Int) = some v := by
  have hj : j < xs.length := (List.getElem?_eq_some_iff.mp h).1
  have e : ixN xs.length (j : Int) = some j := by
    unfold ixN
    rw [if_pos (by omega), if_pos (by omega)]; simp
  unfold atI; rw [e]; exact h
def PlainIx (b : Expr) : Prop := ∀ o i, subscripted b false o i = operate [o, i] (getItem o i)
def IxR (X : Cx) (r : R2) : Prop :=
  ∀ (value slice : Expr) (pins : List (Addr × Obj)) (s : Shared) (σ : St) (H : Hp) (x y : V) (v u : Value) (Q : VK), Inv X pins σ H s → RelV x v → RelV y u → r x y H Q →
    subscripted slice false v u = operate [v, u] (getItem v u) → wpAny (model X.prog X.w) X.A (subscriptTail value slice v u) (EP X pins σ Q) X.xe s
def MtR (X : Cx) (id : String) (r : V → List V → Hp → VK → Prop) : Prop :=
  ∀ (pins : List (Addr × Obj)) (s : Shared) (σ : St) (H : Hp) (x : V) (xs : List V) (v : Value) (us : List Value) (Q : VK), Inv X pins σ H s → RelV x v → Vals xs us → r x xs H Q →
    wpAny (model X.prog X.w) X.A (call (.builtin id) (v :: us)) (EP X pins σ Q) X.xe s
section
variable {X : Cx} {a b : Expr} {ta tb : TE} {pos : Pos}
theorem IxR.or {r r' : R2} (h : IxR X r) (h' : IxR X r') : IxR X (fun x y H Q => r x y H Q ∨ r' x y H Q) := by
  intro value slice pins s σ H x y v u Q I rx ry q hs
  rcases q with q | q
  · exact h value slice pins s σ H x y v u Q I rx ry q hs
  · exact h' value slice pins s σ H x y v u Q I rx ry q hs
theorem MtR.or {id : String} {r r' : V → List V → Hp → VK → Prop} (h : MtR X id r) (h' : MtR X id r') : MtR X id (fun x xs H Q => r x xs H Q ∨ r' x xs H Q) := by
  intro pins s σ H x xs v us Q I rx rs q
  rcases q with q | q
  · exact h pins s σ H x xs v us Q I rx rs q
  · exact h' pins s σ H x xs v us Q I rx rs q
theorem pe_ix {r : R2} (hr : IxR X r) (ha : PE X a ta) (hb : PE X b tb) (hs : PlainIx b) : PE X (.Subscript a b pos) (tOp r ta tb) := by
  intro pins s σ H Q I h
  exact Subscript_ (binT ha hb I h fun v u s2 x y H2 I2 rx ry q => hr a b pins s2 σ H2 x y v u Q I2 rx ry q (hs _ _))
def rIxL (K : PySem.W.Frag) : R2 := fun x y H Q => ∃ p xs i v, x = .ref p ∧ y = .int i ∧ SqL K H p xs ∧ atI xs i = some v ∧ Q v H
def rIxT (K : PySem.W.Frag) : R2 := fun x y H Q => ∃ p xs i v, x = .ref p ∧ y = .int i ∧ SqT K H p xs ∧ atI xs i = some v ∧ Q v H
def rIxS : R2 := fun x y H Q => ∃ z i c, x = .str z ∧ y = .int i ∧ z.length ≤ sizeLine ∧ atI z.cps.toList i = some c ∧ Q (.str ⟨#[c]⟩) H
theorem ix_list : IxR X (rIxL X.K) := by
  intro value slice pins s σ H x y v u Q I rx ry h hs
  obtain ⟨p, xs, i, z, rfl, rfl, hq, he, q⟩ := h
  cases rx
  obtain ⟨t, rfl⟩ := ry
  obtain ⟨its, r, pl, hz⟩ := I.list hq
  obtain ⟨j, h1, h2, h3, h4, h5⟩ := atI_get he
  obtain ⟨w, ew, rw'⟩ := r.get h2
  have hl := r.length
  have hn := line63
  have fin : EP X pins σ Q w s := ⟨z, H, I, rw', q⟩
  by_cases h0 : 0 ≤ i
  · have hj : i.toNat = j := by
      rw [seqIndex_of h0 h5] at h1
      exact Option.some.inj h1
    exact item_listR pl.isList h0 (by omega) (by rw [hj]; simpa using ew) fin hs
  · have hj : (i + (its.toArray.size : Int)).toNat = j := by
      rw [seqIndex_neg (by omega) h4] at h1
      rw [List.size_toArray, ← hl]
      exact Option.some.inj h1
    exact subscriptTail_builtinR (x := w) pl.isList.typeIs slot_list_getitem.lookup
      (wpAny_getItem_list_neg (Q := fun r s' => r = w ∧ EP X pins σ Q r s') pl.isList (by omega) (by rw [List.size_toArray] <;> omega) (by omega) (by rw [hj]; simpa using ew) ⟨rfl, fin⟩) hs
theorem ix_tup : IxR X (rIxT X.K) := by
  intro value slice pins s σ H x y v u Q I rx ry h hs
  obtain ⟨p, xs, i, z, rfl, rfl, hq, he, q⟩ := h
  cases rx
  obtain ⟨t, rfl⟩ := ry
  obtain ⟨its, r, pl, hz⟩ := I.tuple hq
  obtain ⟨j, h1, h2, h3, h4, h5⟩ := atI_get he
  obtain ⟨w, ew, rw'⟩ := r.get h2
  have hl := r.length
  have hn := line63
  have fin : EP X pins σ Q w s := ⟨z, H, I, rw', q⟩
  exact subscriptTail_builtinR (x := w) pl.typeIs slot_tuple_getitem.lookup
    (getItem_tuple (j := j) (Q := fun r s' => r = w ∧ EP X pins σ Q r s') pl (by omega) (by omega) (by rw [List.size_toArray, ← hl]; exact h1) (by simpa using ew) ⟨rfl, fin⟩) hs
theorem ix_str : IxR X rIxS := by
  intro value slice pins s σ H x y v u Q I rx ry h hs
  obtain ⟨z, i, c, rfl, rfl, hz, he, q⟩ := h
  obtain ⟨t, rfl⟩ := rx
  obtain ⟨t', rfl⟩ := ry
  obtain ⟨j, h1, h2, h3, h4, h5⟩ := atI_get he
  have hl : z.cps.toList.length = z.length := by simp [Str.length]
  rw [hl] at h1 h4 h5
  have hn := line63
  exact tail_any (typeIs_str s z t) slot_str_getitem.lookup (getItem_str (c := c) (by
    have e1 : decide (i < -(2 ^ 63 : Int)) = false := decide_eq_false (by omega)
    have e2 : decide (i ≥ 2 ^ 63) = false := decide_eq_false (by omega)
    rw [e1, e2, Bool.or_false]) (by rw [h1]; simpa using h2) ⟨.str ⟨#[c]⟩, H, I.tok _, ⟨_, rfl⟩, q⟩) hs
def rIx (K : PySem.W.Frag) : R2 := fun x y H Q => rIxL K x y H Q ∨ rIxT K x y H Q ∨ rIxS x y H Q
theorem ix_seq : IxR X (rIx X.K) := ix_list.or (ix_tup.or ix_str)
theorem mapSeq_set (its : List Value) (n j : Nat) (u : Value) : Obj.mapSeq (·.setIfInBounds j u) { cls := .type "list", data := .seq its.toArray n } = { cls := .type "list", data := .seq (its.set j u).toArray n } := by
  simp [Obj.mapSeq]
theorem Inv.lst {pins : List (Addr × Obj)} {σ : St} {H : Hp} {s : Shared} {p : Addr} {xs : List V} (I : Inv X pins σ H s) (h : H p = some (.lst xs)) :
    ∃ (its : List Value) (n : Nat), Vals xs its ∧ s.heap.get? p = some { cls := .type "list", data := .seq its.toArray n } ∧ xs.length ≤ sizeLine := by
  obtain ⟨z, its, n, r, e⟩ := I.hok p _ h
  exact ⟨its, n, r, e, z⟩
theorem Inv.lstUpd {pins : List (Addr × Obj)} {σ : St} {H : Hp} {s : Shared} {p : Addr} {xs ys : List V} {its its' : List Value} {n n' : Nat} {f : Obj → Obj} (I : Inv X pins σ H s) (h : H p = some (.lst xs))
    (ho : s.heap.get? p = some { cls := .type "list", data := .seq its.toArray n }) (hf : f { cls := .type "list", data := .seq its.toArray n } = { cls := .type "list", data := .seq its'.toArray n' }) (r : Vals ys its') (hz : ys.length ≤ sizeLine) (t : Nat) :
    Inv X pins σ (upd H p (.lst ys)) { s with heap := s.heap.update p f, toks := t } := by
  have e : (s.heap.update p f).get? p = some { cls := .type "list", data := .seq its'.toArray n' } := by
    rw [Heap.get?_update_self f ho (by rw [hf] <;> rfl), hf]
  refine I.write (x := p) (e := p) (by rw [h]; trivial) (.inl rfl) (fun b u hb q => (Heap.get?_update_other _ _ (Ne.symm hb)).trans q) ⟨_, e⟩ ?_
  exact ⟨hz, its', n', r, e⟩
def rSetL : V → V → V → Hp → (Hp → Prop) → Prop := fun o i v H Q => ∃ p xs k j, o = .ref p ∧ i = .int k ∧ H p = some (.lst xs) ∧ ixN xs.length k = some j ∧ Q (upd H p (.lst (xs.set j v)))
theorem set_list : PSet X rSetL := by
  intro pins s σ H o i v ov iv u Q I ro ri rv h
  obtain ⟨p, xs, k, j, rfl, rfl, hp, hj, q⟩ := h
  cases ro
  obtain ⟨t, rfl⟩ := ri
  obtain ⟨its, n, r, ho, hz⟩ := I.lst hp
  obtain ⟨h1, h2, h3, h4⟩ := ixN_seq hj
  have hl := r.length
  have hn := line63
  have I' : Inv X pins σ (upd H p (.lst (xs.set j v))) { s with heap := s.heap.update p (Obj.mapSeq (·.setIfInBounds j u)) } :=
    I.lstUpd hp ho (mapSeq_set its n j u) (r.set rv j) (by rw [List.length_set]; exact hz) s.toks
  by_cases h0 : 0 ≤ k
  · have hk : k.toNat = j := by
      rw [seqIndex_of h0 h4] at h1
      exact Option.some.inj h1
    exact PySem.W.ki_setAt ho h0 (by omega) (by rw [List.size_toArray, ← hl]; exact h4) (by rw [hk]; exact ⟨_, I', q⟩)
  · have hk : (k + (its.toArray.size : Int)).toNat = j := by
      rw [seqIndex_neg (by omega) h3] at h1
      rw [List.size_toArray, ← hl]
      exact Option.some.inj h1
    exact PySem.W.ki_setBack ho (by omega) (by rw [List.size_toArray, ← hl]; exact h3) (by omega) (by rw [hk]; exact ⟨_, I', q⟩)
theorem slice_bounds (lo hi : Option Int) (n : Nat) : (sliceBounds lo hi none n).1 = ((HT.sIx n 0 lo : Nat) : Int) ∧ (sliceBounds lo hi none n).2.1 = ((HT.sIx n n hi : Nat) : Int) ∧ (sliceBounds lo hi none n).2.2 = 1 := by
  refine ⟨?_, ?_, rfl⟩
  · cases lo with
    | none => simp [sliceBounds, HT.sIx]
    | some i =>
      simp only [sliceBounds, HT.sIx, Option.getD_none, show (1 : Int) > 0 by decide, if_true]
      by_cases h : i < 0
      · simp only [h, if_true] <;> omega
      · simp only [h, if_false] <;> omega
  · cases hi with
    | none => simp [sliceBounds, HT.sIx]
    | some i =>
      simp only [sliceBounds, HT.sIx, Option.getD_none, show (1 : Int) > 0 by decide, if_true]
      by_cases h : i < 0
      · simp only [h, if_true] <;> omega
      · simp only [h, if_false] <;> omega
theorem slicePick_cut (its : List Value) (lo hi : Option Int) : slicePick its.toArray lo hi none = ((its.drop (HT.sIx its.length 0 lo)).take (HT.sIx its.length its.length hi - HT.sIx its.length 0 lo)).toArray := by
  obtain ⟨h1, h2, h3⟩ := slice_bounds lo hi its.toArray.size
  unfold slicePick
  rw [h1, h2, h3]
  simp only [sliceRange_one, pick_run, List.size_toArray] <;> rfl
def rSlL (K : PySem.W.Frag) : V → Option Int → Option Int → Hp → VK → Prop := fun x lo hi H Q => ∃ a xs, x = .ref a ∧ SqL K H a xs ∧ ∀ p, H p = none → Q (.ref p) (upd H p (.lst (cutV xs lo hi)))
theorem sl_list : SlR X (rSlL X.K) := by
  intro pins s σ H x v vl vu lo hi sl Q I rx hs pl pu h
  obtain ⟨a, xs, rfl, hx, q⟩ := h
  cases rx
  obtain ⟨its, r, ht, hz⟩ := I.list hx
  have hlen := r.length
  refine ⟨"list", _, slot_list_getitem.lookup, ht.isList.typeIs, ?_⟩
  refine wpAny_getItem_list_slice ht.isList hs pl pu .none (by simp) ?_ (by rw [List.size_toArray] <;> omega)
  rw [slicePick_cut, ← hlen]
  refine ⟨.ref s.heap.objs.size, _, I.laid (t' := s.toks) (o := .lst (cutV xs lo hi)) (fun b ob q => Heap.get?_push_of_some _ q) (Nat.le_refl _) ?_, rfl, q _ (I.hok.fresh (Nat.le_refl _))⟩
  exact ⟨Nat.le_trans (cutV_length xs lo hi) hz, _, 0, (r.drop (HT.sIx xs.length 0 lo)).take (HT.sIx xs.length xs.length hi - HT.sIx xs.length 0 lo), Heap.get?_push_size _ rfl⟩
def flatV : V → Bool
  | .non => true
  | .bl _ => true
  | .int _ => true
  | .str _ => true
  | _ => false
def eqV : V → V → Bool
  | .non, .non => true
  | .bl a, .bl b => a == b
  | .bl a, .int b => (if a then 1 else 0) == b
  | .int a, .bl b => a == (if b then 1 else 0)
  | .int a, .int b => a == b
  | .str a, .str b => a == b
  | _, _ => false
theorem eqAt_V {A : Around} {s : Shared} {y x : V} {u v : Value} (ry : RelV y u) (rx : RelV x v) (fy : flatV y = true) (fx : flatV x = true) : SeqAt.EqAt A s u v (eqV y x) := by
  cases y with
  | non =>
    cases ry
    cases x with
    | non => cases rx; exact SeqAt.EqAt.same _
    | bl b => cases rx; exact SeqAt.EqAt.none_bool b
    | int b => obtain ⟨t, rfl⟩ := rx; exact SeqAt.EqAt.none_int b t
    | str b => obtain ⟨t, rfl⟩ := rx; exact SeqAt.EqAt.none_str b t
    | _ => exact absurd (show false = true from fx) Bool.false_ne_true
  | bl a =>
    cases ry
    cases x with
    | non => cases rx; exact SeqAt.EqAt.bool_none a
    | bl b => cases rx; exact SeqAt.EqAt.bool_bool a b
    | int b => obtain ⟨t, rfl⟩ := rx; exact SeqAt.EqAt.bool_int a b t
    | str b => obtain ⟨t, rfl⟩ := rx; exact SeqAt.EqAt.bool_str a b t
    | _ => exact absurd (show false = true from fx) Bool.false_ne_true
  | int a =>
    obtain ⟨t', rfl⟩ := ry
    cases x with
    | non => cases rx; exact SeqAt.EqAt.int_none a t'
    | bl b => cases rx; exact SeqAt.EqAt.int_bool a t' b
    | int b => obtain ⟨t, rfl⟩ := rx; exact SeqAt.EqAt.int_int a t' b t
    | str b => obtain ⟨t, rfl⟩ := rx; exact SeqAt.EqAt.int_str a t' b t
    | _ => exact absurd (show false = true from fx) Bool.false_ne_true
  | str a =>
    obtain ⟨t', rfl⟩ := ry
    cases x with
    | non => cases rx; exact SeqAt.EqAt.str_none a t'
    | bl b => cases rx; exact SeqAt.EqAt.str_bool a t' b
    | int b => obtain ⟨t, rfl⟩ := rx; exact SeqAt.EqAt.str_int a t' b t
    | str b => obtain ⟨t, rfl⟩ := rx; exact SeqAt.EqAt.str_str a t' b t
    | _ => exact absurd (show false = true from fx) Bool.false_ne_true
  | _ => exact absurd (show false = true from fy) Bool.false_ne_true
def eqU (x : V) (u : Value) : Bool := match u with
  | .none => eqV .non x
  | .bool b => eqV (.bl b) x
  | .int i _ => eqV (.int i) x
  | .str z _ => eqV (.str z) x
  | _ => false
theorem eqU_of {x y : V} {u : Value} (r : RelV y u) (f : flatV y = true) : eqU x u = eqV y x := by
  cases y with
  | non => cases r; rfl
  | bl b => cases r; rfl
  | int i => obtain ⟨t, rfl⟩ := r; rfl
  | str z => obtain ⟨t, rfl⟩ := r; rfl
  | _ => exact absurd (show false = true from f) Bool.false_ne_true
theorem any_eqU {x : V} : ∀ {xs : List V} {us : List Value}, Vals xs us → xs.all flatV = true → us.any (eqU x) = xs.any fun y => eqV y x
  | _, _, .nil, _ => rfl
  | y :: xs, u :: us, .cons r t, f => by
    rw [List.all_cons, Bool.and_eq_true] at f
    rw [List.any_cons, List.any_cons, eqU_of r f.1, any_eqU t f.2]
theorem mem_eqAt {A : Around} {s : Shared} {x : V} {v : Value} (rx : RelV x v) (fx : flatV x = true) : ∀ {xs : List V} {us : List Value}, Vals xs us → xs.all flatV = true → ∀ u ∈ us, SeqAt.EqAt A s u v (eqU x u)
  | _, _, .nil, _ => fun u hu => by cases hu
  | y :: xs, u :: us, .cons r t, f => fun u' hu => by
    rw [List.all_cons, Bool.and_eq_true] at f
    rcases List.mem_cons.mp hu with rfl | hu
    · rw [eqU_of r f.1]; exact eqAt_V r rx f.1 fx
    · exact mem_eqAt rx fx t f.2 u' hu
def inV (x : V) (xs : List V) : Bool := xs.any fun y => eqV y x
def rIn (K : PySem.W.Frag) (neg : Bool) : R2 := fun x y H Q => ∃ p xs, y = .ref p ∧ (SqL K H p xs ∨ SqT K H p xs) ∧ flatV x = true ∧ xs.all flatV = true ∧ Q (.bl (if neg then !inV x xs else inV x xs)) H
theorem op_in_seq : OpR X (compareOp .In) (rIn X.K false) := by
  intro pins s σ H x y v u Q I rx ry h
  obtain ⟨p, xs, rfl, hq, fx, fs, q⟩ := h
  cases ry
  rcases hq with hq | hq
  · obtain ⟨its, r, pl, hz⟩ := I.list hq
    refine SeqAt.in_listAt (eqU x) pl.isList (fun w hw => mem_eqAt rx fx r fs w (by simpa using hw)) ⟨.bl _, H, I, rfl, ?_⟩
    rw [show its.toArray.any (eqU x) = its.any (eqU x) by simp, any_eqU r fs]
    exact q
  · obtain ⟨its, r, pl, hz⟩ := I.tuple hq
    refine SeqAt.in_tupleAt (eqU x) pl (fun w hw => mem_eqAt rx fx r fs w (by simpa using hw)) ⟨.bl _, H, I, rfl, ?_⟩
    rw [show its.toArray.any (eqU x) = its.any (eqU x) by simp, any_eqU r fs]
    exact q
theorem op_notIn_seq : OpR X (compareOp .NotIn) (rIn X.K true) := by
  intro pins s σ H x y v u Q I rx ry h
  obtain ⟨p, xs, rfl, hq, fx, fs, q⟩ := h
  cases ry
  rcases hq with hq | hq
  · obtain ⟨its, r, pl, hz⟩ := I.list hq
    refine SeqAt.notIn_listAt (eqU x) pl.isList (fun w hw => mem_eqAt rx fx r fs w (by simpa using hw)) ⟨.bl _, H, I, rfl, ?_⟩
    rw [show its.toArray.any (eqU x) = its.any (eqU x) by simp, any_eqU r fs]
    exact q
  · obtain ⟨its, r, pl, hz⟩ := I.tuple hq
    refine SeqAt.notIn_tupleAt (eqU x) pl (fun w hw => mem_eqAt rx fx r fs w (by simpa using hw)) ⟨.bl _, H, I, rfl, ?_⟩
    rw [show its.toArray.any (eqU x) = its.any (eqU x) by simp, any_eqU r fs]
    exact q
theorem call_len_seq : CallR X (.builtin "len") (fun xs H Q => ∃ p ys, xs = [.ref p] ∧ (SqL X.K H p ys ∨ SqT X.K H p ys) ∧ Q (.int ys.length) H) := by
  intro pins s σ H xs us Q I r h
  obtain ⟨p, ys, rfl, hq, q⟩ := h
  obtain ⟨u, rfl, rx⟩ := vals1 r
  cases rx
  have hn := line63
  rcases hq with hq | hq
  · obtain ⟨its, r', pl, hz⟩ := I.list hq
    have hlen := r'.length
    exact Calls.call_len_list pl.isList (by simp only [List.size_toArray] <;> omega) ⟨.int ys.length, H, I.tok _, ⟨s.toks + 1, by rw [List.size_toArray, hlen]⟩, q⟩
  · obtain ⟨its, r', pl, hz⟩ := I.tuple hq
    have hlen := r'.length
    exact len_tuple pl (by simp only [List.size_toArray] <;> omega) ⟨.int ys.length, H, I.tok _, ⟨s.toks + 1, by rw [List.size_toArray, hlen]⟩, q⟩
theorem call_len_str : CallR X (.builtin "len") (fun xs H Q => ∃ z, xs = [.str z] ∧ z.length ≤ sizeLine ∧ Q (.int z.length) H) := by
  intro pins s σ H xs us Q I r h
  obtain ⟨z, rfl, hz, q⟩ := h
  obtain ⟨u, rfl, t, rfl⟩ := vals1 r
  have hn := line63
  exact len_str (by omega) ⟨.int z.length, H, I.tok _, ⟨_, rfl⟩, q⟩
theorem CallR.or {f : Value} {r r' : List V → Hp → VK → Prop} (h : CallR X f r) (h' : CallR X f r') : CallR X f (fun xs H Q => r xs H Q ∨ r' xs H Q) := by
  intro pins s σ H xs us Q I rs q
  rcases q with q | q
  · exact h pins s σ H xs us Q I rs q
  · exact h' pins s σ H xs us Q I rs q
theorem call_tuple_of : CallR X (.type "tuple") (fun xs H Q => ∃ p ys, xs = [.ref p] ∧ ((SqL X.K H p ys ∧ ∀ l, H l = none → Q (.ref l) (upd H l (.tup ys))) ∨ (SqT X.K H p ys ∧ Q (.ref p) H))) := by
  intro pins s σ H xs us Q I r h
  obtain ⟨p, ys, rfl, h⟩ := h
  obtain ⟨u, rfl, rx⟩ := vals1 r
  cases rx
  rcases h with ⟨hq, q⟩ | ⟨hq, q⟩
  · obtain ⟨its, r', pl, hz⟩ := I.list hq
    have hlen := r'.length
    refine call_tuple_list pl.isList (fun h' kp => ?_) (by simp only [List.size_toArray] <;> omega)
    have I1 : Inv X pins σ H { s with heap := h' } := I.kept (t' := s.toks) kp
    have I2 : Inv X pins σ (upd H h'.objs.size (.tup ys)) { s with heap := h'.push { cls := .type "tuple", data := .seq its.toArray } } :=
      I1.laid (t' := s.toks) (fun b o e => Heap.get?_push_of_some _ e) (Nat.le_refl _) (show ObjOk X.prog X.w _ _ _ (.tup ys) from ⟨hz, its, r', IsTup.new _ _⟩)
    exact ⟨.ref h'.objs.size, _, I2, rfl, q _ (I1.hok.fresh (Nat.le_refl _))⟩
  · obtain ⟨its, r', pl, hz⟩ := I.tuple hq
    exact call_tuple_same pl ⟨.ref p, H, I, rfl, q⟩
def tyV (K : PySem.W.Frag) (T : String) (x : V) (H : Hp) : Prop := match x with
  | .str _ => T = "str"
  | .int _ => T = "int"
  | .ref p => (T = "list" ∧ ∃ xs, SqL K H p xs) ∨ (T = "tuple" ∧ ∃ o, K.lookup p = some o ∧ o.cls = .type "tuple" ∧ o.dict = none) ∨
      (T = "dict" ∧ ((∃ kvs, H p = some (.dK kvs)) ∨ ∃ kvs, H p = some (.dT kvs))) ∨ (T = "set" ∧ ∃ S n, H p = some (.set S n))
  | _ => False
theorem tyV_is {pins : List (Addr × Obj)} {σ : St} {H : Hp} {s : Shared} {T : String} {x : V} {v : Value} (I : Inv X pins σ H s) (r : RelV x v) (ty : tyV X.K T x H) :
    s.TypeIs v T ∧ ∀ a, v = .ref a → ∃ ob, s.heap.get? a = some ob ∧ ob.dict = none := by
  cases x with
  | str z =>
    obtain ⟨t, rfl⟩ := r
    cases (show T = "str" from ty)
    exact ⟨typeIs_str s z t, fun _ e => nomatch e⟩
  | int i =>
    obtain ⟨t, rfl⟩ := r
    cases (show T = "int" from ty)
    exact ⟨typeIs_int s i t, fun _ e => nomatch e⟩
  | ref p =>
    cases r
    rcases ty with ⟨rfl, xs, hq⟩ | ⟨rfl, o, hk, hc, hd⟩ | ⟨rfl, hk⟩ | ⟨rfl, S, n, hk⟩
    · obtain ⟨its, _, pl, _⟩ := I.list hq
      refine ⟨pl.isList.typeIs, fun a e => ?_⟩
      cases e
      obtain ⟨o, n, e, c, hd, _⟩ := pl
      exact ⟨o, e, hd⟩
    · refine ⟨⟨o, I.kIn p o hk, hc⟩, fun a e => ?_⟩
      cases e
      exact ⟨o, I.kIn _ o hk, hd⟩
    · have z : ∃ o, s.heap.get? p = some o ∧ o.ExactDict := by
        rcases hk with ⟨kvs, hk⟩ | ⟨kvs, hk⟩
        · obtain ⟨_, _, _, _, o, _, _, e, ex, _⟩ := I.hok p _ hk
          exact ⟨o, e, ex⟩
        · obtain ⟨_, _, _, _, o, _, _, e, ex, _⟩ := I.hok p _ hk
          exact ⟨o, e, ex⟩
      obtain ⟨o, e, ex⟩ := z
      refine ⟨⟨o, e, ex.1⟩, fun a e2 => ?_⟩
      cases e2
      exact ⟨o, e, ex.2.1⟩
    · obtain ⟨o, _, _, _, e, ex, _⟩ := I.hok p _ hk
      refine ⟨⟨o, e, ex.1⟩, fun a e2 => ?_⟩
      cases e2
      exact ⟨o, e, ex.2.1⟩
  | _ => exact False.elim ty
def tBM0 (K : PySem.W.Frag) (T : String) (r : V → List V → Hp → VK → Prop) (to : TE) : TE := fun σ H Q => to σ H fun x H1 => tyV K T x H1 ∧ r x [] H1 Q
def tBM (K : PySem.W.Frag) (T : String) (r : V → List V → Hp → VK → Prop) (to : TE) (t : TA) : TE := fun σ H Q => to σ H fun x H1 => tyV K T x H1 ∧ t σ H1 fun xs H2 => r x xs H2 Q
variable {o e : Expr} {es : List Expr} {to : TE} {t : TA} {name : Str} {apos cpos : Pos} {T id : String} {r : V → List V → Hp → VK → Prop}
theorem pe_bm0 (pa : PlainAttrs T) (slot : Slot T name id) (hty : typeOf (.builtin id) = pure (.type "method_descriptor")) (hm : MtR X id r) (ho : PE X o to)
    (hbase : attributeBase o name X.env (eval o X.env) = eval o X.env := by rfl) (hline : (apos.endLine == cpos.line) = true := by rfl) : PE X (.Call (.Attribute o name apos) [] [] cpos) (tBM0 X.K T r to) := by
  intro pins s σ H Q I h
  refine wpAny_Call_method0_late hbase hline (thn (ho pins s σ H _ I h) fun v s1 ⟨x, H1, I1, r1, ty, q1⟩ => ?_)
  obtain ⟨h1, h2⟩ := tyV_is I1 r1 ty
  exact ⟨T, id, pa, slot, hty, h1, h2, Calls.callWith_builtin rfl (PySem.evalArgs_none (hm pins s1 σ H1 x [] v [] Q I1 r1 .nil q1))⟩
theorem pe_bm (pa : PlainAttrs T) (slot : Slot T name id) (hty : typeOf (.builtin id) = pure (.type "method_descriptor")) (hm : MtR X id r) (ho : PE X o to) (ha : PA X (e :: es) t)
    (hbase : attributeBase o name X.env (eval o X.env) = eval o X.env := by rfl)
    (hfew : ((backTo cpos (starEach (e :: es) X.env)).all (fun x => !x.1) && (backToKw cpos (keywordEach [] X.env)).all (fun x => x.1.isSome)
      && decide ((e :: es).length + ([] : List Keyword).length + (if ([] : List Keyword).isEmpty then 0 else 1) < 30)) = true := by rfl)
    (hline : (apos.endLine == cpos.line) = true := by rfl) (hs : starEach (e :: es) X.env = (false, eval e X.env) :: starEach es X.env := by rfl) (hplain : (backTo cpos (starEach es X.env)).any (·.1) = false := by rfl) :
    PE X (.Call (.Attribute o name apos) (e :: es) [] cpos) (tBM X.K T r to t) := by
  intro pins s σ H Q I h
  refine wpAny_Call_method_late hbase hfew hline rfl (thn (ho pins s σ H _ I h) fun v s1 ⟨x, H1, I1, r1, ty, q1⟩ => ?_)
  obtain ⟨h1, h2⟩ := tyV_is I1 r1 ty
  refine ⟨T, id, pa, slot, hty, h1, h2, ?_⟩
  have hA := ha cpos pins s1 σ H1 _ I1 q1
  rw [hs] at hA ⊢
  refine Calls.callWith_builtin (by show (false || (backTo cpos (starEach es X.env)).any (·.1)) = false; rw [hplain] <;> rfl) (Calls.evalArgs_plain ?_)
  exact thn hA fun us s2 ⟨vs, H2, I2, r2, q2⟩ => hm pins s2 σ H2 x vs v us Q I2 r1 r2 q2
end
end L2
namespace L2
open PySem PySem.Spec PyProof.Rows
def MtM (X : Cx) (id : String) (r : V → List V → Hp → VK → Prop) : Prop :=
  ∀ (pins : List (Addr × Obj)) (s : Shared) (σ : St) (H : Hp) (x : V) (xs : List V) (v : Value) (us : List Value) (Q : VK), Inv X pins σ H s → RelV x v → Vals xs us → r x xs H Q →
    wpAny (model X.prog X.w) X.A (call (.builtin id) (v :: us)) (EP X pins σ Q) X.xe s
theorem Vals.one : ∀ {x : V} {us : List Value}, Vals [x] us → ∃ u, us = [u] ∧ RelV x u
  | _, _, .cons r .nil => ⟨_, rfl, r⟩
theorem Vals.two : ∀ {x y : V} {us : List Value}, Vals [x, y] us → ∃ u v, us = [u, v] ∧ RelV x u ∧ RelV y v
  | _, _, _, .cons r (.cons q .nil) => ⟨_, _, rfl, r, q⟩
theorem Vals.zero : ∀ {us : List Value}, Vals [] us → us = []
  | _, .nil => rfl
theorem Vals.dropLast {xs : List V} {us : List Value} (h : Vals xs us) : Vals xs.dropLast us.dropLast := by
  induction h with
  | nil => exact .nil
  | cons r t ih =>
    cases t with
    | nil => exact .nil
    | cons q t' => exact .cons r ih
theorem Vals.eraseIdx : ∀ {xs : List V} {us : List Value} (i : Nat), Vals xs us → Vals (xs.eraseIdx i) (us.eraseIdx i)
  | _, _, _, .nil => .nil
  | _, _, 0, .cons _ t => t
  | _, _, i + 1, .cons r t => .cons r (Vals.eraseIdx i t)
theorem Vals.reverse {xs : List V} {us : List Value} (h : Vals xs us) : Vals xs.reverse us.reverse := by
  induction h with
  | nil => exact .nil
  | cons r t ih => rw [List.reverse_cons, List.reverse_cons]; exact Vals.append ih (.cons r .nil)
theorem erase_last {α : Type} (l : List α) : l.eraseIdx (l.length - 1) = l.dropLast := by
  induction l with
  | nil => rfl
  | cons a r ih =>
    cases r with
    | nil => rfl
    | cons b r =>
      have e : (a :: b :: r).length - 1 = ((b :: r).length - 1) + 1 := by
        have h1 : (a :: b :: r).length = r.length + 2 := rfl
        have h2 : (b :: r).length = r.length + 1 := rfl
        omega
      rw [e, List.eraseIdx_cons_succ, ih]
      all_goals rfl
section
variable {X : Cx} {pins : List (Addr × Obj)} {σ : St} {H : Hp} {s : Shared} {l b : Addr} {xs ys zs : List V}
theorem Inv.lset {its its' : List Value} {n : Nat} {f : Array Value → Array Value} {t' : Nat} (I : Inv X pins σ H s) (hH : H l = some (.lst xs))
    (e : s.heap.get? l = some { cls := .type "list", data := .seq its.toArray n }) (hf : f its.toArray = its'.toArray) (hv : Vals ys its') (hz : ys.length ≤ sizeLine) :
    Inv X pins σ (upd H l (.lst ys)) { s with heap := s.heap.update l (Obj.mapSeq f), toks := t' } := by
  have q := PySem.IsL.update e f
  rw [hf] at q
  refine I.write (x := l) (e := l) (by rw [hH]; exact trivial) (.inl rfl) (fun b' u hb hu => (Heap.get?_update_other s.heap (Obj.mapSeq f) (Ne.symm hb)).trans hu) ⟨_, q⟩ ?_
  exact ⟨hz, its', _, hv, q⟩
theorem Inv.lnew {its : List Value} {t' : Nat} (I : Inv X pins σ H s) (hv : Vals ys its) (hz : ys.length ≤ sizeLine) :
    Inv X pins σ (upd H s.heap.objs.size (.lst ys)) { s with heap := s.heap.push { cls := .type "list", data := .seq its.toArray }, toks := t' } :=
  I.laid (fun _ _ q => Heap.get?_push_of_some _ q) (Nat.le_refl _) ⟨hz, its, 0, hv, Heap.get?_push_size _ rfl⟩
theorem Inv.fresh (I : Inv X pins σ H s) : H s.heap.objs.size = none := I.hok.fresh (Nat.le_refl _)
theorem Inv.lstM (I : Inv X pins σ H s) (hH : H l = some (.lst xs)) : xs.length ≤ sizeLine ∧ ∃ (its : List Value) (n : Nat), Vals xs its ∧ xs.length = its.length ∧ s.heap.get? l = some { cls := .type "list", data := .seq its.toArray n } := by
  obtain ⟨z, its, n, r, e⟩ := I.hok l _ hH
  exact ⟨z, its, n, r, r.length, e⟩
end
section
variable {X : Cx}
def rAppend : V → List V → Hp → VK → Prop := fun x vs H Q => ∃ l xs y, x = .ref l ∧ vs = [y] ∧ H l = some (.lst xs) ∧ xs.length < sizeLine ∧ Q .non (upd H l (.lst (xs ++ [y])))
theorem mt_append : MtM X "list.append" rAppend := by
  intro pins s σ H x vs v us Q I rx rv h
  obtain ⟨l, xs, y, rfl, rfl, hH, hz, q⟩ := h
  cases rx
  obtain ⟨u, rfl, ru⟩ := rv.one
  obtain ⟨z, its, n, r, hl, e⟩ := I.lstM hH
  refine call_meets F.slot_list_append ⟨_, e, rfl⟩ F.entry_list_append (F.args_list_append_2 _ _) (PySem.list_append l its.toArray n u (by rw [List.size_toArray]; omega)) ⟨e, ?_⟩
  refine ⟨.non, _, I.lset (its' := its ++ [u]) hH e (by simp) (r.append (.cons ru .nil)) ?_, rfl, q⟩
  rw [List.length_append, List.length_singleton]
  omega
def rPop : V → List V → Hp → VK → Prop := fun x vs H Q => ∃ l xs y, x = .ref l ∧ vs = [] ∧ H l = some (.lst xs) ∧ xs[xs.length - 1]? = some y ∧ Q y (upd H l (.lst xs.dropLast))
theorem mt_pop : MtM X "list.pop" rPop := by
  intro pins s σ H x vs v us Q I rx rv h
  obtain ⟨l, xs, y, rfl, rfl, hH, hy, q⟩ := h
  cases rx
  have hus := rv.zero
  subst hus
  obtain ⟨z, its, n, r, hl, e⟩ := I.lstM hH
  obtain ⟨u, hu, ru⟩ := r.get hy
  have hy' : its.toArray[its.toArray.size - 1]? = some u := by
    show its.toArray[its.length - 1]? = some u
    rw [← Array.getElem?_toList, ← hl]
    exact hu
  refine call_meets F.slot_list_pop ⟨_, e, rfl⟩ F.entry_list_pop (F.args_list_pop_1 _) (MeetsSeq.list_pop_last l its.toArray n u hy' (by rw [List.size_toArray]; omega)) ⟨e, ?_⟩
  refine ⟨y, _, I.lset (its' := its.dropLast) hH e ?_ r.dropLast ?_, ru, q⟩
  · show its.toArray.eraseIdxIfInBounds (its.toArray.size - 1) = its.dropLast.toArray
    rw [List.size_toArray, List.eraseIdxIfInBounds_toArray, erase_last]
  · rw [List.length_dropLast]
    omega
def rCat : R2 := fun x y H Q => ∃ l b xs zs, x = .ref l ∧ y = .ref b ∧ H l = some (.lst xs) ∧ H b = some (.lst zs) ∧ xs.length + zs.length ≤ sizeLine ∧ ∀ p, H p = none → Q (.ref p) (upd H p (.lst (xs ++ zs)))
theorem op_cat : OpR X (binaryOp .Add) rCat := by
  intro pins s σ H x y v u Q I rx ry h
  obtain ⟨l, b, xs, zs, rfl, rfl, hH, hB, hz, q⟩ := h
  cases rx
  cases ry
  obtain ⟨z, its, n, r, hl, e⟩ := I.lstM hH
  obtain ⟨z2, its2, n2, r2, hl2, e2⟩ := I.lstM hB
  refine PySem.P.add_list e e2 ?_ (by rw [List.size_toArray, List.size_toArray]; omega)
  have ea : its.toArray ++ its2.toArray = (its ++ its2).toArray := by simp
  rw [ea]
  exact ⟨.ref _, _, I.lnew (t' := s.toks) (r.append r2) (by rw [List.length_append]; omega), rfl, q _ I.fresh⟩
end
section
variable {prog : Program} {w : World} {A : Around} {E : Value → Shared → Prop} {s : Shared}
end
section
variable {X : Cx}
end
end L2
namespace L2
open PySem PySem.Spec PyProof.Rows
theorem Vals.strs : ∀ {xs : List Str} {us : List Value}, Vals (xs.map V.str) us → StrsAre us xs
  | [], us, h => by
    rw [List.map_nil] at h
    cases h
    exact StrsAre.nil
  | x :: xs, us, h => by
    rw [List.map_cons] at h
    cases h with
    | cons r t =>
      obtain ⟨k, rfl⟩ := r
      exact StrsAre.cons x k (Vals.strs t)
section
variable {prog : Program} {w : World} {A : Around} {E : Value → Shared → Prop} {s : Shared} {l : Addr} {its : List Value} {ns : List Int} {Q : Value → Shared → Prop}
end
section
variable {X : Cx}
def rSum (K : PySem.W.Frag) : List V → Hp → VK → Prop := fun vs H Q => ∃ (a : Addr) (ns : List Int), vs = [V.ref a] ∧ SqL K H a (ns.map V.int) ∧ Q (.int ns.sum) H
end
section
variable {X : Cx}
end
section
variable {X : Cx}
end
section
variable {X : Cx}
end
mutual
inductive Dp (K : PySem.W.Frag) (H : Hp) : V → PyData → Prop
  | non : Dp K H .non .none
  | bl (b : Bool) : Dp K H (.bl b) (.bool b)
  | int (i : Int) : Dp K H (.int i) (.int i)
  | str (x : Str) : Dp K H (.str x) (.str x)
  | lst {a : Addr} {xs : List V} {ds : List PyData} : SqL K H a xs → DpAll K H xs ds → Dp K H (.ref a) (.list ds)
  | tup {a : Addr} {xs : List V} {ds : List PyData} : SqT K H a xs → DpAll K H xs ds → Dp K H (.ref a) (.tuple ds)
inductive DpAll (K : PySem.W.Frag) (H : Hp) : List V → List PyData → Prop
  | nil : DpAll K H [] []
  | cons {v : V} {vs : List V} {d : PyData} {ds : List PyData} : Dp K H v d → DpAll K H vs ds → DpAll K H (v :: vs) (d :: ds)
end
section
variable {X : Cx} {pins : List (Addr × Obj)} {σ : St} {H : Hp} {s : Shared}
end
section
variable {X : Cx}
end
end L2
namespace L2
open PySem PySem.Spec PyProof.Rows
abbrev CellAt (h : Heap) (c : Addr) (v : Option Value) : Prop := h.IsCell c v
def relS (scope sc : Scope) : Scope :=
  { scope with names := scope.names.map fun (n, k) => if (k == .free && sc.kind == .function && sc.names.lookup n == some .cell) then (n, .cell) else (n, k) }
def cloFrom (cells : List (Str × Addr)) : List (Str × NameKind) → List (Str × Addr) → List (Str × Addr)
  | [], acc => acc
  | (n, k) :: r, acc => if k == .free then cloFrom cells r ((n, (cells.lookup n).getD 0) :: acc) else cloFrom cells r acc
theorem closure_loop (env : Env) (f : Str × NameKind → List (Str × Addr) → Sem (ForInStep (List (Str × Addr))))
    (hf : ∀ n k c, f (n, k) c = if k == .free then (do let a ← cellOf env n; pure (.yield ((n, a) :: c))) else pure (.yield c)) :
    ∀ (names : List (Str × NameKind)) (acc : List (Str × Addr)), (∀ y ∈ names, y.2 = .free → ∃ c, env.cells.lookup y.1 = some c) → forIn names acc f = pure (cloFrom env.cells names acc)
  | [], acc, _ => by rw [List.forIn_nil]; rfl
  | (n, k) :: r, acc, h => by
    rw [List.forIn_cons, hf]
    have ih := fun acc => closure_loop env f hf r acc fun y hy => h y (List.mem_cons_of_mem _ hy)
    unfold cloFrom
    by_cases hk : (k == NameKind.free) = true
    · rw [if_pos hk, if_pos hk]
      obtain ⟨c, hc⟩ := h (n, k) List.mem_cons_self (by simpa using hk)
      have e : cellOf env n = pure c := by unfold cellOf; rw [hc]
      rw [e]
      have e2 : (env.cells.lookup n).getD 0 = c := by rw [hc]; rfl
      rw [e2]
      exact ih _
    · rw [if_neg hk, if_neg hk]
      exact ih _
theorem closure_ok {scope : Scope} {env : Env} (h : ∀ y ∈ scope.names, y.2 = .free → ∃ c, env.cells.lookup y.1 = some c) : closureFor scope env = pure (cloFrom env.cells scope.names []) := by
  simp only [closureFor]
  rw [closure_loop env _ (fun n k c => rfl) scope.names [] h]
  rfl
theorem mem_lookup {α : Type} : ∀ {l : List (Str × α)} {n : Str} {c : α}, (n, c) ∈ l → ∃ c', l.lookup n = some c'
  | (k, v) :: r, n, c, h => by
    rw [List.lookup_cons]
    cases hb : n == k with
    | true => exact ⟨_, rfl⟩
    | false =>
      rcases List.mem_cons.mp h with e | h
      · cases e; simp at hb
      · exact mem_lookup h
theorem cloFrom_mem {cells : List (Str × Addr)} : ∀ {names : List (Str × NameKind)} {acc : List (Str × Addr)} {n : Str} {c : Addr}, (n, c) ∈ cloFrom cells names acc → (n, c) ∈ acc ∨ ((n, .free) ∈ names ∧ c = (cells.lookup n).getD 0)
  | [], _, _, _, h => .inl h
  | (m, k) :: r, acc, n, c, h => by
    unfold cloFrom at h
    split at h
    · rename_i hk
      have hk : k = .free := by simpa using hk
      rcases cloFrom_mem h with h | ⟨h1, h2⟩
      · rcases List.mem_cons.mp h with e | h
        · cases e; exact .inr ⟨hk ▸ List.mem_cons_self, rfl⟩
        · exact .inl h
      · exact .inr ⟨List.mem_cons_of_mem _ h1, h2⟩
    · rcases cloFrom_mem h with h | ⟨h1, h2⟩
      · exact .inl h
      · exact .inr ⟨List.mem_cons_of_mem _ h1, h2⟩
theorem cloFrom_acc {cells : List (Str × Addr)} : ∀ {names : List (Str × NameKind)} {acc : List (Str × Addr)} {p : Str × Addr}, p ∈ acc → p ∈ cloFrom cells names acc
  | [], _, _, h => h
  | (m, k) :: r, acc, p, h => by
    unfold cloFrom
    split
    · exact cloFrom_acc (List.mem_cons_of_mem _ h)
    · exact cloFrom_acc h
theorem cloFrom_has {cells : List (Str × Addr)} : ∀ {names : List (Str × NameKind)} {acc : List (Str × Addr)} {n : Str}, (n, .free) ∈ names → (n, (cells.lookup n).getD 0) ∈ cloFrom cells names acc
  | (m, k) :: r, acc, n, h => by
    unfold cloFrom
    rcases List.mem_cons.mp h with e | h
    · cases e
      exact cloFrom_acc List.mem_cons_self
    · split
      · exact cloFrom_has h
      · exact cloFrom_has h
theorem cells_mem : ∀ {names : List (Str × NameKind)} {h : Heap} {acc : List (Str × Addr)} {x : Str} {c : Addr}, (x, c) ∈ cellsFrom h.objs.size names acc →
    (x, c) ∈ acc ∨ ((x, .cell) ∈ names ∧ h.objs.size ≤ c ∧ CellAt (pushCells h names) c none)
  | [], _, _, _, _, h => .inl h
  | (n, k) :: r, h, acc, x, c, hm => by
    unfold cellsFrom at hm
    unfold pushCells
    split at hm
    · rename_i hk
      rw [if_pos hk]
      have hk : k = .cell := by simpa using hk
      rw [← Heap.size_push h { cls := .type "cell", data := .cell none }] at hm
      rcases cells_mem hm with hm | ⟨h1, h2, h3⟩
      · rcases List.mem_cons.mp hm with e | hm
        · cases e
          exact .inr ⟨hk ▸ List.mem_cons_self, Nat.le_refl _, _, pushCells_keeps r _ _ _ (Heap.get?_push_size _ rfl), rfl⟩
        · exact .inl hm
      · rw [Heap.size_push] at h2
        exact .inr ⟨List.mem_cons_of_mem _ h1, Nat.le_of_succ_le h2, h3⟩
    · rename_i hk
      rw [if_neg hk]
      rcases cells_mem hm with hm | ⟨h1, h2, h3⟩
      · exact .inl hm
      · exact .inr ⟨List.mem_cons_of_mem _ h1, h2, h3⟩
theorem cells_acc : ∀ {names : List (Str × NameKind)} {n : Nat} {acc : List (Str × Addr)} {p : Str × Addr}, p ∈ acc → p ∈ cellsFrom n names acc
  | [], _, _, _, h => h
  | (m, k) :: r, n, acc, p, h => by
    unfold cellsFrom
    split
    · exact cells_acc (List.mem_cons_of_mem _ h)
    · exact cells_acc h
theorem cells_has : ∀ {names : List (Str × NameKind)} {n : Nat} {acc : List (Str × Addr)} {x : Str}, (x, .cell) ∈ names → ∃ c, (x, c) ∈ cellsFrom n names acc
  | (m, k) :: r, n, acc, x, h => by
    unfold cellsFrom
    rcases List.mem_cons.mp h with e | h
    · cases e
      exact ⟨n, cells_acc List.mem_cons_self⟩
    · split
      · exact cells_has h
      · exact cells_has h
theorem cells_inj : ∀ {names : List (Str × NameKind)} {h : Heap} {acc : List (Str × Addr)} {x y : Str} {c : Addr}, (∀ p ∈ acc, p.2 < h.objs.size) → (∀ x y c, (x, c) ∈ acc → (y, c) ∈ acc → x = y) →
    (x, c) ∈ cellsFrom h.objs.size names acc → (y, c) ∈ cellsFrom h.objs.size names acc → x = y
  | [], _, _, _, _, _, _, hi, h1, h2 => hi _ _ _ h1 h2
  | (n, k) :: r, h, acc, x, y, c, hl, hi, h1, h2 => by
    unfold cellsFrom at h1 h2
    split at h1
    · rename_i hk
      rw [if_pos hk] at h2
      rw [← Heap.size_push h { cls := .type "cell", data := .cell none }] at h1 h2
      refine cells_inj (h := h.push _) (fun p hp => ?_) (fun x y c a b => ?_) h1 h2
      · rw [Heap.size_push]
        rcases List.mem_cons.mp hp with rfl | hp
        · exact Nat.lt_succ_self _
        · exact Nat.lt_succ_of_lt (hl p hp)
      · rcases List.mem_cons.mp a with e | a <;> rcases List.mem_cons.mp b with e' | b
        · cases e; cases e'; rfl
        · cases e; exact absurd (hl _ b) (Nat.lt_irrefl _)
        · cases e'; exact absurd (hl _ a) (Nat.lt_irrefl _)
        · exact hi _ _ _ a b
    · rename_i hk
      rw [if_neg hk] at h2
      exact cells_inj hl hi h1 h2
theorem newEnv_comp {M : Model} {A : Around} {E : Value → Shared → Prop} {s : Shared} {scope : Scope} {globals : Addr} {closure : List (Str × Addr)} {qual : Str} {func : Option Addr} {code : Value} {around : Env} {builtins : Addr} {Q : Env → Shared → Prop}
    (h : Q (newEnv scope s.heap.objs.size globals (cellsFrom (s.heap.objs.size + 1) scope.names closure) qual func code (some around) builtins)
      { s with heap := pushCells (s.heap.push { cls := .type "dict", data := .dict #[] }) scope.names }) :
    wpAny M A (newFunctionEnv scope globals closure [] qual func code (some around) builtins) Q E s := by
  simp only [newFunctionEnv, Option.isSome_some, if_true]
  refine wpAny_bind (wpAny_alloc ?_)
  refine wpAny_bind (wpAny_layCells _ (fun n k c => rfl) scope.names closure _ _ ?_)
  rw [show ({ s with heap := s.heap.push { cls := .type "dict", data := .dict #[] } } : Shared).heap.objs.size = s.heap.objs.size + 1 from Heap.size_push ..]
  rw [List.forIn_nil]
  exact wpAny_bind (wpAny_pure (wpAny_pure h))
theorem lookup_relS {sc : Scope} : ∀ {names : List (Str × NameKind)} {x : Str} {k : NameKind},
    (names.map fun (n, k) => if (k == NameKind.free && sc.kind == .function && sc.names.lookup n == some .cell) then (n, NameKind.cell) else (n, k)).lookup x = some k →
    ∃ k', names.lookup x = some k' ∧ (k = k' ∨ (k' = .free ∧ k = .cell))
  | [], _, _, h => by simp at h
  | (n, k₀) :: r, x, k, h => by
    have ih := @lookup_relS sc r x k
    have h' : List.lookup x ((if (k₀ == NameKind.free && sc.kind == .function && sc.names.lookup n == some .cell) = true then (n, NameKind.cell) else (n, k₀)) :: (r.map _)) = some k := h
    cases hx : x == n with
    | true =>
      simp only [List.lookup_cons, hx]
      by_cases hc : (k₀ == NameKind.free && sc.kind == .function && sc.names.lookup n == some .cell) = true
      · rw [if_pos hc] at h'
        simp only [List.lookup_cons, hx] at h'
        cases h'
        simp only [Bool.and_eq_true, beq_iff_eq] at hc
        exact ⟨k₀, rfl, .inr ⟨hc.1.1, rfl⟩⟩
      · rw [if_neg hc] at h'
        simp only [List.lookup_cons, hx] at h'
        cases h'
        exact ⟨_, rfl, .inl rfl⟩
    | false =>
      simp only [List.lookup_cons, hx]
      by_cases hc : (k₀ == NameKind.free && sc.kind == .function && sc.names.lookup n == some .cell) = true
      · rw [if_pos hc] at h'
        simp only [List.lookup_cons, hx] at h'
        exact ih h'
      · rw [if_neg hc] at h'
        simp only [List.lookup_cons, hx] at h'
        exact ih h'
structure BlkOk (N : List Str) (sc scope : Scope) (own : List (Str × Nat)) : Prop where
  kind : scope.kind = .function
  uniq : ∀ y ∈ scope.names, scope.names.lookup y.1 = some y.2
  ix : ∀ p ∈ own, N[p.2]? = some p.1
  free : ∀ y ∈ scope.names, y.2 = .free → sc.names.lookup y.1 = some .cell ∨ sc.names.lookup y.1 = some .free
  own : ∀ y ∈ scope.names, y.2 = .local ∨ y.2 = .cell → y.1 ∈ own.map (·.1) ∨ y.1 ∉ N
def wipe (σ : St) : List Nat → St
  | [] => σ
  | v :: vs => (wipe σ vs).set v none
theorem wipe_length (σ : St) : ∀ vs : List Nat, (wipe σ vs).length = σ.length
  | [] => rfl
  | v :: vs => by unfold wipe; rw [List.length_set, wipe_length σ vs]
theorem wipe_some {σ : St} {i : Nat} {x : V} : ∀ {vs : List Nat}, (wipe σ vs)[i]? = some (some x) → σ[i]? = some (some x) ∧ i ∉ vs
  | [], h => ⟨h, by simp⟩
  | v :: vs, h => by
    unfold wipe at h
    by_cases hi : v = i
    · subst hi
      by_cases hv : v < (wipe σ vs).length
      · rw [List.getElem?_set_self hv] at h; cases h
      · rw [List.getElem?_eq_none (by simpa using hv)] at h; cases h
    · rw [List.getElem?_set_ne hi] at h
      obtain ⟨h1, h2⟩ := wipe_some h
      exact ⟨h1, by simp only [List.mem_cons, not_or]; exact ⟨fun e => hi e.symm, h2⟩⟩
abbrev Cx.blk (X : Cx) (s : Shared) (H : Hp) (scope : Scope) (cenv : Env) (fp : List Addr) : Cx := { X with s_0 := s, H_0 := H, env := cenv, outer := X.stack, ex := fp, fn := fun x => scope.names.lookup x == some .cell, pn := [], xe := fun _ _ => False }
section
variable {X : Cx} {pins : List (Addr × Obj)} {σ : St} {H : Hp} {s : Shared}
theorem block_start {scope : Scope} {own : List (Str × Nat)} {fp : List Addr} (I : Inv X pins σ H s) (ok : BlkOk X.N X.env.scope scope own) (hN : X.N.Nodup) (hfp : ∀ b ∈ fp, FpOk X pins H b ∧ b < s.heap.objs.size) :
    Inv (X.blk s H scope (compEnvC scope (cellsFrom (s.heap.objs.size + 1) scope.names (cloFrom X.env.cells scope.names [])) s.heap.objs.size X.env) fp) [] (wipe σ (own.map (·.2))) H { s with heap := pushCells (s.heap.push { cls := .type "dict", data := .dict #[] }) scope.names } := by
  have hfree : ∀ y ∈ scope.names, y.2 = .free → ∃ c, X.env.cells.lookup y.1 = some c := fun y hy e => by
    rcases ok.free y hy e with k | k
    · exact I.ok.has _ (.inl k)
    · exact I.ok.has _ (.inr k)
  generalize hcenv : compEnvC scope (cellsFrom (s.heap.objs.size + 1) scope.names (cloFrom X.env.cells scope.names [])) s.heap.objs.size X.env = cenv
  have kp : ∀ b o, s.heap.get? b = some o → (pushCells (s.heap.push { cls := .type "dict", data := .dict #[] }) scope.names).get? b = some o := fun b o e => pushCells_keeps _ _ _ _ (Heap.get?_push_of_some _ e)
  have hL : cenv.locals = s.heap.objs.size := by rw [← hcenv]; rfl
  have hcl : cenv.cells = cellsFrom (s.heap.objs.size + 1) scope.names (cloFrom X.env.cells scope.names []) := by rw [← hcenv]; rfl
  have hsc : cenv.scope = relS scope X.env.scope := by rw [← hcenv]; rfl
  rw [← Heap.size_push s.heap { cls := .type "dict", data := .dict #[] }] at hcl
  have cm : ∀ {y c}, (y, c) ∈ cloFrom X.env.cells scope.names [] → X.env.cells.lookup y = some c ∧ c < s.heap.objs.size := fun {y c} hm => by
    rcases cloFrom_mem hm with hm | ⟨h1, rfl⟩
    · cases hm
    · obtain ⟨c, hc⟩ := hfree _ h1 rfl
      rw [hc]
      obtain ⟨w, z⟩ := I.cell _ _ hc
      exact ⟨rfl, z.lt⟩
  have mem : ∀ {y c}, cenv.cells.lookup y = some c → (X.env.cells.lookup y = some c ∧ c < s.heap.objs.size) ∨ (s.heap.objs.size + 1 ≤ c ∧ CellAt (pushCells (s.heap.push { cls := .type "dict", data := .dict #[] }) scope.names) c none) := fun {y c} e => by
    rw [hcl] at e
    rcases cells_mem (PySem.mem_of_lookup e) with hm | ⟨_, h2, h3⟩
    · exact .inl (cm hm)
    · rw [Heap.size_push] at h2; exact .inr ⟨h2, h3⟩
  have look : ∀ {y}, scope.names.lookup y = some .free → ∃ c, cenv.cells.lookup y = some c ∧ X.env.cells.lookup y = some c := fun {y} hl => by
    have hy : (y, NameKind.free) ∈ scope.names := PySem.mem_of_lookup hl
    obtain ⟨c', e'⟩ := mem_lookup (cells_acc (names := scope.names) (n := (s.heap.push { cls := .type "dict", data := .dict #[] }).objs.size) (cloFrom_has (cells := X.env.cells) (acc := []) hy))
    rw [← hcl] at e'
    refine ⟨c', e', ?_⟩
    rw [hcl] at e'
    rcases cells_mem (PySem.mem_of_lookup e') with hm | ⟨h1, _, _⟩
    · exact (cm hm).1
    · have := ok.uniq _ h1
      rw [hl] at this; cases this
  have okB : (X.blk s H scope cenv fp).Ok := by
    refine ⟨I.ok.mod, by show cenv.scope.kind = _; rw [hsc]; exact ok.kind, by show cenv.globals = _; rw [← hcenv]; exact I.ok.glob, by show cenv.builtins = _; rw [← hcenv]; exact I.ok.blt, by show s.heap.objs.size ≤ cenv.locals; rw [hL]; exact Nat.le_refl _,
      fun y z c e1 e2 => ?_, fun y hy => ?_, fun y c z e => ?_, I.ok.hd, I.ok.frames, .inl rfl, fun b hb => ⟨?_, fun y c e z => ?_⟩, I.bs, Nat.le_trans I.ok.bsz I.sz, fun b o e hb => ?_, fun b hb z => ?_, I.stack, I.stkFree⟩
    · have e1 : cenv.cells.lookup y = some c := e1
      have e2 : cenv.cells.lookup z = some c := e2
      rw [hcl] at e1 e2
      refine cells_inj (fun p hp => ?_) (fun y z c a b => I.ok.inj y z c (cm a).1 (cm b).1) (PySem.mem_of_lookup e1) (PySem.mem_of_lookup e2)
      rw [Heap.size_push]
      exact Nat.lt_succ_of_lt (cm (y := p.1) (c := p.2) hp).2
    · show ∃ c, cenv.cells.lookup y = some c
      have key : ∀ k, cenv.kindOf y = some k → (k = .cell ∨ k = .free) → ∃ c, cenv.cells.lookup y = some c := fun k hk hk' => by
        unfold Env.kindOf at hk
        rw [hsc] at hk
        obtain ⟨k', e, r⟩ := lookup_relS hk
        have : k' = .cell ∨ k' = .free := by
          rcases r with rfl | ⟨rfl, _⟩
          · exact hk'
          · exact .inr rfl
        rcases this with rfl | rfl
        · obtain ⟨c, hm⟩ := cells_has (n := (s.heap.push { cls := .type "dict", data := .dict #[] }).objs.size) (acc := cloFrom X.env.cells scope.names []) (PySem.mem_of_lookup e)
          obtain ⟨c', e'⟩ := mem_lookup hm
          exact ⟨c', by rw [hcl]; exact e'⟩
        · obtain ⟨c, h1, _⟩ := look e
          exact ⟨c, h1⟩
      rcases hy with hy | hy
      · exact key _ hy (.inl rfl)
      · exact key _ hy (.inr rfl)
    · have z : (scope.names.lookup y == some NameKind.cell) = true := z
      have z : scope.names.lookup y = some .cell := by simpa using z
      have e : cenv.cells.lookup y = some c := e
      rw [hcl] at e
      rcases cells_mem (PySem.mem_of_lookup e) with hm | ⟨_, h2, _⟩
      · rcases cloFrom_mem hm with hm | ⟨h1, _⟩
        · cases hm
        · have q := ok.uniq _ h1
          rw [z] at q; cases q
      · rw [Heap.size_push] at h2
        exact Nat.le_of_succ_le h2
    · show b ≠ cenv.locals
      rw [hL]; exact Nat.ne_of_lt (hfp b hb).2
    · have e : cenv.cells.lookup y = some c := e
      rcases mem e with ⟨h1, _⟩ | ⟨h1, _⟩
      · exact (hfp b hb).1.2.2.2.2.1 y c h1 z
      · have h2 : s.heap.objs.size + 1 ≤ b := by rw [← z]; exact h1
        exact absurd (Nat.lt_of_lt_of_le (hfp b hb).2 (Nat.le_of_succ_le h2)) (Nat.lt_irrefl _)
    · rcases (hfp b hb).1.2.2.2.1 with z | z
      · exact I.ok.noex b o e z
      · exact absurd (Nat.lt_of_lt_of_le (Heap.lt_size e) (Nat.le_trans I.ok.bsz z)) (Nat.lt_irrefl _)
    · rcases List.mem_cons.mp (I.stkSub b z) with z | z
      · exact (hfp b hb).1.2.1 z
      · exact (hfp b hb).1.2.2.1 z
  refine ⟨okB, rfl, I.bare, Un.kept kp, ⟨fun _ => none, ?_, fun i y av e1 e2 e3 => ?_⟩, fun y c e => ?_, ?_, fun y c e => ?_, fun p hp => ?_, I.hok.kept kp, by rw [wipe_length]; exact I.len⟩
  · show Heap.Ns _ cenv.locals _
    rw [hL]
    exact Heap.Ns.keeps (Heap.Ns.new ..) fun b o e => pushCells_keeps _ _ _ _ e
  · obtain ⟨e2, hne⟩ := wipe_some e2
    have hfr : scope.names.lookup y = some .free ∧ (cenv.kindOf y = some .cell ∨ cenv.kindOf y = some .free) := by
      have key : ∀ k, cenv.scope.names.lookup y = some k → k = .local ∨ k = .cell ∨ k = .free → scope.names.lookup y = some .free ∧ (cenv.kindOf y = some .cell ∨ cenv.kindOf y = some .free) := fun k hk hk' => by
        have hk0 := hk
        rw [hsc] at hk
        obtain ⟨k', e, r⟩ := lookup_relS hk
        have no : ¬ (k' = .local ∨ k' = .cell) := fun hh => by
          rcases ok.own _ (PySem.mem_of_lookup e) hh with e' | e'
          · obtain ⟨p, hp, hpy⟩ := List.mem_map.mp e'
            have e3 := ok.ix p hp
            have : p.1 = y := hpy
            rw [this] at e3
            exact hne (List.mem_map.mpr ⟨p, hp, nodup_ix hN e3 e1⟩)
          · exact e' (List.mem_of_getElem? e1)
        rcases r with rfl | ⟨rfl, rfl⟩
        · rcases hk' with rfl | rfl | rfl
          · exact absurd (.inl rfl) no
          · exact absurd (.inr rfl) no
          · exact ⟨e, .inr hk0⟩
        · exact ⟨e, .inl hk0⟩
      have e3 : Vis cenv.scope y := e3
      rcases e3 with e3 | e3 | e3
      · exact key _ e3 (.inl rfl)
      · exact key _ e3 (.inr (.inl rfl))
      · exact key _ e3 (.inr (.inr rfl))
    obtain ⟨m, hn, hl⟩ := I.loc
    have hvis : Vis X.env.scope y := (ok.free _ (PySem.mem_of_lookup hfr.1) rfl).elim (fun k => .inr (.inl k)) (fun k => .inr (.inr k))
    obtain ⟨w, r, q⟩ := hl i y av e1 e2 hvis
    refine ⟨w, r, .inr ⟨hfr.2, ?_⟩⟩
    obtain ⟨c, h1, h2⟩ := look hfr.1
    rcases q with ⟨k, _⟩ | ⟨_, c', e', z⟩
    · have k : X.env.scope.names.lookup y = some .local := k
      rcases ok.free _ (PySem.mem_of_lookup hfr.1) rfl with k' | k' <;> rw [show X.env.scope.names.lookup y = _ from k'] at k <;> cases k
    · rw [h2] at e'; cases e'
      exact ⟨c, h1, z.keeps kp⟩
  · have e : cenv.cells.lookup y = some c := e
    rcases mem e with ⟨h1, _⟩ | ⟨_, z⟩
    · obtain ⟨w, z⟩ := I.cell y c h1
      exact ⟨w, z.keeps kp⟩
    · exact ⟨_, z⟩
  · show H cenv.locals = none
    rw [hL]; exact I.hok.fresh (Nat.le_refl _)
  · have e : cenv.cells.lookup y = some c := e
    rcases mem e with ⟨h1, _⟩ | ⟨h1, _⟩
    · exact I.freeC y c h1
    · exact I.hok.fresh (Nat.le_of_succ_le h1)
  · exact absurd (show p ∈ ([] : List (Addr × Obj)) ++ [] from hp) (by simp)
theorem app_ok {E : Value → Shared → Prop} {D : Addr} {xs : List V} {y : V} {v : Value} {Q : Value → Shared → Prop} (I : Inv X pins σ H s) (hD : H D = some (.lst xs)) (hz : xs.length < sizeLine) (r : RelV y v)
    (h : ∀ s', Inv X pins σ (upd H D (.lst (xs ++ [y]))) s' → Q .none s') : wpAny (model X.prog X.w) X.A (call (.builtin "list.append") [.ref D, v]) Q E s := by
  obtain ⟨hz', its, n, ri, e⟩ := I.hok D _ hD
  have hl := ri.length
  refine append_at (hsz := by rw [List.size_toArray]; omega) e fun h' sb ho' => ?_
  refine h { s with heap := h' } (I.write (t' := s.toks) (by rw [hD]; trivial) (.inl rfl) (fun b u hb q => (sb.2 b hb).trans q) ⟨_, ho'⟩ ⟨by rw [List.length_append]; exact hz, its ++ [v], n + 1, ri.append (.cons r .nil), ?_⟩)
  rw [ho']
  simp
def PTs (X : Cx) (ifs : List Expr) (t : TT) : Prop :=
  ∀ (pins : List (Addr × Obj)) (s : Shared) (σ : St) (H : Hp) (Q : Bool → Hp → Prop), Inv X pins σ H s → t σ H Q →
    wpAny (model X.prog X.w) X.A (forIn ifs true fun c r => if r = true then do let ok ← isTrue c X.env (eval c X.env); pure (ForInStep.yield ok) else pure (ForInStep.yield r)) (TP X pins σ Q) X.xe s
def tYes : TT := fun _ H Q => Q true H
theorem pts_nil : PTs X [] tYes := fun _ _ _ H _ I h => wpAny_tests_nil ⟨H, I, h⟩
theorem pts_one {c : Expr} {t : TT} (h : PT X c t) : PTs X [c] t := fun pins s σ H Q I hw => wpAny_tests_one (h pins s σ H Q I hw)
end
theorem thnF {α : Type} {t : Sem α} {Q Q' : α → Shared → Prop} {M : Model} {A : Around} {E : Value → Shared → Prop} {s : Shared} (h : wpAny M A t Q (fun _ _ => False) s) (hQ : ∀ a s, Q a s → Q' a s) : wpAny M A t Q' E s := wpAny_mono h hQ fun _ _ z => False.elim z
theorem compLoop_any {prog : Program} {w : World} {A : Around} {R : Result → Shared → Prop} {s : Shared} {elt target iter : Expr} {ifs : List Expr} {scope : Scope} {pos : Pos} {it acc : Value} {env : Env} (I : Nat → Shared → Prop)
    (turn : ∀ n s, I n s → wpAny (model prog w) A (pyNext it) (fun r s₁ => match r with
      | none => R (.ok .next) s₁
      | some v => wpAny (model prog w) A (letOwnedTupleGo target it v) (fun _ s₁' => wpAny (model prog w) A (assign target env v) (fun _ s₂ =>
          wpAny (model prog w) A (forIn ifs true fun c r => if r = true then do let ok ← isTrue c env (eval c env); pure (ForInStep.yield ok) else pure (ForInStep.yield r)) (fun ok s₃ =>
            if ok = true then wpAny (model prog w) A (eval elt env) (fun x s₄ =>
              wpAny (model prog w) A (call (.builtin "list.append") [acc, x]) (fun _ s₅ => ∃ m, m < n ∧ I m s₅) (notedBy (model prog w) A env fun e s' => R (.error e) s') s₄) (notedBy (model prog w) A env fun e s' => R (.error e) s') s₃
            else ∃ m, m < n ∧ I m s₃) (notedBy (model prog w) A env fun e s' => R (.error e) s') s₂) (notedBy (model prog w) A env fun e s' => R (.error e) s') s₁') (notedBy (model prog w) A env fun e s' => R (.error e) s') s₁) (notedBy (model prog w) A env fun e s' => R (.error e) s') s)
    (n : Nat) (h : I n s) :
    codeAny (model prog w) A (.compLoop (.ListComp elt [⟨target, iter, ifs, 0⟩] scope pos) 0 it acc env) R s := by
  refine codeAny_loop rfl I (fun n s hI => ?_) n h
  show wpAny _ A ((compTurn (.ListComp elt [⟨target, iter, ifs, 0⟩] scope pos) 0 it acc env).onRaise (fun x => do noteFrame x env; theTreesLotGoes x)) _ _ s
  refine wpAny_noted ?_
  rw [compTurn_list]
  refine wpAny_bind (wpAny_standAt (wpAny_bind (wpAny_mono (turn n s hI) (fun r s₁ h₁ => ?_) fun _ _ h' => h')))
  cases r with
  | none => exact wpAny_pure h₁
  | some v =>
    refine wpAny_bind (wpAny_mono h₁ (fun _ s₁' h₁' => ?_) fun _ _ h' => h')
    refine wpAny_bind (wpAny_mono h₁' (fun _ s₂ h₂ => wpAny_bind (wpAny_mono h₂ (fun ok s₃ h₃ => ?_) fun _ _ h' => h')) fun _ _ h' => h')
    cases ok with
    | false => exact wpAny_pure ⟨rfl, h₃⟩
    | true =>
      exact wpAny_bind (wpAny_bind (wpAny_mono h₃ (fun x s₄ h₄ => wpAny_bind (wpAny_mono h₄ (fun _ s₅ h₅ => wpAny_pure (wpAny_pure ⟨rfl, h₅⟩)) fun _ _ h' => h')) fun _ _ h' => h'))
section
variable {X : Cx}
def tLc (wi : TI) (g : TG) (tt : TT) (te : TE) (vs : List Nat) : TE := fun σ H Q => wi σ H fun J H1 => ∀ D, H1 D = none → ∃ W : Nat → Nat → Hp → Prop, (∃ m, W 0 m (upd H1 D (.lst []))) ∧ ∀ i m H, W i m H →
  (J.stop i H ∧ Q (.ref D) H) ∨ (J.go i H ∧ ∃ Nx : Hp → Prop, (∀ H', Nx H' → ∃ m', m' < m ∧ W (i + 1) m' H') ∧ ∀ x H', J.yld i H x H' → g x (wipe σ vs) H' fun σ2 H2 => wipe σ2 vs = wipe σ vs ∧ tt σ2 H2 fun b H3 =>
    if b = true then te σ2 H3 fun y H4 => ∃ acc, H4 D = some (.lst acc) ∧ acc.length < sizeLine ∧ Nx (upd H4 D (.lst (acc ++ [y]))) else Nx H3)
theorem lc_core {pins : List (Addr × Obj)} {s : Shared} {σ : St} {H : Hp} {Q : VK} {elt tg iter : Expr} {ifs : List Expr} {scope : Scope} {own : List (Str × Nat)} {pos pos' : Pos} {wi : TI} {g : TG} {tt : TT} {te : TE} {use : Option (Value → Sem Unit)} {Qf : Value → Shared → Prop}
    (hc : X.calm = true) (hN : X.N.Nodup) (I : Inv X pins σ H s) (hi : PI X tg iter wi) (ok : BlkOk X.N X.env.scope scope own)
    (hg : ∀ (s : Shared) (H : Hp) (C : Addr) (cl : List (Str × Addr)) (fp : List Addr), PG (X.blk s H scope (compEnvC scope cl C X.env) fp) tg g) (ht : ∀ (s : Shared) (H : Hp) (C : Addr) (cl : List (Str × Addr)) (fp : List Addr), PTs (X.blk s H scope (compEnvC scope cl C X.env) fp) ifs tt)
    (he : ∀ (s : Shared) (H : Hp) (C : Addr) (cl : List (Str × Addr)) (fp : List Addr), PE (X.blk s H scope (compEnvC scope cl C X.env) fp) elt te) (hs : ∀ x, foldedSetIterable iter X.env x = pure x)
    (h : tLc wi g tt te (own.map (·.2)) σ H Q)
    (hRR : ∀ D C s' m H', Inv X pins σ H' s' → Q (.ref D) H' → s'.heap.Ns C m → FpOk X pins H' C → compPost (model X.prog X.w) X.A X.xe use Qf (.ref D) C (.ok .next) s') :
    wpAny (model X.prog X.w) X.A (comprehension (.ListComp elt [⟨tg, iter, ifs, 0⟩] scope pos) scope X.env pos' (newList []) false (eval iter X.env) use) Qf X.xe s := by
  have hfree : ∀ y ∈ scope.names, y.2 = .free → ∃ c, X.env.cells.lookup y.1 = some c := fun y hy e => by
    rcases ok.free y hy e with k | k
    · exact I.ok.has _ (.inl k)
    · exact I.ok.has _ (.inr k)
  refine wpAny_comprehension_free (use := use) rfl hs (closure_ok hfree) ok.kind (fun y hy e => by rw [ok.uniq y hy, e])
    (thn (hi pins s σ H _ I h) fun xv s1 hx => thn hx fun itv s2 h2 => ?_)
  obtain ⟨it, fp, tn, J, H2, e, I2, T, st2, f2, q⟩ := h2
  subst e
  refine wpAny_newObj_type (newEnv_comp ?_) (by show 0 ≤ sizeLine; decide)
  generalize hD : s2.heap.objs.size = D
  have hDn : H2 D = none := I2.hok.fresh (Nat.le_of_eq hD)
  obtain ⟨W, ⟨m0, w0⟩, turn⟩ := q D hDn
  generalize hs3 : ({ s2 with heap := s2.heap.push { cls := .type "list", data := .seq ([] : List Value).toArray } } : Shared) = s3
  have I3 : Inv X pins σ (upd H2 D (.lst [])) s3 := by
    rw [← hs3]
    refine I2.laid (t' := s2.toks) (fun b o e => Heap.get?_push_of_some _ e) (Nat.le_of_eq hD) ⟨Nat.zero_le _, [], 0, .nil, ?_⟩
    rw [← hD]
    exact Heap.get?_push_size _ rfl
  have h3 : s3.heap = s2.heap.push { cls := .type "list", data := .seq ([] : List Value).toArray } := by rw [← hs3]
  have sz : ∀ b ∈ fp, b < s2.heap.objs.size := fun b hb => by
    obtain ⟨o, e, _⟩ := T.obj _ _ st2 b hb
    exact Heap.lt_size e
  have f3 : ∀ b ∈ fp, FpOk X pins (upd H2 D (.lst [])) b ∧ b < s3.heap.objs.size := fun b hb => by
    have hlt := sz b hb
    refine ⟨⟨?_, (f2 b hb).2⟩, by rw [h3, Heap.size_push]; exact Nat.lt_succ_of_lt hlt⟩
    rw [upd_ne (by rw [← hD]; exact Nat.ne_of_lt hlt)]
    exact (f2 b hb).1
  have st3 : tn 0 s3.heap := T.keep _ _ _ st2 fun b _ o e => by rw [h3]; exact Heap.get?_push_of_some _ e
  have I4 := block_start I3 ok hN f3
  have pg := hg s3 (upd H2 D (.lst [])) s3.heap.objs.size (cellsFrom (s3.heap.objs.size + 1) scope.names (cloFrom X.env.cells scope.names [])) fp
  have pt := ht s3 (upd H2 D (.lst [])) s3.heap.objs.size (cellsFrom (s3.heap.objs.size + 1) scope.names (cloFrom X.env.cells scope.names [])) fp
  have pe := he s3 (upd H2 D (.lst [])) s3.heap.objs.size (cellsFrom (s3.heap.objs.size + 1) scope.names (cloFrom X.env.cells scope.names [])) fp
  show codeAny _ _ (.compStart (.ListComp elt [⟨tg, iter, ifs, 0⟩] scope pos) 0 (.ref it) (.ref D) (compEnvC scope (cellsFrom (s3.heap.objs.size + 1) scope.names (cloFrom X.env.cells scope.names [])) s3.heap.objs.size X.env)) (compPost (model X.prog X.w) X.A X.xe use Qf (.ref D) s3.heap.objs.size) { s3 with heap := pushCells (s3.heap.push { cls := .type "dict", data := .dict #[] }) scope.names }
  have nfp : ∀ b ∈ fp, (upd H2 D (.lst [])) b = none := fun b hb => (f3 b hb).1.1
  generalize hce : compEnvC scope (cellsFrom (s3.heap.objs.size + 1) scope.names (cloFrom X.env.cells scope.names [])) s3.heap.objs.size X.env = ce at I4 pg pt pe ⊢
  have cL : ce.locals = s3.heap.objs.size := by subst hce; rfl
  generalize hH3 : upd H2 D (.lst []) = H3 at I3 I4 pg pt pe w0 nfp f3
  generalize hs4 : ({ s3 with heap := pushCells (s3.heap.push { cls := .type "dict", data := .dict #[] }) scope.names } : Shared) = s4 at I4 ⊢
  have st4 : tn 0 s4.heap := T.keep _ _ _ st3 fun b _ o e => by rw [← hs4]; exact pushCells_keeps _ _ _ _ (Heap.get?_push_of_some _ e)
  have stat : ∀ {σ' : St} {H' : Hp} {s' : Shared}, Inv (X.blk s3 H3 scope ce fp) [] σ' H' s' → (∀ b ∈ fp, H' b = none) → ∀ b ∈ fp, FpOk (X.blk s3 H3 scope ce fp) [] H' b := fun {σ' H' s'} I' hn b hb =>
    ⟨hn b hb, (I'.ok.exf b hb).1, I'.ok.exfs b hb, .inl hb, fun x c e => (I'.ok.exf b hb).2 x c e, fun p hp => absurd (show p ∈ ([] : List (Addr × Obj)) ++ [] from hp) (by simp)⟩
  have loop : codeAny (model X.prog X.w) X.A (.compLoop (.ListComp elt [⟨tg, iter, ifs, 0⟩] scope pos) 0 (.ref it) (.ref D) ce) (compPost (model X.prog X.w) X.A X.xe use Qf (.ref D) s3.heap.objs.size) s4 := by
    refine compLoop_any (fun n s' => ∃ i H', Inv (X.blk s3 H3 scope ce fp) [] (wipe σ (own.map (·.2))) H' s' ∧ tn i s'.heap ∧ (∀ b ∈ fp, H' b = none) ∧ W i n H') ?_ m0 ⟨0, H3, I4, st4, nfp, w0⟩
    rintro n s5 ⟨i, H5, I5, st5, n5, w5⟩
    rcases turn i n H5 w5 with ⟨stop, qq⟩ | ⟨go, Nx, hNx, step⟩
    · have td := T.done (X.blk s3 H3 scope ce fp) rfl rfl rfl hc i [] s5 _ H5 (fun _ _ => False) I5 (stat I5 n5) st5 stop
      refine thnF td fun r s6 ⟨hr, I6⟩ => ?_
      subst hr
      have I7 : Inv X pins σ H5 s6 := I3.call' (ch := fp) I6.os I6.base I6.hok I6.bare fun b hb => ⟨(f3 b hb).1.2.2.2.1, (f3 b hb).1.2.1, (f3 b hb).1.2.2.2.2.1, (f3 b hb).1.2.2.2.2.2⟩
      have nC : H5 s3.heap.objs.size = none := by
        have z : H5 ce.locals = none := I6.free
        rw [cL] at z
        exact z
      obtain ⟨m, hn, _⟩ := I6.loc
      have hn : s6.heap.Ns ce.locals m := hn
      rw [cL] at hn
      exact hRR D s3.heap.objs.size s6 m H5 I7 qq hn (I3.fpOk (Nat.le_refl _) nC)
    · have ti := T.item (X.blk s3 H3 scope ce fp) rfl rfl rfl hc i [] s5 _ H5 (fun _ _ => False) I5 (stat I5 n5) st5 go
      refine thnF ti fun r s6 ⟨u, hr, h6⟩ => ?_
      subst hr
      refine thnF h6 fun _ s7 ⟨x, H7, I7, r7, y7, st7, n7⟩ => ?_
      have I7' := I7.pinned (stat I7 n7) (T.obj _ _ st7)
      refine thnF (pg _ s7 _ H7 x u _ I7' r7 (step x H7 y7)) fun _ s8 ⟨σ8, H8, I8, hw8, q8⟩ => ?_
      refine thnF (pt _ s8 σ8 H8 _ I8 q8) fun b s9 ⟨H9, I9, q9⟩ => ?_
      have fin : ∀ {s' : Shared} {H' : Hp}, Inv (X.blk s3 H3 scope ce fp) ([] ++ pinsAt fp s7.heap) σ8 H' s' → Nx H' → ∃ m, m < n ∧ ∃ i H', Inv (X.blk s3 H3 scope ce fp) [] (wipe σ (own.map (·.2))) H' s' ∧ tn i s'.heap ∧ (∀ b ∈ fp, H' b = none) ∧ W i m H' := fun {s' H'} I' nx => by
        obtain ⟨m', hm, w'⟩ := hNx H' nx
        have pin' : ∀ b ∈ fp, ∀ o, s7.heap.get? b = some o → s'.heap.get? b = some o ∧ H' b = none := fun b hb o e =>
          let z := I'.pin (b, o) (List.mem_append_right _ (List.mem_append_right _ (mem_pinsAt hb e)))
          ⟨z.1, z.2.1⟩
        have hl : (wipe σ (own.map (·.2))).length = σ8.length := by rw [← hw8, wipe_length]
        refine ⟨m', hm, i + 1, H', (I'.unpinned (pins := [])).weak hl (fun j v e => ?_), T.keep _ _ _ st7 fun b hb o e => (pin' b hb o e).1, fun b hb => ?_, w'⟩
        · rw [← hw8] at e
          exact (wipe_some e).1
        · obtain ⟨o, e, _⟩ := T.obj _ _ st7 b hb
          exact (pin' b hb o e).2
      cases b with
      | false =>
        simp only [Bool.false_eq_true, if_false] at q9 ⊢
        exact fin I9 q9
      | true =>
        simp only [if_true] at q9 ⊢
        refine thnF (pe _ s9 σ8 H9 _ I9 q9) fun z s10 ⟨yv, H10, I10, r10, acc, hD10, hz10, nx⟩ => ?_
        exact app_ok (X := X.blk s3 H3 scope ce fp) I10 hD10 hz10 r10 fun s11 I11 => fin I11 nx
  exact codeAny_compStart_list loop (T.self X.A 0 _ _ _ st4 loop)
theorem pe_lc {elt tg iter : Expr} {ifs : List Expr} {scope : Scope} {own : List (Str × Nat)} {pos : Pos} {wi : TI} {g : TG} {tt : TT} {te : TE} (hc : X.calm = true) (hN : X.N.Nodup) (hi : PI X tg iter wi) (ok : BlkOk X.N X.env.scope scope own)
    (hg : ∀ (s : Shared) (H : Hp) (C : Addr) (cl : List (Str × Addr)) (fp : List Addr), PG (X.blk s H scope (compEnvC scope cl C X.env) fp) tg g) (ht : ∀ (s : Shared) (H : Hp) (C : Addr) (cl : List (Str × Addr)) (fp : List Addr), PTs (X.blk s H scope (compEnvC scope cl C X.env) fp) ifs tt)
    (he : ∀ (s : Shared) (H : Hp) (C : Addr) (cl : List (Str × Addr)) (fp : List Addr), PE (X.blk s H scope (compEnvC scope cl C X.env) fp) elt te) (hs : ∀ x, foldedSetIterable iter X.env x = pure x := by intro _; rfl) :
    PE X (.ListComp elt [⟨tg, iter, ifs, 0⟩] scope pos) (tLc wi g tt te (own.map (·.2))) := by
  intro pins s σ H Q I h
  rw [eval_ListComp]
  refine lc_core hc hN I hi ok hg ht he hs h fun D C s' m H' I' q hn f => ⟨m, hn, fun h'' sb => ?_⟩
  obtain ⟨f0, f1, f2, f3, f4, f5⟩ := f
  exact ⟨.ref D, H', I'.turned (t' := s'.toks) (fun b o hb e => (sb.2 b hb).trans e) f0 f1 f3 f4 f5, rfl, q⟩
theorem ps_setLc {i : Nat} {y : Str} {py : Pos} {elt tg iter : Expr} {ifs : List Expr} {scope : Scope} {own : List (Str × Nat)} {pos spos : Pos} {wi : TI} {g : TG} {tt : TT} {te : TE} (hc : X.calm = true) (hN : X.N.Nodup) (hy : X.N[i]? = some y) (hyl : X.env.scope.names.lookup y = some .local)
    (hsw : swapsWith (.ListComp elt [⟨tg, iter, ifs, 0⟩] scope pos) (some (.Name y py)) spos.line X.env = pure true) (hi : PI X tg iter wi) (ok : BlkOk X.N X.env.scope scope own)
    (hg : ∀ (s : Shared) (H : Hp) (C : Addr) (cl : List (Str × Addr)) (fp : List Addr), PG (X.blk s H scope (compEnvC scope cl C X.env) fp) tg g) (ht : ∀ (s : Shared) (H : Hp) (C : Addr) (cl : List (Str × Addr)) (fp : List Addr), PTs (X.blk s H scope (compEnvC scope cl C X.env) fp) ifs tt)
    (he : ∀ (s : Shared) (H : Hp) (C : Addr) (cl : List (Str × Addr)) (fp : List Addr), PE (X.blk s H scope (compEnvC scope cl C X.env) fp) elt te) (hs : ∀ x, foldedSetIterable iter X.env x = pure x := by intro _; rfl) :
    PS X (.Assign [.Name y py] (.ListComp elt [⟨tg, iter, ifs, 0⟩] scope pos) spos) (tAsg (tLc wi g tt te (own.map (·.2))) (gName i)) := by
  intro pins s σ H D I h
  rw [exec_Assign_Name_used _ _ _ _ hsw]
  refine wpAny_bind (wpAny_standAt (wpAny_bind ?_))
  show wpAny _ X.A (do let _ ← comprehension (.ListComp elt [⟨tg, iter, ifs, 0⟩] scope pos) scope X.env (firstIterPos [⟨tg, iter, ifs, 0⟩] pos) (newList []) false (eval iter X.env) (some (assign (.Name y py) X.env))) _ _ s
  have h : tLc wi g tt te (own.map (·.2)) σ H (fun x H1 => gName i x σ H1 D.nx) := h
  refine wpAny_bind (thn (lc_core (Qf := fun _ s' => SP X pins D .next s') hc hN I hi ok hg ht he hs h fun L C s' m H' I' q hn f => ?_) fun _ s' hq => wpAny_pure (wpAny_pure hq))
  show wpAny _ _ (assign (.Name y py) X.env (.ref L)) _ _ _
  refine wpAny_assign_Name (store_ok2 (v := V.ref L) I' hN hy (.inl hyl) rfl (fun s2 I2 ⟨a, sb, ha⟩ => ?_) (.inr hyl))
  obtain ⟨f0, f1, f2, f3, f4, f5⟩ := f
  have haC : C ≠ a := by
    rcases ha with z | z
    · rw [z]; exact f1
    · exact fun e => f4 y a z e.symm
  refine ⟨m, hn.sameBut sb haC, fun h3 sb3 => ?_⟩
  exact ⟨_, H', I2.turned (t' := s2.toks) (fun b o hb e => (sb3.2 b hb).trans e) f0 f1 f3 f4 f5, q⟩
theorem sw_true {elt : Expr} {gs : List Comprehension} {scope : Scope} {pos py : Pos} {y : Str} {l : Nat} {env : Env} (hk : env.scope.kind = .function) (hy : env.scope.names.lookup y = some .local) (hl : (py.line == pos.line) = true)
    (ha : (scope.names.any fun (n, k) => n == y && (k == .local || k == .cell)) = false) : swapsWith (.ListComp elt gs scope pos) (some (.Name y py)) l env = pure true := by
  have ky : env.kindOf y = some .local := hy
  have hb : env.blockKind = .function := by unfold Env.blockKind; rw [hk]; rfl
  unfold swapsWith
  simp only [hb, ky, ha, Expr.pos, hl]
  rfl
end
theorem lc_range {lo : Int} {n : Nat} {g : TG} {tt : TT} {te : TE} {vs : List Nat} {σ : St} {H1 : Hp} {D : Addr} {Qd : Hp → Prop} (Pv : Nat → Hp → Prop) (h0 : Pv 0 (upd H1 D (.lst [])))
    (hs : ∀ i H, i < n → Pv i H → g (.int (lo + i)) (wipe σ vs) H fun σ2 H2 => wipe σ2 vs = wipe σ vs ∧ tt σ2 H2 fun b H3 =>
      if b = true then te σ2 H3 fun y H4 => ∃ acc, H4 D = some (.lst acc) ∧ acc.length < sizeLine ∧ Pv (i + 1) (upd H4 D (.lst (acc ++ [y]))) else Pv (i + 1) H3) (hd : ∀ H, Pv n H → Qd H) :
    ∃ W : Nat → Nat → Hp → Prop, (∃ m, W 0 m (upd H1 D (.lst []))) ∧ ∀ i m H, W i m H →
      ((Itr lo n).stop i H ∧ Qd H) ∨ ((Itr lo n).go i H ∧ ∃ Nx : Hp → Prop, (∀ H', Nx H' → ∃ m', m' < m ∧ W (i + 1) m' H') ∧ ∀ x H', (Itr lo n).yld i H x H' → g x (wipe σ vs) H' fun σ2 H2 => wipe σ2 vs = wipe σ vs ∧ tt σ2 H2 fun b H3 =>
        if b = true then te σ2 H3 fun y H4 => ∃ acc, H4 D = some (.lst acc) ∧ acc.length < sizeLine ∧ Nx (upd H4 D (.lst (acc ++ [y]))) else Nx H3) := by
  refine ⟨fun i m H => m = n - i ∧ i ≤ n ∧ Pv i H, ⟨n, by simp, Nat.zero_le _, h0⟩, ?_⟩
  rintro i m H ⟨rfl, hi, p⟩
  by_cases hlt : i < n
  · refine .inr ⟨hlt, Pv (i + 1), fun H' p' => ⟨n - (i + 1), by omega, rfl, hlt, p'⟩, fun x H' y => ?_⟩
    obtain ⟨e, y⟩ := y
    subst e y
    exact hs i _ hlt p
  · have e : i = n := by omega
    subst e
    exact .inl ⟨Nat.le_refl _, hd H p⟩
theorem lc_list {K : PySem.W.Frag} {a : Addr} {xs : List V} {g : TG} {tt : TT} {te : TE} {vs : List Nat} {σ : St} {H1 : Hp} {D : Addr} {Qd : Hp → Prop} (Pv : Nat → Hp → Prop) (h0 : Pv 0 (upd H1 D (.lst []))) (hl : ∀ i H, i ≤ xs.length → Pv i H → SqL K H a xs)
    (hs : ∀ i x H, xs[i]? = some x → Pv i H → g x (wipe σ vs) H fun σ2 H2 => wipe σ2 vs = wipe σ vs ∧ tt σ2 H2 fun b H3 =>
      if b = true then te σ2 H3 fun y H4 => ∃ acc, H4 D = some (.lst acc) ∧ acc.length < sizeLine ∧ Pv (i + 1) (upd H4 D (.lst (acc ++ [y]))) else Pv (i + 1) H3) (hd : ∀ H, Pv xs.length H → Qd H) :
    ∃ W : Nat → Nat → Hp → Prop, (∃ m, W 0 m (upd H1 D (.lst []))) ∧ ∀ i m H, W i m H →
      ((Itl K a).stop i H ∧ Qd H) ∨ ((Itl K a).go i H ∧ ∃ Nx : Hp → Prop, (∀ H', Nx H' → ∃ m', m' < m ∧ W (i + 1) m' H') ∧ ∀ x H', (Itl K a).yld i H x H' → g x (wipe σ vs) H' fun σ2 H2 => wipe σ2 vs = wipe σ vs ∧ tt σ2 H2 fun b H3 =>
        if b = true then te σ2 H3 fun y H4 => ∃ acc, H4 D = some (.lst acc) ∧ acc.length < sizeLine ∧ Nx (upd H4 D (.lst (acc ++ [y]))) else Nx H3) := by
  refine ⟨fun i m H => m = xs.length - i ∧ i ≤ xs.length ∧ Pv i H, ⟨xs.length, by simp, Nat.zero_le _, h0⟩, ?_⟩
  rintro i m H ⟨rfl, hi, p⟩
  have q := hl i H hi p
  by_cases hlt : i < xs.length
  · refine .inr ⟨⟨xs, xs[i], q, by simp [hlt]⟩, Pv (i + 1), fun H' p' => ⟨xs.length - (i + 1), by omega, rfl, hlt, p'⟩, fun x H' y => ?_⟩
    obtain ⟨e, y⟩ := y
    subst e
    exact hs i x _ (y xs q) p
  · have e : i = xs.length := by omega
    subst e
    exact .inl ⟨⟨xs, q, Nat.le_refl _⟩, hd H p⟩
theorem lc_tup {K : PySem.W.Frag} {a : Addr} {xs : List V} {g : TG} {tt : TT} {te : TE} {vs : List Nat} {σ : St} {H1 : Hp} {D : Addr} {Qd : Hp → Prop} (Pv : Nat → Hp → Prop) (h0 : Pv 0 (upd H1 D (.lst []))) (hl : ∀ i H, i ≤ xs.length → Pv i H → SqT K H a xs)
    (hs : ∀ i x H, xs[i]? = some x → Pv i H → g x (wipe σ vs) H fun σ2 H2 => wipe σ2 vs = wipe σ vs ∧ tt σ2 H2 fun b H3 =>
      if b = true then te σ2 H3 fun y H4 => ∃ acc, H4 D = some (.lst acc) ∧ acc.length < sizeLine ∧ Pv (i + 1) (upd H4 D (.lst (acc ++ [y]))) else Pv (i + 1) H3) (hd : ∀ H, Pv xs.length H → Qd H) :
    ∃ W : Nat → Nat → Hp → Prop, (∃ m, W 0 m (upd H1 D (.lst []))) ∧ ∀ i m H, W i m H →
      ((Itt K a).stop i H ∧ Qd H) ∨ ((Itt K a).go i H ∧ ∃ Nx : Hp → Prop, (∀ H', Nx H' → ∃ m', m' < m ∧ W (i + 1) m' H') ∧ ∀ x H', (Itt K a).yld i H x H' → g x (wipe σ vs) H' fun σ2 H2 => wipe σ2 vs = wipe σ vs ∧ tt σ2 H2 fun b H3 =>
        if b = true then te σ2 H3 fun y H4 => ∃ acc, H4 D = some (.lst acc) ∧ acc.length < sizeLine ∧ Nx (upd H4 D (.lst (acc ++ [y]))) else Nx H3) := by
  refine ⟨fun i m H => m = xs.length - i ∧ i ≤ xs.length ∧ Pv i H, ⟨xs.length, by simp, Nat.zero_le _, h0⟩, ?_⟩
  rintro i m H ⟨rfl, hi, p⟩
  have q := hl i H hi p
  by_cases hlt : i < xs.length
  · refine .inr ⟨⟨xs, xs[i], q, by simp [hlt]⟩, Pv (i + 1), fun H' p' => ⟨xs.length - (i + 1), by omega, rfl, hlt, p'⟩, fun x H' y => ?_⟩
    obtain ⟨e, y⟩ := y
    subst e
    exact hs i x _ (y xs q) p
  · have e : i = xs.length := by omega
    subst e
    exact .inl ⟨⟨xs, q, Nat.le_refl _⟩, hd H p⟩
def blkC (N : List Str) (sc scope : Scope) (own : List (Str × Nat)) : Bool :=
  (match scope.kind with | .function => true | _ => false) && (scope.names.all fun y => decide (scope.names.lookup y.1 = some y.2)) && (own.all fun p => decide (N[p.2]? = some p.1)) &&
    (scope.names.all fun y => match y.2 with
      | .free => (match sc.names.lookup y.1 with | some .cell => true | some .free => true | _ => false)
      | .local => decide (y.1 ∈ own.map (·.1)) || decide (y.1 ∉ N)
      | .cell => decide (y.1 ∈ own.map (·.1)) || decide (y.1 ∉ N)
      | _ => true)
theorem blkOk_by {N : List Str} {sc scope : Scope} {own : List (Str × Nat)} (h : blkC N sc scope own = true) : BlkOk N sc scope own := by
  unfold blkC at h
  simp only [Bool.and_eq_true, List.all_eq_true, decide_eq_true_eq] at h
  obtain ⟨⟨⟨h1, h2⟩, h3⟩, h4⟩ := h
  refine ⟨?_, h2, h3, fun y hy e => ?_, fun y hy e => ?_⟩
  · split at h1
    · assumption
    · cases h1
  · have q := h4 y hy
    simp only [e] at q
    split at q <;> first | exact .inl (by assumption) | exact .inr (by assumption) | cases q
  · have q := h4 y hy
    rcases e with e | e <;> (simp only [e, Bool.or_eq_true, decide_eq_true_eq] at q; exact q)
end L2
namespace L2
open PySem PySem.Spec PyProof.Rows
section
variable {prog : Program} {w : World} {A : Around} {R : Result → Shared → Prop} {s : Shared} {elt t0 i0 t1 i1 : Expr} {ifs0 ifs1 : List Expr} {scope : Scope} {pos : Pos} {it acc : Value} {env : Env}
end
section
variable {X : Cx}
end
end L2
namespace L2
open PySem PySem.Spec PyProof.Rows
section
variable {κ : Type} [DecidableEq κ]
def valV (kvs : List (κ × V)) (k : κ) : Option V := (kvs.find? fun kv => decide (kv.1 = k)).map (·.2)
def putK (kvs : List (κ × V)) (k : κ) (v : V) : List (κ × V) :=
  if (kvs.any fun kv => decide (kv.1 = k)) = true then kvs.map (fun kv => if kv.1 = k then (kv.1, v) else kv) else kvs ++ [(k, v)]
def dropK (kvs : List (κ × V)) (k : κ) : List (κ × V) := kvs.filter fun kv => decide (kv.1 ≠ k)
theorem valV_pos {p : κ × V} {r : List (κ × V)} {k : κ} (e : p.1 = k) : valV (p :: r) k = some p.2 := by simp [valV, List.find?_cons, e]
theorem valV_neg {p : κ × V} {r : List (κ × V)} {k : κ} (e : ¬ p.1 = k) : valV (p :: r) k = valV r k := by simp [valV, List.find?_cons, e]
theorem valV_any (k : κ) : ∀ kvs : List (κ × V), (kvs.any fun kv => decide (kv.1 = k)) = (valV kvs k).isSome
  | [] => rfl
  | p :: r => by
    rw [List.any_cons]
    by_cases e : p.1 = k
    · simp only [valV_pos e, decide_eq_true e, Bool.true_or, Option.isSome_some]
    · rw [valV_neg e, decide_eq_false e, Bool.false_or]; exact valV_any k r
theorem RelO.isSome_eq {o : Option V} {u : Option Value} (r : RelO o u) : o.isSome = u.isSome := by
  cases o with
  | none => cases u with
    | none => rfl
    | some _ => exact (show False from r).elim
  | some _ => cases u with
    | none => exact (show False from r).elim
    | some _ => rfl
theorem RelO.getD {o : Option V} {u : Option Value} {d : V} {d' : Value} (r : RelO o u) (rd : RelV d d') : RelV (o.getD d) (u.getD d') := by
  cases o with
  | none => cases u with
    | none => exact rd
    | some _ => exact (show False from r).elim
  | some _ => cases u with
    | none => exact (show False from r).elim
    | some _ => exact r
theorem KV.val {kvs : List (κ × V)} {vs : List (κ × Value)} (r : KV kvs vs) (k : κ) : RelO (valV kvs k) (valueAt vs k) := by
  unfold KV at r
  induction r with
  | nil => exact True.intro
  | @cons p q ps qs h t ih =>
    obtain ⟨h1, h2⟩ := h
    by_cases e : p.1 = k
    · have e' : q.1 = k := h1.symm.trans e
      have b : valueAt (q :: qs) k = some q.2 := by simp [valueAt, List.find?_cons, e']
      rw [valV_pos e, b]; exact h2
    · have e' : ¬ q.1 = k := fun z => e (h1.trans z)
      have b : valueAt (q :: qs) k = valueAt qs k := by simp [valueAt, List.find?_cons, e']
      rw [valV_neg e, b]; exact ih
theorem KV.any {kvs : List (κ × V)} {vs : List (κ × Value)} (r : KV kvs vs) (k : κ) : (kvs.any fun kv => decide (kv.1 = k)) = vs.any fun kv => decide (kv.1 = k) := by
  unfold KV at r
  induction r with
  | nil => rfl
  | cons h t ih => rw [List.any_cons, List.any_cons, ih, h.1]
theorem KV.repl {kvs : List (κ × V)} {vs : List (κ × Value)} (r : KV kvs vs) (k : κ) {y : V} {u : Value} (ry : RelV y u) :
    KV (kvs.map fun kv => if kv.1 = k then (kv.1, y) else kv) (vs.map fun kv => if kv.1 = k then (kv.1, u) else kv) := by
  unfold KV at r ⊢
  induction r with
  | nil => exact .nil
  | @cons p q ps qs h t ih =>
    rw [List.map_cons, List.map_cons]
    refine .cons ?_ ih
    obtain ⟨h1, h2⟩ := h
    by_cases e : p.1 = k
    · rw [if_pos e, if_pos (h1.symm.trans e)]; exact ⟨h1, ry⟩
    · rw [if_neg e, if_neg (fun z => e (h1.trans z))]; exact ⟨h1, h2⟩
theorem KV.put {kvs : List (κ × V)} {vs : List (κ × Value)} (r : KV kvs vs) (k : κ) {y : V} {u : Value} (ry : RelV y u) : KV (putK kvs k y) (stored vs k u) := by
  unfold putK stored
  rw [r.any k]
  by_cases e : (vs.any fun kv => decide (kv.1 = k)) = true
  · rw [if_pos e, if_pos e]; exact r.repl k ry
  · rw [if_neg e, if_neg e]; exact Paired.snoc r ⟨rfl, ry⟩
theorem KV.drop {kvs : List (κ × V)} {vs : List (κ × Value)} (r : KV kvs vs) (k : κ) : KV (dropK kvs k) (without vs k) := by
  unfold KV at r ⊢
  unfold dropK without
  induction r with
  | nil => exact .nil
  | @cons p q ps qs h t ih =>
    obtain ⟨h1, h2⟩ := h
    rw [List.filter_cons, List.filter_cons]
    by_cases e : p.1 = k
    · have a : ¬ decide (p.1 ≠ k) = true := by simp [e]
      have b : ¬ decide (q.1 ≠ k) = true := by simp [h1.symm.trans e]
      rw [if_neg a, if_neg b]; exact ih
    · have e' : ¬ q.1 = k := fun z => e (h1.trans z)
      have a : decide (p.1 ≠ k) = true := by simp [e]
      have b : decide (q.1 ≠ k) = true := by simp [e']
      rw [if_pos a, if_pos b]; exact .cons ⟨h1, h2⟩ ih
theorem KV.length {kvs : List (κ × V)} {vs : List (κ × Value)} (r : KV kvs vs) : kvs.length = vs.length := Paired.length r
end
abbrev KT (H : Hp) : List (List Key × V) → List (List Key × Addr × Value) → Prop := Paired fun p q => p.1 = q.1 ∧ H q.2.1 = some (.tup (p.1.map kV)) ∧ RelV p.2 q.2.2
theorem KT.val {H : Hp} {kvs : List (List Key × V)} {xs : List (List Key × Addr × Value)} (r : KT H kvs xs) (k : List Key) : RelO (valV kvs k) ((atKey xs k).map (·.2)) := by
  induction r with
  | nil => exact True.intro
  | @cons p q ps qs h t ih =>
    obtain ⟨h1, _, h2⟩ := h
    by_cases e : p.1 = k
    · have e' : q.1 = k := h1.symm.trans e
      have b : atKey (q :: qs) k = some q.2 := by simp [atKey, List.find?_cons, e']
      rw [valV_pos e, b]; exact h2
    · have e' : ¬ q.1 = k := fun z => e (h1.trans z)
      have b : atKey (q :: qs) k = atKey qs k := by simp [atKey, List.find?_cons, e']
      rw [valV_neg e, b]; exact ih
theorem KT.repl {H : Hp} {kvs : List (List Key × V)} {xs : List (List Key × Addr × Value)} (r : KT H kvs xs) (k : List Key) {y : V} {u : Value} (ry : RelV y u) :
    KT H (kvs.map fun kv => if kv.1 = k then (kv.1, y) else kv) (xs.map (putAt k u)) := by
  induction r with
  | nil => exact .nil
  | @cons p q ps qs h t ih =>
    rw [List.map_cons, List.map_cons]
    refine .cons ?_ ih
    obtain ⟨h1, h2, h3⟩ := h
    unfold putAt
    by_cases e : p.1 = k
    · rw [if_pos e, if_pos (h1.symm.trans e)]; exact ⟨h1, h2, ry⟩
    · rw [if_neg e, if_neg (fun z => e (h1.trans z))]; exact ⟨h1, h2, h3⟩
theorem KT.put {H : Hp} {kvs : List (List Key × V)} {xs : List (List Key × Addr × Value)} (r : KT H kvs xs) (k : List Key) {b : Addr} {y : V} {u : Value} (hb : H b = some (.tup (k.map kV))) (ry : RelV y u) :
    KT H (putK kvs k y) (storedH xs k b u) := by
  have e : (kvs.any fun kv => decide (kv.1 = k)) = (atKey xs k).isSome := by
    rw [valV_any, (r.val k).isSome_eq, Option.isSome_map]
  unfold putK storedH
  rw [e]
  by_cases q : (atKey xs k).isSome = true
  · rw [if_pos q, if_pos q]; exact r.repl k ry
  · rw [if_neg q, if_neg q]; exact Paired.snoc r ⟨rfl, hb, ry⟩
theorem KT.keeps {H H' : Hp} {kvs : List (List Key × V)} {xs : List (List Key × Addr × Value)} (r : KT H kvs xs) (ht : ∀ b ys, H b = some (.tup ys) → H' b = some (.tup ys)) : KT H' kvs xs :=
  Paired.mapP r fun _ _ z => ⟨z.1, ht _ _ z.2.1, z.2.2⟩
section
variable {P : Program} {w : World} {H : Hp} {h : Heap} {a : Addr}
end
def DGet (H : Hp) (a : Addr) (y : V) (r : Option V) : Prop :=
  (∃ kvs k, Rd H a (.dK kvs) ∧ y = kV k ∧ r = valV kvs k) ∨ ∃ kvs k b, Rd H a (.dT kvs) ∧ y = .ref b ∧ H b = some (.tup (k.map kV)) ∧ r = valV kvs k
def DPut (H : Hp) (a : Addr) (y v : V) (H' : Hp) : Prop :=
  (∃ kvs k, H a = some (.dK kvs) ∧ y = kV k ∧ kvs.length < sizeLine ∧ H' = upd H a (.dK (putK kvs k v))) ∨
  ∃ kvs k b, H a = some (.dT kvs) ∧ y = .ref b ∧ H b = some (.tup (k.map kV)) ∧ kvs.length < sizeLine ∧ H' = upd H a (.dT (putK kvs k v))
theorem DGet.k {H : Hp} {a : Addr} {kvs : List (Key × V)} {k : Key} (e : H a = some (.dK kvs)) : DGet H a (kV k) (valV kvs k) := .inl ⟨kvs, k, .inl e, rfl, rfl⟩
theorem DGet.t {H : Hp} {a b : Addr} {kvs : List (List Key × V)} {k : List Key} (e : H a = some (.dT kvs)) (eb : H b = some (.tup (k.map kV))) : DGet H a (.ref b) (valV kvs k) := .inr ⟨kvs, k, b, .inl e, rfl, eb, rfl⟩
theorem DPut.k {H : Hp} {a : Addr} {kvs : List (Key × V)} {k : Key} {v : V} (e : H a = some (.dK kvs)) (hl : kvs.length < sizeLine) : DPut H a (kV k) v (upd H a (.dK (putK kvs k v))) := .inl ⟨kvs, k, e, rfl, hl, rfl⟩
theorem DPut.t {H : Hp} {a b : Addr} {kvs : List (List Key × V)} {k : List Key} {v : V} (e : H a = some (.dT kvs)) (eb : H b = some (.tup (k.map kV))) (hl : kvs.length < sizeLine) :
    DPut H a (.ref b) v (upd H a (.dT (putK kvs k v))) := .inr ⟨kvs, k, b, e, rfl, eb, hl, rfl⟩
section
variable {X : Cx} {pins : List (Addr × Obj)} {σ : St} {H : Hp} {s : Shared} {a : Addr} {y v : V} {u r : Value} {o : Option V} {A : Around} {E : Value → Shared → Prop}
end
section
variable {X : Cx} {pins : List (Addr × Obj)} {σ : St} {H : Hp} {s : Shared} {a : Addr} {kvs : List (Key × V)} {k : Key} {u : Value} {A : Around} {E : Value → Shared → Prop}
end
def NoSl (i : Expr) : Prop := ∀ ov iv, subscripted i false ov iv = operate [ov, iv] (getItem ov iv)
theorem subD_of {prog : Program} {w : World} {A : Around} {E : Value → Shared → Prop} {s : Shared} {env : Env} {value slice : Expr} {pos : Pos} {T id : String} {Q : Value → Shared → Prop}
    (hl : typeLookup (.type T) "__getitem__" = pure (some (.builtin id))) (hs : NoSl slice)
    (h : wpAny (model prog w) A (eval value env) (fun o s₁ => wpAny (model prog w) A (eval slice env) (fun i s₂ => s₂.TypeIs o T ∧ wpAny (model prog w) A (getItem o i) Q E s₂) E s₁) E s) :
    wpAny (model prog w) A (eval (.Subscript value slice pos) env) Q E s := by
  refine Subscript_ (wpAny_mono h (fun o s₁ h₁ => wpAny_mono h₁ (fun i s₂ h₂ => ?_) fun _ _ x => x) fun _ _ x => x)
  obtain ⟨hT, h₂⟩ := h₂
  unfold subscriptTail
  refine wpAny_bind ?_
  rw [getitemInPython_of_ne hT.not_modules]
  refine wpAny_bind (wpAny_specialOf hT hl ?_)
  have fin : wpAny (model prog w) A (subscripted slice false o i) (fun r s₃ => wpAny (model prog w) A (letTemporaryGo value o r >>= fun _ => pure r) Q E s₃) E s₂ := by
    rw [hs o i]
    exact wpAny_operating (wpAny_mono h₂ (fun r s₃ h₃ => wpAny_bind (wpAny_letTemporaryGo (wpAny_pure h₃))) fun _ _ x => x)
  first
    | exact wpAny_pure (wpAny_bind fin)
    | exact wpAny_bind (wpAny_pure (wpAny_bind fin))
    | exact wpAny_bind fin
def tDGet (td ty : TE) : TE := fun σ H Q => td σ H fun x H1 => ty σ H1 fun y H2 => ∃ a v, x = .ref a ∧ DGet H2 a y (some v) ∧ Q v H2
def sDPut (td ty tv : TE) : TS := fun D σ H => tv σ H fun v H1 => td σ H1 fun x H2 => ty σ H2 fun y H3 => ∃ a H4, x = .ref a ∧ DPut H3 a y v H4 ∧ D.nx σ H4
section
variable {X : Cx} {o i e value : Expr} {pos pos' tpos : Pos} {td ty tv : TE}
end
section
variable {X : Cx} {pos : Pos}
end
def tPairs : List (TE × TE) → St → Hp → (List (V × V) → Hp → Prop) → Prop
  | [], _, H, Q => Q [] H
  | (tk, tv) :: r, σ, H, Q => tk σ H fun x H1 => tv σ H1 fun y H2 => tPairs r σ H2 fun ps H3 => Q ((x, y) :: ps) H3
structure M1 (X : Cx) (o : Expr) (m : Str) (apos : Pos) (e : Expr) (cpos : Pos) : Prop where
  base : attributeBase o m X.env (eval o X.env) = eval o X.env
  few : ((backTo cpos (starEach [e] X.env)).all (fun x => !x.1) && (backToKw cpos (keywordEach [] X.env)).all (fun x => x.1.isSome)
    && decide (([e] : List Expr).length + ([] : List Keyword).length + (if ([] : List Keyword).isEmpty then 0 else 1) < 30)) = true
  line : (apos.endLine == cpos.line) = true
  trees : backTo cpos (starEach [e] X.env) = [(false, eval e X.env)]
structure M2 (X : Cx) (o : Expr) (m : Str) (apos : Pos) (e f : Expr) (cpos : Pos) : Prop where
  base : attributeBase o m X.env (eval o X.env) = eval o X.env
  few : ((backTo cpos (starEach [e, f] X.env)).all (fun x => !x.1) && (backToKw cpos (keywordEach [] X.env)).all (fun x => x.1.isSome)
    && decide (([e, f] : List Expr).length + ([] : List Keyword).length + (if ([] : List Keyword).isEmpty then 0 else 1) < 30)) = true
  line : (apos.endLine == cpos.line) = true
  trees : backTo cpos (starEach [e, f] X.env) = [(false, eval e X.env), (false, eval f X.env)]
section
variable {X : Cx} {pins : List (Addr × Obj)} {σ : St} {H : Hp} {s : Shared} {a : Addr} {y d : V} {u r : Value} {o : Option V} {A : Around} {E : Value → Shared → Prop}
end
section
variable {X : Cx} {o e f : Expr} {apos cpos : Pos} {td ty tx : TE}
end
section
variable {X : Cx} {pins : List (Addr × Obj)} {σ : St} {H : Hp} {s : Shared} {a : Addr} {kvs : List (Key × V)} {A : Around} {E : Value → Shared → Prop}
end
section
variable {X : Cx} {pins : List (Addr × Obj)} {σ : St} {H : Hp} {s : Shared} {a : Addr} {y : V} {u : Value} {A : Around} {E : Value → Shared → Prop}
end
end L2
namespace L2
open PySem PySem.Spec PyProof.Rows
section
variable {prog : Program} {w : World} {A : Around} {E : Value → Shared → Prop}
end
section
variable {X : Cx}
end
end L2
namespace L2
open PySem PySem.Spec PyProof.Rows
theorem boot_reversed5 : bootBuiltins "reversed" = some (.type "reversed") := by decide +kernel
section
variable {X : Cx} {pins : List (Addr × Obj)} {σ : St} {H : Hp} {s : Shared} {h' : Heap}
theorem Inv.turnedL {t' : Nat} {ch : List Addr} (I : Inv X pins σ H s) (k : ∀ b o, b ∉ ch → s.heap.get? b = some o → h'.get? b = some o) (hf : ∀ b ∈ ch, FpOk X pins H b) : Inv X pins σ H { s with heap := h', toks := t' } := by
  have nit : ∀ b u, H b = some u → b ∉ ch := fun b u e z => by
    have q := (hf b z).1
    rw [q] at e; cases e
  refine I.step (g' := s.gens) (d' := s.drawn) (ch := ch) (fun b hb => ⟨(hf b hb).2.2.2.1, (hf b hb).2.1, (hf b hb).2.2.2.2.1, (hf b hb).2.2.2.2.2⟩) (fun b o _ _ hc e _ => k b o hc e) (fun b o _ _ hc e _ => ⟨o.slots, k b o hc e⟩)
    (fun _ _ _ _ n => n) (fun b o hc e => ⟨o, k b o hc e⟩) (fun _ _ e => e) (fun _ _ _ e => e) (fun b ps e => ⟨#[], by rw [e]; simp⟩) (fun m hm => ?_) (fun b u e => ?_) I.bare
  · obtain ⟨o, es, ep, ho, r⟩ := hm
    exact ⟨o, es, ep, k _ o (fun z => (hf _ z).2.1 rfl) ho, r⟩
  · refine (I.hok b u e).stay (fun c v hc q => k c v ?_ q) (fun _ q => q) fun _ _ q => q
    rcases hc with z | z
    · rw [z]; exact nit b u e
    · exact nit c _ z
theorem Inv.turnedNew {t' : Nat} {ch : List Addr} {T : Addr} {ob : HO} (I : Inv X pins σ H s) (k : ∀ b o, b ∉ ch → s.heap.get? b = some o → h'.get? b = some o) (hf : ∀ b ∈ ch, FpOk X pins H b) (hT : s.heap.objs.size ≤ T)
    (new : ObjOk X.prog X.w (upd H T ob) h' T ob) : Inv X pins σ (upd H T ob) { s with heap := h', toks := t' } := by
  have hn : H T = none := I.hok.fresh hT
  have nit : ∀ b u, H b = some u → b ∉ ch := fun b u e z => by
    have q := (hf b z).1
    rw [q] at e; cases e
  refine I.step (g' := s.gens) (d' := s.drawn) (ch := ch) (fun b hb => ⟨(hf b hb).2.2.2.1, (hf b hb).2.1, (hf b hb).2.2.2.2.1, (hf b hb).2.2.2.2.2⟩) (fun b o _ _ hc e _ => k b o hc e) (fun b o _ _ hc e _ => ⟨o.slots, k b o hc e⟩)
    (fun b o _ e n => ?_) (fun b o hc e => ⟨o, k b o hc e⟩) (fun b xs e => ?_) (fun b o u e => ?_) (fun b ps e => ⟨#[], ?_⟩) (fun m hm => ?_) (fun b u e => ?_) I.bare
  · rw [upd_ne (Nat.ne_of_lt (Nat.lt_of_lt_of_le (Heap.lt_size e) hT))]; exact n
  · rw [upd_ne (ne_of_none e hn)]; exact e
  · rw [upd_ne (ne_of_none e hn)]; exact e
  · rw [upd_ne (ne_of_none e hn), e]; simp
  · obtain ⟨o, es, ep, ho, r⟩ := hm
    exact ⟨o, es, ep, k _ o (fun z => (hf _ z).2.1 rfl) ho, r⟩
  · by_cases hb : b = T
    · subst hb
      rw [upd_same] at e
      cases e
      exact new
    · rw [upd_ne hb] at e
      refine (I.hok b u e).stay (fun c v hc q => k c v ?_ q) (fun c q => by rw [upd_ne (ne_of_none q hn)]; exact q) fun c xs q => by rw [upd_ne (ne_of_none q hn)]; exact q
      rcases hc with z | z
      · rw [z]; exact nit b u e
      · exact nit c _ z
end
section
variable {X : Cx}
theorem pi_one {tg : Expr} {pins : List (Addr × Obj)} {σ : St} {H : Hp} {s : Shared} {R : It → Hp → Prop} {J : It} {tn : Nat → Heap → Prop} {tk : Nat} (I : Inv X pins σ H s) (o : Obj)
    (T : Turn X.prog X.w X.K tg J [s.heap.objs.size] s.heap.objs.size tn) (st : tn 0 (s.heap.push o)) (q : R J H) : PIE X pins σ tg R (.ref s.heap.objs.size) { s with heap := s.heap.push o, toks := tk } := by
  refine ⟨s.heap.objs.size, [s.heap.objs.size], tn, J, H, rfl, I.kept fun b ob e => Heap.get?_push_of_some _ e, T, st, fun b hb => ?_, q⟩
  have e : b = s.heap.objs.size := by simpa using hb
  subst e
  exact I.fpOk (Nat.le_refl _) (I.hok.fresh (Nat.le_refl _))
end
def Itc (lo c : Int) (n : Nat) : It := ⟨fun i _ => i < n, fun i H x H' => H' = H ∧ x = .int (lo + (i : Nat) * c), fun i _ => n ≤ i⟩
def RgC (i j c : Int) (n : Nat) : Prop := c ≠ 0 ∧ c.natAbs < 1073741824 ∧ Builtin.Range.small i j c = true ∧ Builtin.Range.rangeSize i j c = n
theorem RgC.neg {i j : Int} (ha : -(2 ^ 62) ≤ i) (ha' : i < 2 ^ 62) (hb : -(2 ^ 62) ≤ j) (hb' : j < 2 ^ 62) : RgC i j (-1) (i - j).toNat :=
  ⟨by decide, by decide, PySem.W.small_down ha ha' hb hb', PySem.W.rangeSize_downNat i j⟩
section
variable {X : Cx} {tg : Expr}
end
def Itv (K : PySem.W.Frag) (a : Addr) (n : Nat) : It :=
  ⟨fun i H => i < n ∧ ∃ (xs : List V) (x : V), SqL K H a xs ∧ xs[n - 1 - i]? = some x, fun i H x H' => H' = H ∧ ∀ xs, SqL K H a xs → xs[n - 1 - i]? = some x, fun i _ => n ≤ i⟩
theorem turn_rev {P : Program} {w : World} {K : PySem.W.Frag} {tg : Expr} (a it : Addr) (n : Nat) : Turn P w K tg (Itv K a n) [it] it (fun i h => i ≤ n ∧ h.IsRevIter it a ((n : Int) - 1 - (i : Nat))) where
  mem := by simp
  obj := fun i h st b hb => by
    have e : b = it := by simpa using hb
    subst e
    obtain ⟨_, o, e, c, d⟩ := st
    exact ⟨o, e, fun v z => by rw [d] at z; cases z⟩
  keep := fun i h h' st k => ⟨st.1, st.2.at fun o e => k it (by simp) o e⟩
  item := by
    intro X hP hw hK hc i pins s σ H E I hf st hg
    subst hP hw hK
    obtain ⟨hin, xs, x, hq, hx⟩ := hg
    obtain ⟨its, rv, p, hz⟩ := I.list hq
    obtain ⟨u, hu, ru⟩ := rv.get hx
    obtain ⟨f0, f1, f2, f3, f4, f5⟩ := hf it (by simp)
    obtain ⟨_, hit⟩ := st
    have e1 : (n : Int) - 1 - ((i : Nat) : Int) = ((n - 1 - i : Nat) : Int) := by omega
    rw [e1] at hit
    refine wpAny_pyNext_rev_item hit p.isList (x := u) (by simpa using hu) fun h' st' sb => ?_
    have e2 : ((n - 1 - i : Nat) : Int) - 1 = (n : Int) - 1 - ((i + 1 : Nat) : Int) := by omega
    rw [e2] at st'
    have I1 : Inv X pins σ H { s with heap := h' } := I.turned (t' := s.toks) (fun b o hb e => (sb.2 b hb).trans e) f0 f1 f3 f4 f5
    obtain ⟨o, e, c, d⟩ := id st'
    exact ⟨u, rfl, go_of (s := { s with heap := h' }) e c d (by decide) ⟨x, H, I1, ru, ⟨rfl, fun ys hy => by rw [I.list_inj hy hq]; exact hx⟩, ⟨hin, st'⟩, fun b hb => (hf b hb).1⟩⟩
  done := by
    intro X hP hw hK hc i pins s σ H E I hf st hg
    subst hP hw hK
    obtain ⟨f0, f1, f2, f3, f4, f5⟩ := hf it (by simp)
    obtain ⟨hin, hit⟩ := st
    have hge : n ≤ i := hg
    have e1 : (n : Int) - 1 - ((i : Nat) : Int) = -1 := by omega
    rw [e1] at hit
    exact wpAny_pyNext_rev_end (I.ok.hd hc) hit fun h' eb => ⟨rfl, I.turned (t' := s.toks) (fun b o hb e => eb b o hb e) f0 f1 f3 f4 f5⟩
  self := fun A i s Q E st h => wpAny_pyIter_revIter st.2 h
def iRev (K : PySem.W.Frag) (ta : TA) : TI := fun σ H R => ta σ H fun vs H1 => ∃ (a : Addr) (xs : List V), vs = [.ref a] ∧ SqL K H1 a xs ∧ R (Itv K a xs.length) H1
section
variable {X : Cx} {tg : Expr}
theorem pi_reversed {e : Expr} {ta : TA} {p pos : Pos} (hg : Gl X "reversed") (hm : X.mg "reversed" = none) (ha : PA X [e] ta) (hs : starEach [e] X.env = [(false, eval e X.env)] := by rfl) : PI X tg (.Call (.Name "reversed" p) [e] [] pos) (iRev X.K ta) := by
  intro pins s σ H R I h
  refine Call_ (ld_blt I hg hm boot_reversed5 (PyProof.Rows.callWith_type1 (thn (ha pos pins s σ H _ I h) fun us s1 ⟨vs, H1, I1, r1, q1⟩ => ?_) hs rfl))
  obtain ⟨a, xs, e, hq, q⟩ := q1
  subst e
  cases r1 with
  | cons r rr =>
    cases rr
    cases r
    obtain ⟨its, rv, p', hz⟩ := I1.list hq
    have hl := rv.length
    have e1 : ((its.toArray.size : Nat) : Int) - 1 = (xs.length : Int) - 1 - ((0 : Nat) : Int) := by simp only [List.size_toArray]; omega
    refine call_reversed_list p'.isList (wpAny_pyIter_revIter (l := a) (i := ((its.toArray.size : Nat) : Int) - 1) ⟨_, Heap.get?_push_size _ rfl, rfl, rfl⟩ ?_)
    refine pi_one (tk := s1.toks) I1 _ (turn_rev a _ xs.length) ⟨Nat.zero_le _, ?_⟩ q
    rw [← e1]
    exact ⟨_, Heap.get?_push_size _ rfl, rfl, rfl⟩
end
section
variable {prog : Program} {w : World} {A : Around} {E : Value → Shared → Prop} {s : Shared}
end
section
variable {X : Cx} {pins : List (Addr × Obj)} {σ : St} {H : Hp} {s : Shared} {d : Addr} {o : Obj}
end
section
variable {P : Program} {w : World} {K : PySem.W.Frag} {tg : Expr} {d : Addr} {o : Obj} {es : Array DictEntry} {ep : Nat}
end
section
variable {X : Cx} {tg e : Expr} {td : TE} {apos cpos : Pos}
end
def Ite (K : PySem.W.Frag) (a : Addr) : It :=
  ⟨fun i H => ∃ (xs : List V) (x : V), SqL K H a xs ∧ xs[i]? = some x, fun i H v H' => ∃ T x, v = .ref T ∧ H T = none ∧ H' = upd H T (.tup [.int (i : Nat), x]) ∧ ∀ xs, SqL K H a xs → xs[i]? = some x, fun i H => ∃ xs : List V, SqL K H a xs ∧ xs.length ≤ i⟩
theorem turn_enum {P : Program} {w : World} {K : PySem.W.Frag} {elts : List Expr} {kk : Nat} {tpos : Pos} (a e it : Addr) :
    Turn P w K (.Tuple elts kk tpos) (Ite K a) [e, it] e (fun i h => (∃ old, IsEnum h e it ((i : Nat) : Int) old) ∧ h.IsListIter it a i ∧ e ≠ it) where
  mem := by simp
  obj := fun i h st b hb => by
    obtain ⟨⟨old, he⟩, ⟨o, ho, hc, hd⟩, _⟩ := st
    have e' : b = e ∨ b = it := by simpa using hb
    rcases e' with z | z
    · rw [z]; exact ⟨_, he, fun v q => nomatch q⟩
    · rw [z]; exact ⟨o, ho, fun v q => by rw [hd] at q; cases q⟩
  keep := fun i h h' st k => let ⟨⟨old, he⟩, hi, hne⟩ := st; ⟨⟨old, k e (by simp) _ he⟩, hi.at fun o q => k it (by simp) o q, hne⟩
  item := by
    intro X hP hw hK hc i pins s σ H E I hf st hg
    subst hP hw hK
    obtain ⟨⟨old, he⟩, hit, hne⟩ := st
    obtain ⟨xs, x, hq, hx⟩ := hg
    obtain ⟨its, rv, p, hz⟩ := I.list hq
    obtain ⟨u, hu, ru⟩ := rv.get hx
    have hel : e < s.heap.objs.size := Heap.lt_size he
    have hil : it < s.heap.objs.size := by obtain ⟨_, q, _⟩ := hit; exact Heap.lt_size q
    refine wpAny_pyNext_enum_item he hit p.isList (x := u) (by simpa using hu) hne fun h' ho hit' hT hsz hk => ?_
    refine ⟨_, rfl, wpAny_letOwnedTupleGo_enum (s := { s with heap := h', toks := s.toks + 1 }) ho fun h'' he' sb => ?_⟩
    have hT2 : h''.get? s.heap.objs.size = some { cls := .type "tuple", data := .seq #[.int i s.toks, u] } := (sb.2 _ (Nat.ne_of_gt hel)).trans hT
    have new : ObjOk X.prog X.w (upd H s.heap.objs.size (.tup [.int (i : Nat), x])) h'' s.heap.objs.size (.tup [.int (i : Nat), x]) :=
      ⟨by show 2 ≤ sizeLine; decide, [.int i s.toks, u], .cons ⟨_, rfl⟩ (.cons ru .nil), ⟨_, hT2, rfl, _, rfl⟩⟩
    have I1 : Inv X pins σ (upd H s.heap.objs.size (.tup [.int (i : Nat), x])) { s with heap := h'', toks := s.toks + 1 } :=
      I.turnedNew (ch := [e, it]) (fun b ob hb q => (sb.2 b (fun z => hb (by simp [z]))).trans (hk b ob (fun z => hb (by simp [z])) (fun z => hb (by simp [z])) q)) hf (Nat.le_refl _) new
    refine ⟨.ref s.heap.objs.size, _, I1, rfl, ⟨_, x, rfl, I.hok.fresh (Nat.le_refl _), rfl, fun ys hy => by rw [I.list_inj hy hq]; exact hx⟩, ⟨⟨u, ?_⟩, hit'.at fun o q => (sb.2 it (Ne.symm hne)).trans q, hne⟩, fun b hb => ?_⟩
    · have e1 : ((i + 1 : Nat) : Int) = (i : Int) + 1 := by omega
      rw [e1]; exact he'
    · have hb' : b < s.heap.objs.size := by
        have e' : b = e ∨ b = it := by simpa using hb
        rcases e' with z | z
        · rw [z]; exact hel
        · rw [z]; exact hil
      rw [upd_ne (Nat.ne_of_lt hb')]
      exact (hf b hb).1
  done := by
    intro X hP hw hK hc i pins s σ H E I hf st hg
    subst hP hw hK
    obtain ⟨⟨old, he⟩, hit, hne⟩ := st
    obtain ⟨xs, hq, hx⟩ := hg
    obtain ⟨its, rv, p, hz⟩ := I.list hq
    obtain ⟨f0, f1, f2, f3, f4, f5⟩ := hf it (by simp)
    have hl := rv.length
    exact wpAny_pyNext_enum_end (I.ok.hd hc) he hit p.isList (by simp; omega) fun h' eb => ⟨rfl, I.turned (t' := s.toks) (fun b o hb q => eb b o hb q) f0 f1 f3 f4 f5⟩
  self := fun A i s Q E st h => let ⟨⟨_, he⟩, _⟩ := st; wpAny_pyIter_enum he h
def iEnum (K : PySem.W.Frag) (ta : TA) : TI := fun σ H R => ta σ H fun vs H1 => ∃ a xs, vs = [.ref a] ∧ SqL K H1 a xs ∧ R (Ite K a) H1
theorem pi_enum {X : Cx} {e : Expr} {ta : TA} {p pos tpos : Pos} {elts : List Expr} {kk : Nat} (hg : Gl X "enumerate") (hm : X.mg "enumerate" = none) (ha : PA X [e] ta) (hs : starEach [e] X.env = [(false, eval e X.env)] := by rfl) :
    PI X (.Tuple elts kk tpos) (.Call (.Name "enumerate" p) [e] [] pos) (iEnum X.K ta) := by
  intro pins s σ H R I h
  refine Call_ (ld_blt I hg hm boot_enumerate (PyProof.Rows.callWith_type1 (thn (ha pos pins s σ H _ I h) fun us s1 ⟨vs, H1, I1, r1, q1⟩ => ?_) hs rfl))
  obtain ⟨a, xs, ex, hq, q⟩ := q1
  subst ex
  cases r1 with
  | cons r rr =>
    cases rr
    cases r
    obtain ⟨its, rv, p', hz⟩ := I1.list hq
    refine call_enumerate_list p'.isList fun h' he hit hsz hk => wpAny_pyIter_enum he ?_
    have I2 : Inv X pins σ H1 { s1 with heap := h' } := I1.kept (t' := s1.toks) hk
    refine ⟨s1.heap.objs.size + 1, [s1.heap.objs.size + 1, s1.heap.objs.size], _, _, H1, rfl, I2, turn_enum a (s1.heap.objs.size + 1) s1.heap.objs.size, ⟨⟨.none, he⟩, hit, Nat.succ_ne_self _⟩, fun b hb => ?_, q⟩
    have e' : b = s1.heap.objs.size + 1 ∨ b = s1.heap.objs.size := by simpa using hb
    have hle : s1.heap.objs.size ≤ b := by
      rcases e' with z | z
      · rw [z]; exact Nat.le_add_right _ _
      · rw [z]; exact Nat.le_refl _
    exact I1.fpOk hle (I1.hok.fresh hle)
theorem boot_zip5 : bootBuiltins "zip" = some (.type "zip") := by decide +kernel
def Itz (K : PySem.W.Frag) (a b : Addr) : It :=
  ⟨fun i H => ∃ (xs ys : List V) (x y : V), SqL K H a xs ∧ SqL K H b ys ∧ xs[i]? = some x ∧ ys[i]? = some y,
    fun i H v H' => ∃ T x y, v = .ref T ∧ H T = none ∧ H' = upd H T (.tup [x, y]) ∧ (∀ xs, SqL K H a xs → xs[i]? = some x) ∧ ∀ ys, SqL K H b ys → ys[i]? = some y,
    fun i H => ∃ xs ys : List V, SqL K H a xs ∧ SqL K H b ys ∧ (xs.length ≤ i ∨ ys.length ≤ i)⟩
theorem turn_zip {P : Program} {w : World} {K : PySem.W.Frag} {elts : List Expr} {kk : Nat} {tpos : Pos} {a b z TI TO i1 i2 : Addr} (D : ZipApart z TI TO i1 i2 a b) :
    Turn P w K (.Tuple elts kk tpos) (Itz K a b) [z, TI, TO, i1, i2] z (fun i h => IsZip h z TI TO .none ∧ IsPair h TI (.ref i1) (.ref i2) ∧ (∃ x y, IsPair h TO x y) ∧ h.IsListIter i1 a i ∧ h.IsListIter i2 b i) where
  mem := by simp
  obj := fun i h st c hc => by
    obtain ⟨hz, hTI, ⟨x, y, hTO⟩, ⟨o1, e1, _, d1⟩, ⟨o2, e2, _, d2⟩⟩ := st
    have e' : c = z ∨ c = TI ∨ c = TO ∨ c = i1 ∨ c = i2 := by simpa using hc
    rcases e' with q | q | q | q | q
    · rw [q]; exact ⟨_, hz, fun v q => nomatch q⟩
    · rw [q]; exact ⟨_, hTI, fun v q => nomatch q⟩
    · rw [q]; exact ⟨_, hTO, fun v q => nomatch q⟩
    · rw [q]; exact ⟨o1, e1, fun v q => by rw [d1] at q; cases q⟩
    · rw [q]; exact ⟨o2, e2, fun v q => by rw [d2] at q; cases q⟩
  keep := fun i h h' st k => by
    obtain ⟨hz, hTI, ⟨x, y, hTO⟩, h1, h2⟩ := st
    exact ⟨k z (by simp) _ hz, k TI (by simp) _ hTI, ⟨x, y, k TO (by simp) _ hTO⟩, h1.at fun o q => k i1 (by simp) o q, h2.at fun o q => k i2 (by simp) o q⟩
  item := by
    intro X hP hw hK hc i pins s σ H E I hf st hg
    subst hP hw hK
    obtain ⟨hz, hTI, ⟨x0, y0, hTO⟩, h1, h2⟩ := st
    obtain ⟨xs, ys, x, y, hqx, hqy, hx, hy⟩ := hg
    obtain ⟨its, rv, p, _⟩ := I.list hqx
    obtain ⟨its2, rv2, p2, _⟩ := I.list hqy
    obtain ⟨u, hu, ru⟩ := rv.get hx
    obtain ⟨u2, hu2, ru2⟩ := rv2.get hy
    have hzl : z < s.heap.objs.size := Heap.lt_size hz
    refine wpAny_pyNext_zip_item D hz hTI hTO h1 h2 p.isList p2.isList (x := u) (y := u2) (by simpa using hu) (by simpa using hu2) fun h' z' TO' h1' h2' hT hsz hk => ?_
    refine ⟨_, rfl, wpAny_letOwnedTupleGo_zip (s := { s with heap := h' }) z' fun h'' z'' sb => ?_⟩
    have hT2 : h''.get? s.heap.objs.size = some { cls := .type "tuple", data := .seq #[u, u2] } := (sb.2 _ (Nat.ne_of_gt hzl)).trans hT
    have new : ObjOk X.prog X.w (upd H s.heap.objs.size (.tup [x, y])) h'' s.heap.objs.size (.tup [x, y]) :=
      ⟨by show 2 ≤ sizeLine; decide, [u, u2], .cons ru (.cons ru2 .nil), ⟨_, hT2, rfl, _, rfl⟩⟩
    have I1 : Inv X pins σ (upd H s.heap.objs.size (.tup [x, y])) { s with heap := h'' } :=
      I.turnedNew (t' := s.toks) (ch := [z, TI, TO, i1, i2]) (fun c o hb q => (sb.2 c (fun q' => hb (by simp [q']))).trans (hk c o (fun q' => hb (by simp [q'])) (fun q' => hb (by simp [q'])) (fun q' => hb (by simp [q'])) (fun q' => hb (by simp [q'])) q)) hf (Nat.le_refl _) new
    refine ⟨.ref s.heap.objs.size, _, I1, rfl, ⟨_, x, y, rfl, I.hok.fresh (Nat.le_refl _), rfl, fun l hl => by rw [I.list_inj hl hqx]; exact hx, fun l hl => by rw [I.list_inj hl hqy]; exact hy⟩, ⟨z'', ?_, ⟨u, u2, ?_⟩, ?_, ?_⟩, fun c hcm => ?_⟩
    · exact (sb.2 _ D.TIz).trans (hk _ _ D.TIz D.TITO D.TIi1 D.TIi2 hTI)
    · exact (sb.2 _ D.TOz).trans TO'
    · exact h1'.at fun o q => (sb.2 _ D.i1z).trans q
    · exact h2'.at fun o q => (sb.2 _ D.i2z).trans q
    · have hlt : c < s.heap.objs.size := by
        have e' : c = z ∨ c = TI ∨ c = TO ∨ c = i1 ∨ c = i2 := by simpa using hcm
        rcases e' with q | q | q | q | q
        · rw [q]; exact hzl
        · rw [q]; exact Heap.lt_size hTI
        · rw [q]; exact Heap.lt_size hTO
        · rw [q]; obtain ⟨_, e1, _⟩ := h1; exact Heap.lt_size e1
        · rw [q]; obtain ⟨_, e2, _⟩ := h2; exact Heap.lt_size e2
      rw [upd_ne (Nat.ne_of_lt hlt)]
      exact (hf c hcm).1
  done := by
    intro X hP hw hK hc i pins s σ H E I hf st hg
    subst hP hw hK
    obtain ⟨hz, hTI, ⟨x0, y0, hTO⟩, h1, h2⟩ := st
    obtain ⟨xs, ys, hqx, hqy, hend⟩ := hg
    obtain ⟨its, rv, p, _⟩ := I.list hqx
    obtain ⟨its2, rv2, p2, _⟩ := I.list hqy
    have l1 := rv.length
    have l2 := rv2.length
    have he : its.toArray[i]? = none ∨ its2.toArray[i]? = none := by
      rcases hend with q | q
      · exact .inl (by simp; omega)
      · exact .inr (by simp; omega)
    exact wpAny_pyNext_zip_end (I.ok.hd hc) D hz hTI hTO h1 h2 p.isList p2.isList he fun h' hk => ⟨rfl, I.turnedL (t' := s.toks) (ch := [z, TI, TO, i1, i2]) (fun c o hb q =>
      hk c o (fun q' => hb (by simp [q'])) (fun q' => hb (by simp [q'])) (fun q' => hb (by simp [q'])) (fun q' => hb (by simp [q'])) q) hf⟩
  self := fun A i s Q E st h => wpAny_pyIter_zip st.1 h
def iZip (K : PySem.W.Frag) (ta : TA) : TI := fun σ H R => ta σ H fun vs H1 => ∃ a b xs ys, vs = [.ref a, .ref b] ∧ SqL K H1 a xs ∧ SqL K H1 b ys ∧ R (Itz K a b) H1
theorem pi_zip {X : Cx} {e e2 : Expr} {ta : TA} {p pos tpos : Pos} {elts : List Expr} {kk : Nat} (hg : Gl X "zip") (hm : X.mg "zip" = none) (ha : PA X [e, e2] ta)
    (hs : starEach [e, e2] X.env = (false, eval e X.env) :: starEach [e2] X.env := by rfl) (hpl : (backTo pos (starEach [e2] X.env)).any (·.1) = false := by rfl) :
    PI X (.Tuple elts kk tpos) (.Call (.Name "zip" p) [e, e2] [] pos) (iZip X.K ta) := by
  intro pins s σ H R I h
  refine Call_ (ld_blt I hg hm boot_zip5 (PyProof.Rows.callWith_type1 (thn (ha pos pins s σ H _ I h) fun us s1 ⟨vs, H1, I1, r1, q1⟩ => ?_) hs hpl))
  obtain ⟨a, b, xs, ys, ex, hqx, hqy, q⟩ := q1
  subst ex
  cases r1 with
  | cons r rr =>
    cases rr with
    | cons r' rr =>
      cases rr
      cases r
      cases r'
      obtain ⟨its, rv, p1, _⟩ := I1.list hqx
      obtain ⟨its2, rv2, p2, _⟩ := I1.list hqy
      have la : a < s1.heap.objs.size := p1.lt
      have lb : b < s1.heap.objs.size := p2.lt
      refine call_zip_2 p1.isList p2.isList fun h' hz hTI hTO h1 h2 hsz hk => wpAny_pyIter_zip hz ?_
      have I2 : Inv X pins σ H1 { s1 with heap := h' } := I1.kept (t' := s1.toks) hk
      refine ⟨s1.heap.objs.size + 4, [s1.heap.objs.size + 4, s1.heap.objs.size + 2, s1.heap.objs.size + 3, s1.heap.objs.size, s1.heap.objs.size + 1], _, _, H1, rfl, I2, turn_zip (PySem.W.ktu_apart s1.heap.objs.size a b la lb), ⟨hz, hTI, ⟨_, _, hTO⟩, h1, h2⟩, fun c hcm => ?_, q⟩
      have e' : c = s1.heap.objs.size + 4 ∨ c = s1.heap.objs.size + 2 ∨ c = s1.heap.objs.size + 3 ∨ c = s1.heap.objs.size ∨ c = s1.heap.objs.size + 1 := by simpa using hcm
      have hle : s1.heap.objs.size ≤ c := by
        rcases e' with z | z | z | z | z
        · rw [z]; exact Nat.le_add_right _ _
        · rw [z]; exact Nat.le_add_right _ _
        · rw [z]; exact Nat.le_add_right _ _
        · rw [z]; exact Nat.le_refl _
        · rw [z]; exact Nat.le_add_right _ _
      exact I1.fpOk hle (I1.hok.fresh hle)
end L2
section
namespace Bits
open PySem PyProof.Rows
end Bits
end
section
namespace TL
open PySem PySem.Builtin PySem.Builtin.Str PySem.StrLaws
abbrev tl (x : Str) : List Nat := x.cps.toList
theorem len_tl (x : Str) : x.length = (tl x).length := by simp [tl, Str.length]
theorem ext_tl {x y : Str} (h : tl x = tl y) : x = y := Str.ext' (Array.toList_inj.mp h)
theorem tl_append (x y : Str) : tl (x ++ y) = tl x ++ tl y := by
  show (x ++ y).cps.toList = _
  rw [Str.cps_append, Array.toList_append]
theorem map_tl_inj : ∀ {l m : List Str}, l.map tl = m.map tl → l = m
  | [], [], _ => rfl
  | [], _ :: _, h => by simp at h
  | _ :: _, [], h => by simp at h
  | x :: l, y :: m, h => by
    rw [List.map_cons, List.map_cons] at h
    injection h with h1 h2
    rw [ext_tl h1, map_tl_inj h2]
def pre (S l : List Nat) : Bool := l.take S.length == S
def spl (S : List Nat) : Nat → List Nat → List Nat → List (List Nat)
  | _, acc, [] => [acc]
  | 0, acc, c :: r => if pre S (c :: r) = true then acc :: spl S (S.length - 1) [] r else spl S 0 (acc ++ [c]) r
  | k + 1, acc, _ :: r => spl S k acc r
def par (S : List Nat) : List Nat → List Nat → Option (List Nat × List Nat)
  | _, [] => none
  | acc, c :: r => if pre S (c :: r) = true then some (acc, (c :: r).drop S.length) else par S (acc ++ [c]) r
theorem spl_nil (S : List Nat) (k : Nat) (acc : List Nat) : spl S k acc [] = [acc] := by cases k <;> rfl
theorem spl_hit {S acc r : List Nat} {c : Nat} (h : pre S (c :: r) = true) : spl S 0 acc (c :: r) = acc :: spl S (S.length - 1) [] r := by
  show (if pre S (c :: r) = true then acc :: spl S (S.length - 1) [] r else spl S 0 (acc ++ [c]) r) = _
  rw [if_pos h]
theorem spl_miss {S acc r : List Nat} {c : Nat} (h : pre S (c :: r) = false) : spl S 0 acc (c :: r) = spl S 0 (acc ++ [c]) r := by
  show (if pre S (c :: r) = true then acc :: spl S (S.length - 1) [] r else spl S 0 (acc ++ [c]) r) = _
  rw [if_neg (by rw [h]; exact Bool.false_ne_true)]
theorem spl_pass (S : List Nat) : ∀ (k : Nat) (acc l : List Nat), spl S k acc l = spl S 0 acc (l.drop k)
  | 0, _, _ => by rw [List.drop_zero]
  | k + 1, acc, [] => by rw [List.drop_nil, spl_nil, spl_nil]
  | k + 1, acc, c :: r => by
    show spl S k acc r = spl S 0 acc (r.drop k)
    exact spl_pass S k acc r
theorem pre_nil {S : List Nat} (hS : S ≠ []) : pre S [] = false := by
  cases S with
  | nil => exact absurd rfl hS
  | cons s S => rfl
theorem pre_of_head {s c : Nat} (S r : List Nat) (h : c ≠ s) : pre (s :: S) (c :: r) = false := by
  cases hp : pre (s :: S) (c :: r) with
  | false => rfl
  | true =>
    have e : (c :: r).take (s :: S).length = s :: S := eq_of_beq hp
    rw [List.length_cons, List.take_succ_cons] at e
    injection e with e1 e2
    exact absurd e1 h
theorem pre_self (S r : List Nat) : pre S (S ++ r) = true := by
  show ((S ++ r).take S.length == S) = true
  have e : (S ++ r).take S.length = S := List.take_left
  rw [e] <;> exact beq_self_eq_true S
theorem getElem_drop_cons {L : List Nat} {a : Nat} (h : a < L.length) : ∃ c, L.drop a = c :: L.drop (a + 1) := ⟨L[a], List.drop_eq_getElem_cons h⟩
theorem spl_run (S L : List Nat) : ∀ (m a : Nat) (acc : List Nat), a + m ≤ L.length → (∀ k, a ≤ k → k < a + m → pre S (L.drop k) = false) →
    spl S 0 acc (L.drop a) = spl S 0 (acc ++ (L.drop a).take m) (L.drop (a + m))
  | 0, a, acc, _, _ => by rw [List.take_zero, List.append_nil, Nat.add_zero]
  | m + 1, a, acc, h, hn => by
    have hlt : a < L.length := by omega
    obtain ⟨c, e⟩ := getElem_drop_cons hlt
    have h0 := hn a (Nat.le_refl _) (by omega)
    have ih := spl_run S L m (a + 1) (acc ++ [c]) (by omega) (fun k h1 h2 => hn k (by omega) (by omega))
    have e2 : a + 1 + m = a + (m + 1) := by omega
    rw [e2] at ih
    rw [e] at h0
    rw [e, spl_miss h0, ih, List.take_succ_cons, List.append_assoc] <;> rfl
theorem drop_two (L : List Nat) (a b : Nat) : (L.drop a).drop b = L.drop (a + b) := by
  first
    | rw [List.drop_drop]
    | rw [List.drop_drop, Nat.add_comm]
theorem spl_at {S L : List Nat} (hS : S ≠ []) {c : Nat} {acc : List Nat} (h : pre S (L.drop c) = true) : spl S 0 acc (L.drop c) = acc :: spl S 0 [] (L.drop (c + S.length)) := by
  rw [← drop_two]
  cases e : L.drop c with
  | nil => rw [e, pre_nil hS] at h; cases h
  | cons d r =>
    rw [e] at h
    rw [spl_hit h, spl_pass]
    cases S with
    | nil => exact absurd rfl hS
    | cons s S => rfl
theorem at_iff {x y : Str} (hy : tl y ≠ []) (i : Nat) : At x y x.length i ↔ pre (tl y) ((tl x).drop i) = true := by
  have hx := len_tl x
  have hl := len_tl y
  constructor
  · intro h
    have h2 := h.2
    rw [subAt_eq, hl] at h2
    exact h2
  · intro h
    have e : ((tl x).drop i).take (tl y).length = tl y := eq_of_beq h
    have e1 := congrArg List.length e
    rw [List.length_take, List.length_drop] at e1
    have e2 : 0 < (tl y).length := List.length_pos_iff.mpr hy
    refine ⟨by omega, ?_⟩
    rw [subAt_eq, hl]
    exact h
theorem no_at {x y : Str} (hy : tl y ≠ []) {i : Nat} (h : ¬ At x y x.length i) : pre (tl y) ((tl x).drop i) = false := by
  cases hp : pre (tl y) ((tl x).drop i) with
  | false => rfl
  | true => exact absurd ((at_iff hy i).mpr hp) h
theorem len1 {y : Str} (hy : tl y ≠ []) : 1 ≤ y.length := by
  have e2 : 0 < (tl y).length := List.length_pos_iff.mpr hy
  rw [len_tl y]
  exact e2
theorem tl_strSub (x : Str) (i j : Nat) : tl (strSub x i j) = ((tl x).drop i).take (j - i) := strSub_toList x i j
theorem tl_strSub_end (x : Str) (i : Nat) : tl (strSub x i x.length) = (tl x).drop i := by
  rw [tl_strSub, len_tl x]
  exact List.take_of_length_le (by rw [List.length_drop] <;> omega)
theorem parts_spl {x y : Str} (hy : tl y ≠ []) : ∀ (cuts : List Nat) (a f : Nat), a ≤ (tl x).length → ChainG x y x.length a cuts f → (∀ k, f ≤ k → ¬ At x y x.length k) →
    (partsFrom x y.length a cuts).map tl = spl (tl y) 0 [] ((tl x).drop a)
  | [], a, f, ha, h, hn => by
    have e : f = a := h
    subst e
    show [tl (strSub x f x.length)] = _
    have run := spl_run (tl y) (tl x) ((tl x).length - f) f [] (by omega) (fun k h1 _ => no_at hy (hn k h1))
    have e2 : f + ((tl x).length - f) = (tl x).length := by omega
    rw [e2, List.drop_length, spl_nil, List.nil_append, List.take_of_length_le (by rw [List.length_drop] <;> omega)] at run
    rw [run, tl_strSub_end]
  | c :: r, a, f, ha, h, hn => by
    obtain ⟨h1, h2, h3, h4⟩ := h
    have hc : c + y.length ≤ x.length := h2.1
    have hx := len_tl x
    have hl := len_tl y
    have ih := parts_spl hy r (c + y.length) f (by omega) h4 hn
    show tl (strSub x a c) :: (partsFrom x y.length (c + y.length) r).map tl = _
    have run := spl_run (tl y) (tl x) (c - a) a [] (by omega) (fun k k1 k2 => no_at hy (h3 k k1 (by omega)))
    have e2 : a + (c - a) = c := by omega
    rw [e2, List.nil_append, spl_at hy ((at_iff hy c).mp h2)] at run
    rw [run, ih, tl_strSub, hl]
theorem split_spl (x y : Str) (hy : tl y ≠ []) (hk : ¬ Builtin.Str.strKind x < Builtin.Str.strKind y) : (Txt.split x y).map tl = spl (tl y) 0 [] (tl x) := by
  obtain ⟨f, g, hn⟩ := occ_tight x y (len1 hy)
  have key := parts_spl hy _ 0 f (Nat.zero_le _) g hn
  rw [List.drop_zero] at key
  have none_case : occurrences x y 0 x.length (x.length + 1) = [] → [x].map tl = spl (tl y) 0 [] (tl x) := fun ho => by
    rw [ho] at key
    rw [← key]
    show [tl x] = [tl (strSub x 0 x.length)]
    rw [sub_whole]
  unfold Txt.split
  by_cases h1 : (decide (x.length < y.length) || decide (Builtin.Str.strKind x < Builtin.Str.strKind y)) = true
  · rw [if_pos h1]
    have hlt : x.length < y.length := by
      simp only [Bool.or_eq_true, decide_eq_true_eq] at h1
      rcases h1 with h | h
      · exact h
      · exact absurd h hk
    refine none_case ?_
    cases ho : occurrences x y 0 x.length (x.length + 1) with
    | nil => rfl
    | cons c r =>
      rw [ho] at g
      have hc : c + y.length ≤ x.length := g.2.1.1
      omega
  · rw [if_neg h1]
    by_cases h2 : (occurrences x y 0 x.length (x.length + 1)).isEmpty = true
    · rw [if_pos h2]
      exact none_case (List.isEmpty_iff.mp h2)
    · rw [if_neg h2, partsBetween_eq]
      exact key
theorem kind_ok {x y : Str} (h : y.cps.all (· < 256) = true) : ¬ Builtin.Str.strKind x < Builtin.Str.strKind y := by
  have e : Builtin.Str.strKind y = 1 := by unfold PySem.Builtin.Str.strKind; rw [if_pos h]
  rw [e]
  unfold PySem.Builtin.Str.strKind
  split
  · omega
  · split <;> omega
theorem spl_part {S p rest acc : List Nat} (hS : S ≠ []) (h : ∀ i, i < p.length → pre S ((p ++ (S ++ rest)).drop i) = false) :
    spl S 0 acc (p ++ (S ++ rest)) = (acc ++ p) :: spl S 0 [] rest := by
  have run := spl_run S (p ++ (S ++ rest)) p.length 0 acc (by rw [List.length_append]; omega) (fun k _ k2 => h k (by omega))
  have ed : (p ++ (S ++ rest)).drop p.length = S ++ rest := List.drop_left
  rw [List.drop_zero, Nat.zero_add, List.take_left] at run
  rw [run, spl_at hS (by rw [ed]; exact pre_self S rest), ← drop_two, ed, List.drop_left]
theorem spl_last {S p acc : List Nat} (h : ∀ i, i < p.length → pre S (p.drop i) = false) : spl S 0 acc p = [acc ++ p] := by
  have run := spl_run S p p.length 0 acc (by omega) (fun k _ k2 => h k (by omega))
  rw [List.drop_zero, Nat.zero_add, List.drop_length, spl_nil, List.take_length] at run
  exact run
theorem free_of {s : Nat} {S p q : List Nat} (h : s ∉ p) : ∀ i, i < p.length → pre (s :: S) ((p ++ q).drop i) = false := fun i hi => by
  have hlt : i < (p ++ q).length := by rw [List.length_append]; omega
  have e : (p ++ q).drop i = (p ++ q)[i] :: (p ++ q).drop (i + 1) := List.drop_eq_getElem_cons hlt
  rw [e]
  refine pre_of_head _ _ fun z => h ?_
  have e1 : (p ++ q)[i] = p[i] := List.getElem_append_left hi
  rw [← z, e1]
  exact List.getElem_mem hi
theorem spl_part1 {s : Nat} {S p rest acc : List Nat} (h : s ∉ p) : spl (s :: S) 0 acc (p ++ (s :: S ++ rest)) = (acc ++ p) :: spl (s :: S) 0 [] rest :=
  spl_part (by simp) (free_of h)
theorem spl_last1 {s : Nat} {S p acc : List Nat} (h : s ∉ p) : spl (s :: S) 0 acc p = [acc ++ p] := spl_last fun i hi => by
  have z := free_of (S := S) (q := []) h i hi
  rw [List.append_nil] at z
  exact z
def joinL (S : List Nat) : List (List Nat) → List Nat
  | [] => []
  | [p] => p
  | p :: q :: r => p ++ (S ++ joinL S (q :: r))
theorem tl_join (y : Str) : ∀ parts : List Str, tl (Str.join y parts) = joinL (tl y) (parts.map tl)
  | [] => rfl
  | [_] => rfl
  | x :: z :: r => by
    show tl (x ++ y ++ Str.join y (z :: r)) = tl x ++ (tl y ++ joinL (tl y) ((z :: r).map tl))
    rw [tl_append, tl_append, tl_join y (z :: r), List.append_assoc]
theorem spl_join {s : Nat} {S : List Nat} : ∀ {parts : List (List Nat)}, parts ≠ [] → (∀ p ∈ parts, s ∉ p) → spl (s :: S) 0 [] (joinL (s :: S) parts) = parts
  | [], h, _ => absurd rfl h
  | [p], _, hp => by
    show spl (s :: S) 0 [] p = [p]
    rw [spl_last1 (hp p (List.mem_singleton.mpr rfl)), List.nil_append]
  | p :: q :: r, _, hp => by
    show spl (s :: S) 0 [] (p ++ (s :: S ++ joinL (s :: S) (q :: r))) = p :: q :: r
    rw [spl_part1 (hp p (List.mem_cons_self ..)), List.nil_append, spl_join (by simp) fun z hz => hp z (List.mem_cons_of_mem _ hz)]
theorem join_eq (y : Str) (parts : List Str) : Txt.join y parts = Str.join y parts := glued_eq_join y parts
theorem split_join {y : Str} {s : Nat} {S : List Nat} (ey : tl y = s :: S) (hk : y.cps.all (· < 256) = true) {parts : List Str} (hne : parts ≠ []) (hp : ∀ p ∈ parts, s ∉ tl p) :
    Txt.split (Txt.join y parts) y = parts := by
  refine map_tl_inj ?_
  rw [split_spl _ y (by rw [ey]; simp) (kind_ok hk), join_eq, tl_join, ey]
  refine spl_join (fun e => hne (List.map_eq_nil_iff.mp e)) fun p h => ?_
  obtain ⟨z, hz, rfl⟩ := List.mem_map.mp h
  exact hp z hz
end TL
end
namespace L2
open PySem PySem.Spec PyProof.Rows
theorem vals_strs : ∀ l : List (Str × Tok), Vals ((l.map (·.1)).map V.str) (strValues l)
  | [] => .nil
  | p :: r => .cons ⟨p.2, rfl⟩ (vals_strs r)
theorem strs_of_vals : ∀ {ys : List Str} {us : List Value}, Vals (ys.map V.str) us → StrsAre us ys
  | [], _, .nil => .nil
  | y :: ys, _, .cons r t => by
    obtain ⟨k, rfl⟩ := r
    exact .cons y k (strs_of_vals t)
def rNewStrs (ys : List Str) : Hp → VK → Prop := fun H Q => ∀ p, H p = none → Q (.ref p) (upd H p (.lst (ys.map V.str)))
section
variable {X : Cx} {pins : List (Addr × Obj)} {σ : St} {H : Hp} {s : Shared} {Q : VK}
theorem laid_strs {l : List (Str × Tok)} {ys : List Str} {k : Nat} (I : Inv X pins σ H s) (e : l.map (·.1) = ys) (hz : ys.length ≤ sizeLine) (h : rNewStrs ys H Q) :
    EP X pins σ Q (.ref s.heap.objs.size) { s with toks := k, heap := s.heap.push { cls := .type "list", data := .seq (strValues l).toArray } } := by
  have hp := I.hok.fresh (Nat.le_refl _)
  refine ⟨.ref s.heap.objs.size, upd H s.heap.objs.size (.lst (ys.map V.str)), I.laid (fun b u q => Heap.get?_push_of_some _ q) (Nat.le_refl _) ⟨by rw [List.length_map]; exact hz, strValues l, _, ?_, Heap.get?_push_size _ rfl⟩, rfl, h _ hp⟩
  rw [← e]
  exact vals_strs l
end
section
variable {X : Cx}
theorem mt_split : MtR X "str.split" (fun x xs H Q => ∃ a b, x = .str a ∧ xs = [.str b] ∧ (b.length == 0) = false ∧ a.length + 2 ≤ sizeLine ∧ rNewStrs (Txt.split a b) H Q) := by
  intro pins s σ H x xs v us Q I rx rs h
  obtain ⟨a, b, rfl, rfl, hb, hz, h⟩ := h
  obtain ⟨t, rfl⟩ := rx
  cases rs with
  | cons r1 rs =>
    cases rs
    obtain ⟨u, rfl⟩ := r1
    have hl : (Txt.split a b).length ≤ sizeLine := Nat.le_trans (PyProof.Rows.split_le a b) hz
    have hn : (Builtin.Str.partsBetween a (Builtin.Str.occurrences a b 0 a.length (a.length + 1)) b.length).length ≤ sizeLine := by
      have e1 := StrLaws.occ_length_le a b 0 a.length (a.length + 1)
      rw [length_partsBetween]; omega
    cases h1 : (decide (a.length < b.length) || decide (Builtin.Str.strKind a < Builtin.Str.strKind b))
    · cases hf : (Builtin.Str.occurrences a b 0 a.length (a.length + 1)).isEmpty
      · refine call_meets F.slot_str_split (typeIs_str _ _ _) F.entry_str_split (F.args_str_split_2 _ _) (meets_str_split_sep a b t u h1 hb hf (by omega) hn) ?_
        show EP X pins σ Q (.ref s.heap.objs.size) { s with toks := _, heap := s.heap.push { cls := .type "list", data := .seq (strsFrom s.toks (Builtin.Str.partsBetween a (Builtin.Str.occurrences a b 0 a.length (a.length + 1)) b.length)).toArray } }
        rw [strsFrom_eq]
        exact laid_strs (ys := Txt.split a b) I ((numbered_texts _ _).trans ((if_neg (ne_true_of_eq_false h1)).trans (if_neg (ne_true_of_eq_false hf))).symm) hl h
      · refine call_meets F.slot_str_split (typeIs_str _ _ _) F.entry_str_split (F.args_str_split_2 _ _) (meets_str_split_not_found a b t u h1 hb hf) ?_
        exact laid_strs (l := [(a, t)]) (ys := Txt.split a b) (k := s.toks) I ((if_neg (ne_true_of_eq_false h1)).trans (if_pos hf)).symm hl h
    · refine call_meets F.slot_str_split (typeIs_str _ _ _) F.entry_str_split (F.args_str_split_2 _ _) (meets_str_split_cannot_occur a b t u h1) ?_
      exact laid_strs (l := [(a, t)]) (ys := Txt.split a b) (k := s.toks) I (if_pos h1).symm hl h
theorem mt_join : MtR X "str.join" (fun x xs H Q => ∃ a p, ∃ ys : List Str, x = .str a ∧ xs = [.ref p] ∧ (SqL X.K H p (ys.map V.str) ∨ SqT X.K H p (ys.map V.str)) ∧
    (ys.map (·.length)).sum + ys.length * a.length ≤ 16777216 ∧ Q (.str (Txt.join a ys)) H) := by
  intro pins s σ H x xs v us Q I rx rs h
  obtain ⟨a, p, ys, rfl, rfl, hp, hz, h⟩ := h
  obtain ⟨t, rfl⟩ := rx
  cases rs with
  | cons r1 rs =>
    cases rs
    cases r1
    rcases hp with hp | hp
    · obtain ⟨its, r, ⟨o, n, ho, hc, _, hd⟩, _⟩ := I.list hp
      exact PyProof.Rows.join_list (items := its.toArray) ⟨o, ho, hc, n, hd⟩ (by rw [List.toList_toArray]; exact strs_of_vals r) hz fun t' k => ⟨.str _, H, I.tok k, ⟨t', rfl⟩, h⟩
    · obtain ⟨its, r, ht, _⟩ := I.tuple hp
      exact PyProof.Rows.join_tuple (items := its.toArray) ht (by rw [List.toList_toArray]; exact strs_of_vals r) hz fun t' k => ⟨.str _, H, I.tok k, ⟨t', rfl⟩, h⟩
theorem mt0 {id : String} {C : Str → Prop} {g : Str → V} (rule : ∀ (a : Str) (t : Tok) (s : Shared) (Q : Value → Shared → Prop), C a → (∀ (u : Value) (k : Nat), RelV (g a) u → Q u { s with toks := k }) →
    wpAny (model X.prog X.w) X.A (call (.builtin id) [.str a t]) Q X.xe s) : MtR X id (fun x xs H Q => ∃ a, x = .str a ∧ xs = [] ∧ C a ∧ Q (g a) H) := by
  intro pins s σ H x xs v us Q I rx rs h
  obtain ⟨a, rfl, rfl, hc, h⟩ := h
  obtain ⟨t, rfl⟩ := rx
  cases rs
  exact rule a t s _ hc fun u k r => ⟨g a, H, I.tok k, r, h⟩
theorem mt_isdigit : MtR X "str.isdigit" (fun x xs H Q => ∃ a, x = .str a ∧ xs = [] ∧ True ∧ Q (.bl (Txt.isdigit a)) H) :=
  mt0 (C := fun _ => True) (g := fun a => .bl (Txt.isdigit a)) fun _ _ s _ _ h => PySem.SC.isdigit (h _ s.toks rfl)
theorem mt1 {id : String} {g : Str → Str → V} (rule : ∀ (a b : Str) (t u : Tok) (s : Shared) (Q : Value → Shared → Prop), (∀ (v : Value) (k : Nat), RelV (g a b) v → Q v { s with toks := k }) →
    wpAny (model X.prog X.w) X.A (call (.builtin id) [.str a t, .str b u]) Q X.xe s) : MtR X id (fun x xs H Q => ∃ a b, x = .str a ∧ xs = [.str b] ∧ Q (g a b) H) := by
  intro pins s σ H x xs v us Q I rx rs h
  obtain ⟨a, b, rfl, rfl, h⟩ := h
  obtain ⟨t, rfl⟩ := rx
  cases rs with
  | cons r1 rs =>
    cases rs
    obtain ⟨u, rfl⟩ := r1
    exact rule a b t u s _ fun v k r => ⟨g a b, H, I.tok k, r, h⟩
theorem mt_startswith : MtR X "str.startswith" (fun x xs H Q => ∃ a b, x = .str a ∧ xs = [.str b] ∧ Q (.bl (Txt.startswith a b)) H) :=
  mt1 (g := fun a b => .bl (Txt.startswith a b)) fun _ _ _ _ s _ h => PySem.SC.startswith (h _ s.toks rfl)
theorem call_int_str : CallR X (.type "int") (fun xs H Q => ∃ a n, xs = [.str a] ∧ PySem.intText? a = some n ∧ a.length ≤ 640 ∧ Q (.int n) H) := by
  intro pins s σ H xs us Q I rs h
  obtain ⟨a, n, rfl, hn, hl, h⟩ := h
  cases rs with
  | cons r1 rs =>
    cases rs
    obtain ⟨t, rfl⟩ := r1
    exact PySem.W.KIN.call_text hn hl ⟨.int n, H, I.tok _, ⟨_, rfl⟩, h⟩
end
section
variable {X : Cx} {o e : Expr} {to te : TE}
def tM0 (r : V → List V → Hp → VK → Prop) (to : TE) : TE := fun σ H Q => to σ H fun x H1 => (∃ a, x = .str a) ∧ r x [] H1 Q
def tM1 (r : V → List V → Hp → VK → Prop) (to te : TE) : TE := fun σ H Q => to σ H fun x H1 => (∃ a, x = .str a) ∧ te σ H1 fun y H2 => r x [y] H2 Q
theorem pe_m0 {id : String} {name : Str} {apos pos : Pos} {r : V → List V → Hp → VK → Prop} (slot : Slot "str" name id) (ty : typeOf (.builtin id) = pure (.type "method_descriptor")) (rule : MtR X id r) (ho : PE X o to)
    (hbase : attributeBase o name X.env (eval o X.env) = eval o X.env := by rfl) (hline : (apos.endLine == pos.line) = true := by rfl) : PE X (.Call (.Attribute o name apos) [] [] pos) (tM0 r to) := by
  intro pins s σ H Q I h
  refine PySem.Call_method0 hbase hline (thn (ho pins s σ H _ I h) fun v s1 ⟨x, H1, I1, r1, q1⟩ => ?_)
  obtain ⟨⟨a, rfl⟩, q1⟩ := q1
  obtain ⟨t, rfl⟩ := _root_.id r1
  exact ⟨"str", _, F.plainAttrs_str, slot, ty, typeIs_str _ _ _, (fun _ e => nomatch e), Calls.callWith_builtin rfl (PySem.evalArgs_none (rule pins s1 σ H1 _ [] _ [] Q I1 r1 .nil q1))⟩
theorem pe_m1 {id : String} {name : Str} {apos pos : Pos} {r : V → List V → Hp → VK → Prop} (slot : Slot "str" name id) (ty : typeOf (.builtin id) = pure (.type "method_descriptor")) (rule : MtR X id r) (ho : PE X o to) (he : PE X e te)
    (hs : starEach [e] X.env = [(false, eval e X.env)] := by rfl) (hbase : attributeBase o name X.env (eval o X.env) = eval o X.env := by rfl) (hline : (apos.endLine == pos.line) = true := by rfl) :
    PE X (.Call (.Attribute o name apos) [e] [] pos) (tM1 r to te) := by
  intro pins s σ H Q I h
  refine PySem.Call_method1 hbase hs hline (thn (ho pins s σ H _ I h) fun v s1 ⟨x, H1, I1, r1, q1⟩ => ?_)
  obtain ⟨⟨a, rfl⟩, q1⟩ := q1
  obtain ⟨t, rfl⟩ := _root_.id r1
  refine ⟨"str", _, F.plainAttrs_str, slot, ty, typeIs_str _ _ _, (fun _ e => nomatch e), Calls.callWith_builtin rfl (Calls.evalArgs_plain (Calls.spliced_cons ?_))⟩
  exact thn (he pins s1 σ H1 _ I1 q1) fun u s2 ⟨y, H2, I2, r2, q2⟩ => Calls.spliced_nil (rule pins s2 σ H2 _ [y] _ [u] Q I2 r1 (.cons r2 .nil) q2)
theorem pe_split {apos pos : Pos} (ho : PE X o to) (he : PE X e te) (hs : starEach [e] X.env = [(false, eval e X.env)] := by rfl) (hbase : attributeBase o "split" X.env (eval o X.env) = eval o X.env := by rfl) (hline : (apos.endLine == pos.line) = true := by rfl) :
    PE X (.Call (.Attribute o "split" apos) [e] [] pos) (tM1 (fun x xs H Q => ∃ a b, x = .str a ∧ xs = [.str b] ∧ (b.length == 0) = false ∧ a.length + 2 ≤ sizeLine ∧ rNewStrs (Txt.split a b) H Q) to te) :=
  pe_m1 F.slot_str_split F.type_str_split mt_split ho he hs hbase hline
theorem pe_join {apos pos : Pos} (ho : PE X o to) (he : PE X e te) (hs : starEach [e] X.env = [(false, eval e X.env)] := by rfl) (hbase : attributeBase o "join" X.env (eval o X.env) = eval o X.env := by rfl) (hline : (apos.endLine == pos.line) = true := by rfl) :
    PE X (.Call (.Attribute o "join" apos) [e] [] pos) (tM1 (fun x xs H Q => ∃ a p, ∃ ys : List Str, x = .str a ∧ xs = [.ref p] ∧ (SqL X.K H p (ys.map V.str) ∨ SqT X.K H p (ys.map V.str)) ∧
      (ys.map (·.length)).sum + ys.length * a.length ≤ 16777216 ∧ Q (.str (Txt.join a ys)) H) to te) :=
  pe_m1 F.slot_str_join F.type_str_join mt_join ho he hs hbase hline
end
end L2
namespace L2
open PySem PySem.Spec PyProof.Rows
section
variable {X : Cx}
end
theorem IsPart.raw {v : Value} {o : Option Int} (p : IsPart v o) : ∃ l : Option (Int × Tok), v = partValue l ∧ l.map (·.1) = o := by
  cases p with
  | none => exact ⟨none, rfl, rfl⟩
  | int i t => exact ⟨some (i, t), rfl, rfl⟩
def clipS (n d : Nat) : Option Int → Int
  | none => (d : Int)
  | some i => max 0 (min (if i < 0 then i + (n : Int) else i) (n : Int))
theorem clipS_eq (n d : Nat) (o : Option Int) : clipS n d o = ((HT.sIx n d o : Nat) : Int) := by
  cases o with
  | none => rfl
  | some v =>
    show max (0 : Int) (min (if v < 0 then v + (n : Int) else v) (n : Int)) = (((if v < 0 then (v + (n : Int)).toNat else min v.toNat n) : Nat) : Int)
    by_cases hv : v < 0
    · simp only [if_pos hv]
      omega
    · simp only [if_neg hv]
      omega
theorem sidx_clip (a b : Option Int) (n : Nat) : Builtin.Str.strSliceIndices a b 1 n = sliceRange (clipS n 0 a) (clipS n n b) 1 := by
  have h1 : ((1 : Int) > 0) = True := by simp
  cases a <;> cases b <;> first
    | rfl
    | (simp only [Builtin.Str.strSliceIndices, clipS, h1, if_true]; rfl)
    | simp [Builtin.Str.strSliceIndices, clipS]
theorem sidx (a b : Option Int) (n : Nat) : Builtin.Str.strSliceIndices a b 1 n = (List.range (HT.sIx n n b - HT.sIx n 0 a)).map (fun k => HT.sIx n 0 a + k) := by
  rw [sidx_clip, clipS_eq, clipS_eq]
  generalize HT.sIx n 0 a = p
  generalize HT.sIx n n b = q
  simp only [sliceRange, show ((1 : Int) > 0) = True from by simp, if_true]
  by_cases hlt : (p : Int) < q
  · have e3 : (((q : Int) - p + 1 - 1) / 1).toNat = q - p := by first | omega | (simp; done) | (simp; omega)
    simp only [hlt, if_true, e3]
    refine List.map_congr_left fun k _ => ?_
    omega
  · have : q - p = 0 := by omega
    simp [hlt, this]
def cutS (z : Str) (lo hi : Option Int) : Str :=
  ⟨((z.cps.toList.drop (HT.sIx z.length 0 lo)).take (HT.sIx z.length z.length hi - HT.sIx z.length 0 lo)).toArray⟩
theorem sliceText_cut (z : Str) (lo hi : Option Int) : PySem.StrLaws.sliceText z lo hi = cutS z lo hi := by
  have h1 : HT.sIx z.length 0 lo ≤ z.length := HT.sIx_le _ _ (Nat.zero_le _) _
  have h2 : HT.sIx z.length z.length hi ≤ z.length := HT.sIx_le _ _ (Nat.le_refl _) _
  have hp : HT.sIx z.length 0 lo ≤ max (HT.sIx z.length 0 lo) (HT.sIx z.length z.length hi) := Nat.le_max_left _ _
  have hq : max (HT.sIx z.length 0 lo) (HT.sIx z.length z.length hi) ≤ z.length := Nat.max_le.mpr ⟨h1, h2⟩
  have hd : max (HT.sIx z.length 0 lo) (HT.sIx z.length z.length hi) - HT.sIx z.length 0 lo = HT.sIx z.length z.length hi - HT.sIx z.length 0 lo := by omega
  have e : Builtin.Str.strSliceIndices lo hi 1 z.length =
      Builtin.Str.strSliceIndices (some ((HT.sIx z.length 0 lo : Nat) : Int)) (some ((max (HT.sIx z.length 0 lo) (HT.sIx z.length z.length hi) : Nat) : Int)) 1 z.length := by
    rw [PySem.StrLaws.strSliceIndices_plain hp hq, hd, sidx]
  have e2 : PySem.StrLaws.sliceText z lo hi =
      PySem.StrLaws.sliceText z (some ((HT.sIx z.length 0 lo : Nat) : Int)) (some ((max (HT.sIx z.length 0 lo) (HT.sIx z.length z.length hi) : Nat) : Int)) := by
    unfold PySem.StrLaws.sliceText
    rw [e]
  rw [e2, PySem.StrLaws.sliceText_nat z hp hq, hd]
  rfl
theorem cutS_length (z : Str) (lo hi : Option Int) : (cutS z lo hi).length ≤ z.length := by
  show (((z.cps.toList.drop (HT.sIx z.length 0 lo)).take (HT.sIx z.length z.length hi - HT.sIx z.length 0 lo)).toArray).size ≤ z.cps.size
  rw [List.size_toArray, List.length_take, List.length_drop, Array.length_toList]
  omega
def rSlS : V → Option Int → Option Int → Hp → VK → Prop := fun x lo hi H Q => ∃ z, x = .str z ∧ z.length ≤ sizeLine ∧ Q (.str (cutS z lo hi)) H
theorem sl_str {X : Cx} : SlR X rSlS := by
  intro pins s σ H x v vl vu lo hi sl Q I rx hs pl pu h
  obtain ⟨z, rfl, hz, q⟩ := h
  obtain ⟨t, rfl⟩ := rx
  obtain ⟨os, hos, hcs, hds⟩ := hs
  obtain ⟨l, rfl, rfl⟩ := IsPart.raw pl
  obtain ⟨u, rfl, rfl⟩ := IsPart.raw pu
  refine ⟨"str", _, F.slot_str_getitem.lookup, typeIs_str _ _ _, ?_⟩
  refine wpAny_getItem_str_slice (l := l) (u := u) (st := none) ⟨os, hos, hcs, hds⟩ rfl ?_
  have hl : (PySem.StrLaws.sliceText z (l.map (·.1)) (u.map (·.1))).length ≤ sizeLine := by
    rw [sliceText_cut]
    exact Nat.le_trans (cutS_length z _ _) hz
  rw [← sliceText_cut] at q
  unfold PySem.StrLaws.sliceText at q hl
  show Made.post (if ((1 : Int) == 1 && (Builtin.Str.strSliceIndices (l.map (·.1)) (u.map (·.1)) 1 z.length).length == z.length) = true then Made.val (.str z t)
    else Made.str ⟨((Builtin.Str.strSliceIndices (l.map (·.1)) (u.map (·.1)) 1 z.length).filterMap (z.cps[·]?)).toArray⟩) (EP X pins σ Q) s
  by_cases c : ((1 : Int) == 1 && (Builtin.Str.strSliceIndices (l.map (·.1)) (u.map (·.1)) 1 z.length).length == z.length) = true
  · rw [if_pos c] at q ⊢
    exact ⟨.str z, H, I, ⟨t, rfl⟩, q⟩
  · rw [if_neg c] at q hl ⊢
    exact ⟨hl, .str _, H, I.tok _, ⟨_, rfl⟩, q⟩
end L2
namespace Att
open PySem PySem.W PySem.Calls PyProof.Rows
theorem ints_of_wellAll {P : Params} {h : Heap} : ∀ (ns : List Int) (vs : List Value), WellAll P h vs (ns.map WData.int) → IntsAre vs ns := by
  intro ns
  induction ns with
  | nil =>
    intro vs w
    rw [List.map_nil] at w
    cases w
    exact .nil
  | cons n ns ih =>
    intro vs w
    rw [List.map_cons] at w
    cases w with
    | cons a b =>
      cases a
      exact .cons _ _ (ih _ b)
theorem script_of {l : OpenLaw} {n : Nat} (hn : l.most = some n) {P : Params} {h : Heap} {args : List WData} {vals : List Value}
    (hpre : l.row.toRowW.claim.pre args = true) (hwl : WellAll P h vals args) :
    ∃ a vs ns, vals = [Value.ref a] ∧ args = [WData.list (ns.map WData.int)] ∧ h.get? a = some { cls := .type "list", data := .seq vs.toArray } ∧ IntsAre vs ns ∧ ns.length ≤ n := by
  have hsh : WShape.hasAll [] args [.list .int] = true := (pre_splitW hpre).1
  have hc : l.pre.holds [] { args := args } = true := (pre_splitW hpre).2
  obtain ⟨d, r, rfl, h1, h2⟩ := hasAllW_cons hsh
  obtain rfl := hasAllW_nil h2
  obtain ⟨xs, rfl, h3⟩ := hasW_list h1
  obtain ⟨ns, rfl⟩ := items_int h3
  have hlen : ns.length ≤ n := by
    unfold OpenLaw.pre at hc
    have h4 : (WTm.not (.lt (.lit (.int (n : Int))) (.len (.arg 0)))).holds [] { args := [.list (ns.map .int)] } = true := by
      have h4 := (holds_andW hc).1
      rw [hn] at h4
      exact h4
    have h5 := condW_of h4 (w_not (w_lt w_lit (w_len_list (w_arg rfl))))
    rw [List.length_map] at h5
    refine Nat.le_of_not_lt fun q => ?_
    have q' : (n : Int) < ((ns.length : Nat) : Int) := by omega
    first
      | (rw [decide_eq_true q'] at h5; exact absurd h5 (by decide))
      | (simp at h5; omega)
  cases hwl with
  | cons w1 w2 =>
    cases w2
    cases w1 with
    | list ho hall => exact ⟨_, _, ns, rfl, rfl, ho, ints_of_wellAll ns _ hall, hlen⟩
theorem post_true (l : OpenLaw) (args : List WData) : l.row.toRowW.claim.post args (.bool true) args = true :=
  postW_of (r := l.row.toRowW) (X := (true == true))
    (show WShape.has [] (.bool true) .bool = true by first | rfl | decide | simp [WShape.has, WShape.arms, WShape.armsAll])
    (show (WTm.eq .res (.lit (.bool true))).value [] { args := args, res := some (.bool true), after := args } = some (.bool (true == true)) from w_eq_bool (w_res rfl) w_lit) rfl
theorem attach_call {l : OpenLaw} {n : Nat} {q : Program} {loose : List Str} {XP : (Str → Option Value) → Heap → Prop} {YP : World → Heap → Prop} {d : DefRec}
    (hn : l.most = some n) (hdf : d.params.defaults = [])
    (call : ∀ (w : World) (s₀ s₁ : Shared) (mg mb : Str → Option Value) (fa : Addr) (o : Obj) (pm cd doc : Value) (a : Addr) (vs : List Value) (ns : List Int),
      Ground q loose [] XP w s₀ mg mb s₁.heap → YP w s₁.heap →
      s₁.heap.get? fa = some o → o.data = .func (docDef d.name d.params d.body d.scope pm cd doc) → s₁.heap.CodeRec cd d.name → mg d.name = some (.ref fa) →
      s₁.heap.get? a = some { cls := .type "list", data := .seq vs.toArray } → IntsAre vs ns → ns.length ≤ n → s₁.gens = #[] →
      codeAny (model l.prog w) callerA (.call (.ref fa) ⟨[.ref a], []⟩) (fun r s' => r = .ok (.ret (.bool true)) ∧ OldK s₁.heap s'.heap ∧ s'.os = s₁.os ∧ AllBare s'.gens) s₁) :
    WalkO q loose XP YP l.row.toRowW d [] (fun f vs => PySem.call f vs) := by
  intro w s₀ s₁ mg mb G Y fa o pm cd doc dV kV ho hd hcd hD hmg hg args vals as hpre hlay hrd hwl hlo
  obtain rfl : dV = .none := Dflts.none hD hdf
  obtain rfl : kV = .none := Dflts.noKw hD
  obtain ⟨a, vs, ns, rfl, rfl, hobj, hints, hlen⟩ := script_of hn hpre hwl
  refine enter_call (codeAny_mono (call w s₀ s₁ mg mb fa o pm cd doc a vs ns G Y ho (fd_plain hd) hcd hmg hobj hints hlen hg) fun r s' hq => ?_)
  obtain ⟨rfl, h2, h3, h4⟩ := hq
  exact ⟨.inl ⟨.bool true, .bool true, [], rfl, fun _ => rfl, .bool true, post_true l _, fun _ => ⟨List.Pairwise.nil, fun _ hm => (nomatch hm)⟩⟩, h2, h3, h4⟩
section
variable {prog : Program} {w : World} {A : Around} {E : Value → Shared → Prop} {s : Shared} {K : Frag}
end
end Att
namespace L2
open PySem PySem.Spec PyProof.Rows
theorem vals_ints : ∀ {vs : List Value} {ns : List Int}, IntsAre vs ns → Vals (ns.map V.int) vs
  | _, _, .nil => .nil
  | _, _, .cons n t h => .cons ⟨t, rfl⟩ (vals_ints h)
def Only (H : Hp) : Prop := ∀ b, H b = none ∨ ∃ o xs, H b = some (.frz o (.lst xs))
theorem law_call {P : Program} {w : World} {K : PySem.W.Frag} {mg mb : Str → Option Value} {CX : CXT} {k : Nat} {fa a : Addr} {fd : FuncData} {x : Str} {sp : Sp} {s₁ : Shared} {vs : List Value} {ns : List Int}
    (KX : K.In s₁.heap) (hns : s₁.heap.Ns mainGlobals mg) (hb : s₁.heap.Ns builtinsNs mb) (hbb : ∀ x : Str, x ≠ "__name__" → mb x = bootBuiltins x) (hlim : s₁.heap.NoLimit) (hg : s₁.gens = #[])
    (ha : s₁.heap.get? a = some { cls := .type "list", data := .seq vs.toArray }) (hi : IntsAre vs ns) (hl : ns.length ≤ sizeLine) (hr : Room k callerA)
    (F : ∀ base : Heap, K.In base → base.Ns mainGlobals mg → FnOk P w K mg base CX k fa fd [x] sp) (hbind : ∀ (s : Shared) (u : Value), BindsTo s fd ⟨[u], []⟩ [(x, u)])
    (hsp : ∀ H : Hp, Only H → SqL K H a (ns.map V.int) → sp [.ref a] H (fun v _ => v = .bl true) fun _ _ _ => False)
    (hCX : ∀ H e s', CX [] H s₁ (fun _ _ _ => False) e s' → False) :
    codeAny (model P w) callerA (.call (.ref fa) ⟨[.ref a], []⟩) (fun r s' => r = .ok (.ret (.bool true)) ∧ OldK s₁.heap s'.heap ∧ s'.os = s₁.os ∧ AllBare s'.gens) s₁ := by
  have rv := vals_ints hi
  have lenV := hi.length
  have core : ∀ H : Hp, Only H → SqL K H a (ns.map V.int) → HOk P w H s₁.heap → (∀ b, H b ≠ none → b = a) → (H a ≠ none → K.lookup a = none) →
      codeAny (model P w) callerA (.call (.ref fa) ⟨[.ref a], []⟩) (fun r s' => r = .ok (.ret (.bool true)) ∧ OldK s₁.heap s'.heap ∧ s'.os = s₁.os ∧ AllBare s'.gens) s₁ := by
    intro H hO hS hok hA hK
    have base_of : ∀ {b : Addr} {o : Obj}, s₁.heap.get? b = some o → H b = none → (hidT s₁.heap H).get? b = some o := fun e n => hidT_get e n
    have noA : ∀ {b : Addr} {o : Obj} {es : Array DictEntry} {ep : Nat}, s₁.heap.get? b = some o → o.data = .dict es ep → H b = none := fun {b o es ep} e d => by
      cases q : H b with
      | none => rfl
      | some u =>
        have e' : b = a := hA b (by rw [q]; simp)
        subst e'
        rw [ha] at e; cases e
        have d' : Data.seq vs.toArray _ = Data.dict es ep := d
        cases d'
    have nsK : ∀ {b : Addr} {m : Str → Option Value}, s₁.heap.Ns b m → (hidT s₁.heap H).Ns b m := fun {b m} ⟨o, es, ep, e, d, r⟩ => ⟨o, es, ep, base_of e (noA e d), d, r⟩
    have hKb : K.In (hidT s₁.heap H) := fun b o e => base_of (KX b o e) (by
      cases q : H b with
      | none => rfl
      | some u =>
        have e' : b = a := hA b (by rw [q]; simp)
        subst e'
        rw [hK (by rw [q]; simp)] at e; cases e)
    have hM : Mod K mg (hidT s₁.heap H) := ⟨hKb, nsK hns, ⟨mb, nsK hb, hbb⟩, let ⟨mc, h1, h2⟩ := hlim; ⟨mc, nsK h1, h2⟩⟩
    have e0 : Env0 P w K mg (hidT s₁.heap H) callerA [] s₁ H := ⟨rfl, hM, fun b o e => of_hidT e, Nat.le_of_eq (hidT_size _ _), trivial, fun b hb => absurd (show b ∈ ([] : List Addr) from hb) (by simp), hok, .of_eq hg⟩
    refine codeAny_mono ((F _ hKb (nsK hns)).run callerA [] s₁ H ⟨[.ref a], []⟩ [.ref a] [.ref a] _ _ hr e0 (hbind s₁ (.ref a)) (.cons rfl .nil) (hsp H hO hS)) fun r s' h => ?_
    cases r with
    | error e => exact (hCX H e s' h).elim
    | ok fl =>
      cases fl with
      | next => exact False.elim h
      | brk => exact False.elim h
      | cont => exact False.elim h
      | ret u =>
        obtain ⟨v, H', os, bare, un, hok', r', q⟩ := h
        have q' : v = .bl true := q
        subst q'
        obtain rfl : u = Value.bool true := r'
        refine ⟨rfl, OldK.of_keep fun b o e => ?_, os, bare⟩
        cases q : H b with
        | none => exact un.keep b o e q (by intro z; exact absurd (show b ∈ ([] : List Addr) from z) (by simp)) (by simp)
        | some u =>
          rcases hO b with z | ⟨ob, xs, z⟩
          · rw [q] at z; cases z
          · have z2 := un.frzs b ob _ z
            obtain ⟨e1, _⟩ := hok b _ z
            obtain ⟨e2, _⟩ := hok' b _ z2
            rw [e] at e1; cases e1
            exact e2
  cases hk : K.lookup a with
  | some o =>
    have e := KX a o hk
    rw [ha] at e
    cases e
    refine core (fun _ => none) (fun _ => .inl rfl) (.inr ⟨_, vs.toArray, _, hk, rfl, rfl, rfl, by rw [List.size_toArray, lenV]; exact hl, by simpa using rv⟩) (fun b u z => by have z' : (none : Option HO) = some u := z; cases z') (fun b z => absurd rfl z) fun z => absurd rfl z
  | none =>
    refine core (fun b => if b = a then some (.frz { cls := .type "list", data := .seq vs.toArray } (.lst (ns.map V.int))) else none) (fun b => ?_) (.inl (.inr ⟨{ cls := .type "list", data := .seq vs.toArray }, if_pos rfl⟩)) (fun b u z => ?_) (fun b z => ?_) fun _ => hk
    · by_cases hb : b = a
      · exact .inr ⟨_, _, if_pos hb⟩
      · exact .inl (if_neg hb)
    · by_cases hb : b = a
      · have z' := (if_pos hb).symm.trans z
        cases z'
        subst hb
        exact ⟨ha, by rw [List.length_map]; exact hl, vs, _, rv, ha⟩
      · have z' := (if_neg hb).symm.trans z
        cases z'
    · by_cases hb : b = a
      · exact hb
      · exact absurd (if_neg hb) z
end L2
namespace L2
open PySem PySem.Spec PyProof.Rows
theorem walk_of {l : PySem.W.OpenLaw} {n k : Nat} {q : Program} {loose : List Str} {XP : (Str → Option Value) → Heap → Prop} {YP : World → Heap → Prop} {d : DefRec} {K : Params → PySem.W.Frag} {CX : World → CXT} {sp : World → Sp} {x : Str}
    (hn : l.most = some n) (hn2 : n ≤ sizeLine) (hdf : d.params.defaults = []) (hr : Room k callerA)
    (hY : ∀ (w : World) (h : Heap), YP w h → (K w.params).In h)
    (F : ∀ (w : World) (mg : Str → Option Value) (fa : Addr) (h : Heap), (K w.params).In h → h.Ns mainGlobals mg → mg d.name = some (.ref fa) →
      ∃ fd : FuncData, (∀ (s : Shared) (u : Value), BindsTo s fd ⟨[u], []⟩ [(x, u)]) ∧
        ∀ base : Heap, (K w.params).In base → base.Ns mainGlobals mg → FnOk l.prog w (K w.params) mg base (CX w) k fa fd [x] (sp w))
    (hsp : ∀ (w : World) (H : Hp) (a : Addr) (ns : List Int), ns.length ≤ n → Only H → SqL (K w.params) H a (ns.map V.int) → sp w [.ref a] H (fun v _ => v = .bl true) fun _ _ _ => False)
    (hCX : ∀ (w : World) (H : Hp) (s : Shared) (e : Value) (s' : Shared), CX w [] H s (fun _ _ _ => False) e s' → False) :
    PySem.W.WalkO q loose XP YP l.row.toRowW d [] (fun f vs => PySem.call f vs) := by
  refine Att.attach_call hn hdf fun w s₀ s₁ mg mb fa o pm cd doc a vs ns G Y ho hd hcd hmg hobj hints hlen hg => ?_
  have KX := hY w _ Y
  obtain ⟨fd, hb, hF⟩ := F w mg fa _ KX G.T.g hmg
  exact law_call KX G.T.g G.T.b G.T.builtins G.T.nolimit hg hobj hints (Nat.le_trans hlen hn2) hr hF hb (fun H hO hS => hsp w H a ns hlen hO hS) fun H e s' => hCX w H s₁ e s'
end L2
namespace L2
open PySem PySem.Spec PyProof.Rows
def defArgs (s : Stmt) : Arguments := match s with
  | .FunctionDef _ a _ _ _ _ _ _ _ _ => a
  | _ => { posonlyargs := [], args := [], vararg := none, kwonlyargs := [], kw_defaults := [], kwarg := none, defaults := [] }
def defBody (s : Stmt) : List Stmt := match s with
  | .FunctionDef _ _ b _ _ _ _ _ _ _ => b
  | _ => []
def defScope (s : Stmt) : Scope := match s with
  | .FunctionDef _ _ _ _ _ _ sc _ _ _ => sc
  | _ => { kind := .function, names := [], isGenerator := false, isCoroutine := false }
abbrev CX0 : CXT := fun _ _ _ _ _ _ => False
abbrev E0 : XK := fun _ _ _ => False
theorem pass0 {X : Cx} : Passes CX0 X E0 := fun _ _ _ _ _ _ _ h => h.elim
structure Fun (K : PySem.W.Frag) (x qual : Str) (st : Stmt) (f : Addr) (fd : FuncData) : Prop where
  ex : ∃ (oc : Value) (od : Option Addr) (kV doc pm : Value) (an : Option Addr) (cdv ct : Value) (osl : Array (Option Value)),
    fd = PySem.W.fnOf x qual (defArgs st) (defBody st) (defScope st) .none kV doc pm an cdv ct ∧ K.lookup f = some ⟨oc, od, .func fd, osl⟩ ∧ PySem.W.codeIn K cdv qual = true
  kp : PySem.W.keepIn K (.ref f) = true
section
variable {P : Program} {w : World} {K : PySem.W.Frag} {mg : Str → Option Value} {base : Heap}
theorem Fun.ok {x qual : Str} {st : Stmt} {f : Addr} {fd : FuncData} {N ps : List Str} {k : Nat} {sp : Sp} (F : Fun K x qual st f fd) (S : FnScope N ps (defScope st)) (len : ∀ vs H Q E, sp vs H Q E → vs.length = ps.length)
    (hbody : ∀ (cdv : Value) (A : Around) (outer : List Env) (s : Shared) (H : Hp) (vs : List V) (Q : VK) (E : XK), Room k (A.deeper (envOfC qual (defScope st) s.heap.objs.size f cdv)) → sp vs H Q E →
      ∃ t, PSs (cxOf CX0 P w K mg base N qual (defScope st) f cdv A outer s H E).nox (defBody st) t ∧ t { nx := fun _ H' => Q .non H', rt := Q } (start N vs) H) : FnOk P w K mg base CX0 (k + 1) f fd ps sp := by
  obtain ⟨oc, od, kV, doc, pm, an, cdv, ct, osl, rfl, lk, hcd⟩ := F.ex
  refine fn_of lk hcd S len fun A outer s H vs Q E hr hsp => ?_
  obtain ⟨t, h, q⟩ := hbody cdv A outer s H vs Q E hr hsp
  exact ⟨t, h.nox, q⟩
theorem Fun.binds {x qual : Str} {st : Stmt} {f : Addr} {fd : FuncData} {ps : List Str} (F : Fun K x qual st f fd)
    (h : ∀ (kV doc pm : Value) (an : Option Addr) (cdv ct : Value) (us : List Value), us.length = ps.length → bindArgs (PySem.W.fnOf x qual (defArgs st) (defBody st) (defScope st) .none kV doc pm an cdv ct) ⟨us, []⟩ = pure (ps.zip us)) : Binds K fd ps [] := by
  obtain ⟨oc, od, kV, doc, pm, an, cdv, ct, osl, rfl, lk, hcd⟩ := F.ex
  exact .all (h kV doc pm an cdv ct)
theorem fun_mk {x qual : Str} {st : Stmt} {f : Addr} {oc : Value} {od an : Option Addr} {osl : Array (Option Value)} {kV doc pm cdv ct : Value} (l : K.lookup f = some ⟨oc, od, .func (PySem.W.fnOf x qual (defArgs st) (defBody st) (defScope st) .none kV doc pm an cdv ct), osl⟩)
    (c : PySem.W.codeIn K cdv qual = true) (k : PySem.W.keepIn K (.ref f) = true) : Fun K x qual st f (PySem.W.fnOf x qual (defArgs st) (defBody st) (defScope st) .none kV doc pm an cdv ct) := ⟨⟨oc, od, kV, doc, pm, an, cdv, ct, osl, rfl, l, c⟩, k⟩
end
theorem hu_of {A : Around} {k : Nat} (hr : Room k A) : A.units + 1 < cLine := Nat.lt_of_le_of_lt (Nat.add_le_add_left (by decide : 1 ≤ 64) _) hr.units
section
variable {X : Cx}
theorem pv (i : Nat) {x : Str} {pos : Pos} (hN : X.N[i]? = some x := by rfl) (hv : Vis X.env.scope x := by first | exact Or.inl rfl | exact Or.inr (Or.inl rfl) | exact Or.inr (Or.inr rfl)) (hd : (x == ("__debug__" : Str)) = false := by decide)
    (hcd : (x == ("__classdict__" : Str)) = false := by decide) : PE X (.Name x pos) (tVar i) := pe_var hN hv hd hcd
end
theorem iteF {A B : Prop} (h : B) : if false = true then A else B := by
  rw [if_neg Bool.false_ne_true]
  exact h
theorem iteT {A B : Prop} (h : A) : if true = true then A else B := by
  rw [if_pos rfl]
  exact h
theorem iteNS {c A B : Prop} [Decidable c] (hc : c) (h : B) : if (!decide c) = true then A else B := by
  rw [decide_eq_true hc]
  exact iteF h
def Same (H H' : Hp) : Prop := ∀ b o, H b = some o → H' b = some o
theorem Same.refl (H : Hp) : Same H H := fun _ _ h => h
theorem Same.trans {H H1 H2 : Hp} (a : Same H H1) (b : Same H1 H2) : Same H H2 := fun c o h => b c o (a c o h)
theorem Same.free {H H' : Hp} (e : Same H H') {l : Addr} (h : H' l = Option.none) : H l = Option.none := by
  cases q : H l with
  | none => rfl
  | some o =>
    rw [e l o q] at h
    cases h
theorem Same.seq {K : PySem.W.Frag} {H H' : Hp} {a : Addr} {xs : List V} (e : Same H H') (h : SqL K H a xs) : SqL K H' a xs := by
  rcases h with (h | ⟨o, h⟩) | h
  · exact .inl (.inl (e _ _ h))
  · exact .inl (.inr ⟨o, e _ _ h⟩)
  · exact .inr h
section
variable {κ : Type} [DecidableEq κ]
end
end L2
set_option Elab.async false
set_option linter.all false
set_option maxRecDepth 100000
namespace L2
open PySem PySem.Spec PyProof.Rows
def FnC (P : Program) (w : World) (K : PySem.W.Frag) (mg : Str → Option Value) (base : Heap) (k : Nat) (x : Str) (ps : List Str) (sp : Sp) : Prop :=
  ∃ f fd, FnOk P w K mg base CX0 k f fd ps sp ∧ mg x = some (.ref f) ∧ PySem.W.keepIn K (.ref f) = true ∧ Binds K fd ps []
theorem FnC.mono {P : Program} {w : World} {K : PySem.W.Frag} {mg : Str → Option Value} {base : Heap} {j k : Nat} {x : Str} {ps : List Str} {sp : Sp} (C : FnC P w K mg base j x ps sp) (h : j ≤ k) : FnC P w K mg base k x ps sp := by
  obtain ⟨f, fd, F, r⟩ := C
  exact ⟨f, fd, F.mono h, r⟩
def tCallC (sp : Sp) (t : TA) : TE := fun σ H Q => t σ H fun vs H1 => sp vs H1 Q E0
section
variable {X : Cx} {k : Nat} {ps : List Str} {sp : Sp} {x : Str} {p pos : Pos} {e : Expr} {es : List Expr} {t : TA}
theorem pe_callC (C : FnC X.prog X.w X.K X.mg X.base k x ps sp) (hr : Room k X.A) (hg : Gl X x) (ha : PA X (e :: es) t)
    (hdb : (x == ("__debug__" : Str)) = false := by decide) (he : starEach (e :: es) X.env = (false, eval e X.env) :: starEach es X.env := by rfl) (hpl : (backTo pos (starEach es X.env)).any (·.1) = false := by rfl) :
    PE X (.Call (.Name x p) (e :: es) [] pos) (tCallC sp t) := by
  obtain ⟨f, fd, F, hm, hk, hb⟩ := C
  intro pins s σ H Q I h
  have q := pe_call (p := p) (dvs := []) F hr hg hm hk hb .nil pass0 ha hdb he hpl pins s σ H Q I
  refine q ?_
  unfold tCall
  simp only [List.append_nil]
  exact h
end
def qB (x : V) (H : Hp) (Q : Bool → Hp → Prop) : Prop := ∃ k, x = .bl k ∧ Q k H
def qI (x : V) (H : Hp) (Q : Option Int → Hp → Prop) : Prop := ∃ i, x = .int i ∧ Q (some i) H
def qTup (xs : List V) (H : Hp) (Q : VK) : Prop := xs.length ≤ sizeLine ∧ ∀ p, H p = none → Q (.ref p) (upd H p (.tup xs))
def qLst (xs : List V) (H : Hp) (Q : VK) : Prop := xs.length ≤ sizeLine ∧ ∀ p, H p = none → Q (.ref p) (upd H p (.lst xs))
def gPar (i j : Nat) (vs : List V) (σ : St) (H : Hp) (nx : St → Hp → Prop) : Prop := ∃ v w, vs = [v, w] ∧ nx ((σ.set i (some v)).set j (some w)) H
section
variable {σ : St} {H : Hp} {Q : VK} {nx : St → Hp → Prop} {rt : VK} {bk ct : St → Hp → Prop} {t u : TS} {c : TT} {ta tb tc te : TE} {i j : Nat} {v x y : V} {r r' : R2} {K : PySem.W.Frag} {p : Addr} {xs ys : List V} {n m : Int} {QB : Bool → Hp → Prop} {tA : TA} {tt tt' : TT} {g : TG} {b : Bool}
theorem go_seq (h : t ⟨u ⟨nx, rt, bk, ct⟩, rt, bk, ct⟩ σ H) : tSeq t u ⟨nx, rt, bk, ct⟩ σ H := h
theorem go_next (h : nx σ H) : tNext ⟨nx, rt, bk, ct⟩ σ H := h
theorem go_ret (h : te σ H rt) : tRet te ⟨nx, rt, bk, ct⟩ σ H := h
theorem go_retN (h : rt .non H) : tRetN ⟨nx, rt, bk, ct⟩ σ H := h
theorem go_drop (h : te σ H fun _ H1 => nx σ H1) : tDrop te ⟨nx, rt, bk, ct⟩ σ H := h
theorem go_ifS (h : c σ H fun b H1 => if b = true then t ⟨nx, rt, bk, ct⟩ σ H1 else u ⟨nx, rt, bk, ct⟩ σ H1) : tIfS c t u ⟨nx, rt, bk, ct⟩ σ H := h
theorem go_asg (h : te σ H fun x H1 => g x σ H1 nx) : tAsg te g ⟨nx, rt, bk, ct⟩ σ H := h
theorem go_gname (h : nx (σ.set i (some v)) H) : gName i v σ H nx := h
theorem go_gsub {to ti : TE} {ts : TSet} (h : to σ H fun o H1 => ti σ H1 fun i H2 => ts o i v H2 fun H3 => nx σ H3) : gSub to ti ts v σ H nx := h
theorem go_setL {QH : Hp → Prop} {k : Int} (h : H p = some (.lst xs)) (e : ixN xs.length k = some j) (q : QH (upd H p (.lst (xs.set j v)))) : rSetL (.ref p) (.int k) v H QH := ⟨p, xs, k, j, rfl, rfl, h, e, q⟩
theorem go_par (h : tA σ H fun vs H1 => gPar i j vs σ H1 nx) : tPar i j tA ⟨nx, rt, bk, ct⟩ σ H := h
theorem go_gpar (h : nx ((σ.set i (some x)).set j (some y)) H) : gPar i j [x, y] σ H nx := ⟨x, y, rfl, h⟩
theorem go_var (e : σ[i]? = some (some v)) (h : Q v H) : tVar i σ H Q := ⟨v, e, h⟩
theorem go_c (h : Q v H) : tC v σ H Q := h
theorem go_op (h : ta σ H fun x H1 => tb σ H1 fun y H2 => r x y H2 Q) : tOp r ta tb σ H Q := h
theorem go_i0 {g : Int → Int → V} (h : Q (g n m) H) : rI0 g (.int n) (.int m) H Q := ⟨n, m, rfl, rfl, h⟩
theorem go_i {C : Int → Int → Prop} {g : Int → Int → V} (hc : C n m) (h : Q (g n m) H) : rI C g (.int n) (.int m) H Q := ⟨n, m, rfl, rfl, hc, h⟩
theorem go_eq (e : scal x y = true) (h : Q (.bl (decide (x = y))) H) : rEq x y H Q := ⟨e, h⟩
theorem go_ne (e : scal x y = true) (h : Q (.bl (!decide (x = y))) H) : rNe x y H Q := ⟨e, h⟩
theorem go_test (h : te σ H fun x H1 => qB x H1 QB) : tTest te σ H QB := h
theorem go_testB (h : te σ H fun x H1 => qB x H1 QB) : tB te σ H QB := h
theorem go_qb (h : QB b H) : qB (.bl b) H QB := ⟨b, rfl, h⟩
theorem go_and (h : tt σ H fun c H1 => if c = true then tt' σ H1 QB else QB false H1) : tAnd tt tt' σ H QB := h
theorem go_or (h : tt σ H fun c H1 => if c = true then QB true H1 else tt' σ H1 QB) : tOr tt tt' σ H QB := h
theorem go_not (h : tt σ H fun c H1 => QB (!c) H1) : tNot tt σ H QB := h
theorem go_andV (h : ta σ H fun x H1 => qB x H1 fun c H2 => if c = true then tb σ H2 Q else Q (.bl false) H2) : tAndV ta tb σ H Q := h
theorem go_orV (h : ta σ H fun x H1 => qB x H1 fun c H2 => if c = true then Q (.bl true) H2 else tb σ H2 Q) : tOrV ta tb σ H Q := h
theorem go_notV (h : ta σ H fun x H1 => qB x H1 fun c H2 => Q (.bl (!c)) H2) : tNotV ta σ H Q := h
theorem go_if (h : tt σ H fun c H1 => if c = true then ta σ H1 Q else tb σ H1 Q) : tIf tt ta tb σ H Q := h
theorem go_iteD {c A B : Prop} [Decidable c] (h1 : c → A) (h2 : ¬ c → B) : if decide c = true then A else B := by
  by_cases h : c
  · rw [if_pos (decide_eq_true h)]; exact h1 h
  · rw [if_neg (by simp [h])]; exact h2 h
theorem go_iteN {c A B : Prop} [Decidable c] (h1 : ¬ c → A) (h2 : c → B) : if (!decide c) = true then A else B := by
  by_cases h : c
  · rw [if_neg (by simp [h])]; exact h2 h
  · rw [if_pos (by simp [h])]; exact h1 h
theorem go_iteT {A B : Prop} (h : A) : if true = true then A else B := iteT h
theorem go_iteF {A B : Prop} (h : B) : if false = true then A else B := iteF h
theorem go_tup (h : tA σ H fun xs H1 => qTup xs H1 Q) : tTup tA σ H Q := h
theorem go_lst (h : tA σ H fun xs H1 => qLst xs H1 Q) : tLst tA σ H Q := h
theorem go_qtup (hl : xs.length ≤ sizeLine) (h : ∀ p, H p = none → Q (.ref p) (upd H p (.tup xs))) : qTup xs H Q := ⟨hl, h⟩
theorem go_qlst (hl : xs.length ≤ sizeLine) (h : ∀ p, H p = none → Q (.ref p) (upd H p (.lst xs))) : qLst xs H Q := ⟨hl, h⟩
theorem go_cons {QA : List V → Hp → Prop} (h : ta σ H fun x H1 => tA σ H1 fun xs H2 => QA (x :: xs) H2) : tCons ta tA σ H QA := h
theorem go_nil {QA : List V → Hp → Prop} (h : QA [] H) : tNil σ H QA := h
theorem go_callC {sp : Sp} (h : tA σ H fun vs H1 => sp vs H1 Q E0) : tCallC sp tA σ H Q := h
theorem go_cb {rr : List V → Hp → VK → Prop} (h : tA σ H fun vs H1 => rr vs H1 Q) : tCB rr tA σ H Q := h
theorem go_un {rr : V → Hp → VK → Prop} (h : ta σ H fun x H1 => rr x H1 Q) : tUn rr ta σ H Q := h
theorem go_u {g : Int → V} (h : Q (g n) H) : rU g (.int n) H Q := ⟨n, rfl, h⟩
theorem go_ixL (h : H p = some (.lst xs)) (e : atI xs n = some v) (q : Q v H) : rIxL K (.ref p) (.int n) H Q := ⟨p, xs, n, v, rfl, rfl, SqL.of h, e, q⟩
theorem go_ixLs (h : SqL K H p xs) (e : atI xs n = some v) (q : Q v H) : rIxL K (.ref p) (.int n) H Q := ⟨p, xs, n, v, rfl, rfl, h, e, q⟩
theorem go_ixT (h : H p = some (.tup xs)) (e : atI xs n = some v) (q : Q v H) : rIxT K (.ref p) (.int n) H Q := ⟨p, xs, n, v, rfl, rfl, SqT.of h, e, q⟩
end
def rLen (K : PySem.W.Frag) : List V → Hp → VK → Prop := fun xs H Q => ∃ p ys, xs = [.ref p] ∧ (SqL K H p ys ∨ SqT K H p ys) ∧ Q (.int ys.length) H
def rInt1 : List V → Hp → VK → Prop := fun xs H Q => (∃ i, xs = [.int i] ∧ Q (.int i) H) ∨ ∃ k, xs = [.bl k] ∧ Q (.int (if k then 1 else 0)) H
def rMin2 : List V → Hp → VK → Prop := fun xs H Q => ∃ i j, xs = [.int i, .int j] ∧ Q (.int (min i j)) H
def rMax2 : List V → Hp → VK → Prop := fun xs H Q => ∃ i j, xs = [.int i, .int j] ∧ Q (.int (max i j)) H
def rTupleOf (K : PySem.W.Frag) : List V → Hp → VK → Prop := fun xs H Q => ∃ p ys, xs = [.ref p] ∧ ((SqL K H p ys ∧ ∀ l, H l = none → Q (.ref l) (upd H l (.tup ys))) ∨ (SqT K H p ys ∧ Q (.ref p) H))
def rIsinst (K : PySem.W.Frag) : List V → Hp → VK → Prop := fun xs H Q => ∃ x T t b, xs = [x, .ty T] ∧ TyOf K H x t ∧ PySem.W.kitOne K t (.type T) = some b ∧ Q (.bl b) H
section
variable {X : Cx}
theorem c_len : CallR X (.builtin "len") (rLen X.K) := call_len_seq
theorem c_int : CallR X (.type "int") rInt1 := call_int1
theorem c_tuple : CallR X (.type "tuple") (rTupleOf X.K) := call_tuple_of
theorem c_min (hc : X.calm = true) : CallR X (.builtin "min") rMin2 := by
  intro pins s σ H xs us Q I r h
  obtain ⟨i, j, rfl, q⟩ := h
  refine call_min2 hc pins s σ H _ us Q I r ⟨i, j, rfl, ?_⟩
  have e : (if j < i then j else i) = min i j := by rw [Int.min_def]; split <;> split <;> omega
  rw [e]; exact q
theorem c_max (hc : X.calm = true) : CallR X (.builtin "max") rMax2 := by
  intro pins s σ H xs us Q I r h
  obtain ⟨i, j, rfl, q⟩ := h
  refine call_max2 hc pins s σ H _ us Q I r ⟨i, j, rfl, ?_⟩
  have e : (if j > i then j else i) = max i j := by rw [Int.max_def]; split <;> split <;> omega
  rw [e]; exact q
theorem c_isinst : CallR X (.builtin "isinstance") (rIsinst X.K) := by
  intro pins s σ H xs us Q I r h
  obtain ⟨x, T, t, b, rfl, ty, e, q⟩ := h
  obtain ⟨u, v, rfl, ru, rv⟩ := r.two
  cases (show v = Value.type T from rv)
  exact isinst_ok I ru ty e fun tk => ⟨.bl b, H, I.tok _, rfl, q⟩
end
section
variable {H : Hp} {Q : VK} {K : PySem.W.Frag} {p : Addr} {xs ys : List V} {n m : Int} {b : Bool} {x : V} {T : String} {t : Value}
theorem go_lenL (h : H p = some (.lst ys)) (q : Q (.int ys.length) H) : rLen K [.ref p] H Q := ⟨p, ys, rfl, .inl (SqL.of h), q⟩
theorem go_lenT (h : H p = some (.tup ys)) (q : Q (.int ys.length) H) : rLen K [.ref p] H Q := ⟨p, ys, rfl, .inr (SqT.of h), q⟩
theorem go_lenLs (h : SqL K H p ys) (q : Q (.int ys.length) H) : rLen K [.ref p] H Q := ⟨p, ys, rfl, .inl h, q⟩
theorem go_int (q : Q (.int n) H) : rInt1 [.int n] H Q := .inl ⟨n, rfl, q⟩
theorem go_intB (q : Q (.int (if b then 1 else 0)) H) : rInt1 [.bl b] H Q := .inr ⟨b, rfl, q⟩
theorem go_min (q : Q (.int (min n m)) H) : rMin2 [.int n, .int m] H Q := ⟨n, m, rfl, q⟩
theorem go_max (q : Q (.int (max n m)) H) : rMax2 [.int n, .int m] H Q := ⟨n, m, rfl, q⟩
theorem go_isinst (ty : TyOf K H x t) (e : PySem.W.kitOne K t (.type T) = some b) (q : Q (.bl b) H) : rIsinst K [x, .ty T] H Q := ⟨x, T, t, b, rfl, ty, e, q⟩
theorem go_tupleL (h : H p = some (.lst ys)) (q : ∀ l, H l = none → Q (.ref l) (upd H l (.tup ys))) : rTupleOf K [.ref p] H Q := ⟨p, ys, rfl, .inl ⟨SqL.of h, q⟩⟩
end
def kitC (t T : String) : Option Bool := if ((Value.type t) == (Value.type T)) = true then some true else if PySem.W.kitMeta T = true then (fastBuiltinMro t).map (·.contains (.type T)) else none
theorem kit_c (K : PySem.W.Frag) (t T : String) : PySem.W.kitOne K (.type t) (.type T) = kitC t T := rfl
section
variable {H : Hp} {Q : VK} {K : PySem.W.Frag} {p : Addr} {xs : List V} {n : Int} {b : Bool} {x : Str}
theorem kc_non_int : kitC "NoneType" "int" = some false := by decide +kernel
theorem go_is_non_int (q : Q (.bl false) H) : rIsinst K [.non, .ty "int"] H Q := go_isinst (.non) ((kit_c K "NoneType" "int").trans kc_non_int) q
theorem kc_non_bool : kitC "NoneType" "bool" = some false := by decide +kernel
theorem go_is_non_bool (q : Q (.bl false) H) : rIsinst K [.non, .ty "bool"] H Q := go_isinst (.non) ((kit_c K "NoneType" "bool").trans kc_non_bool) q
theorem kc_non_str : kitC "NoneType" "str" = some false := by decide +kernel
theorem go_is_non_str (q : Q (.bl false) H) : rIsinst K [.non, .ty "str"] H Q := go_isinst (.non) ((kit_c K "NoneType" "str").trans kc_non_str) q
theorem kc_non_tuple : kitC "NoneType" "tuple" = some false := by decide +kernel
theorem go_is_non_tuple (q : Q (.bl false) H) : rIsinst K [.non, .ty "tuple"] H Q := go_isinst (.non) ((kit_c K "NoneType" "tuple").trans kc_non_tuple) q
theorem kc_non_list : kitC "NoneType" "list" = some false := by decide +kernel
theorem go_is_non_list (q : Q (.bl false) H) : rIsinst K [.non, .ty "list"] H Q := go_isinst (.non) ((kit_c K "NoneType" "list").trans kc_non_list) q
theorem kc_bl_int : kitC "bool" "int" = some true := by decide +kernel
theorem go_is_bl_int (q : Q (.bl true) H) : rIsinst K [.bl b, .ty "int"] H Q := go_isinst (.bl b) ((kit_c K "bool" "int").trans kc_bl_int) q
theorem kc_bl_bool : kitC "bool" "bool" = some true := by decide +kernel
theorem go_is_bl_bool (q : Q (.bl true) H) : rIsinst K [.bl b, .ty "bool"] H Q := go_isinst (.bl b) ((kit_c K "bool" "bool").trans kc_bl_bool) q
theorem kc_bl_str : kitC "bool" "str" = some false := by decide +kernel
theorem go_is_bl_str (q : Q (.bl false) H) : rIsinst K [.bl b, .ty "str"] H Q := go_isinst (.bl b) ((kit_c K "bool" "str").trans kc_bl_str) q
theorem kc_bl_tuple : kitC "bool" "tuple" = some false := by decide +kernel
theorem go_is_bl_tuple (q : Q (.bl false) H) : rIsinst K [.bl b, .ty "tuple"] H Q := go_isinst (.bl b) ((kit_c K "bool" "tuple").trans kc_bl_tuple) q
theorem kc_bl_list : kitC "bool" "list" = some false := by decide +kernel
theorem go_is_bl_list (q : Q (.bl false) H) : rIsinst K [.bl b, .ty "list"] H Q := go_isinst (.bl b) ((kit_c K "bool" "list").trans kc_bl_list) q
theorem kc_int_int : kitC "int" "int" = some true := by decide +kernel
theorem go_is_int_int (q : Q (.bl true) H) : rIsinst K [.int n, .ty "int"] H Q := go_isinst (.int n) ((kit_c K "int" "int").trans kc_int_int) q
theorem kc_int_bool : kitC "int" "bool" = some false := by decide +kernel
theorem go_is_int_bool (q : Q (.bl false) H) : rIsinst K [.int n, .ty "bool"] H Q := go_isinst (.int n) ((kit_c K "int" "bool").trans kc_int_bool) q
theorem kc_int_str : kitC "int" "str" = some false := by decide +kernel
theorem go_is_int_str (q : Q (.bl false) H) : rIsinst K [.int n, .ty "str"] H Q := go_isinst (.int n) ((kit_c K "int" "str").trans kc_int_str) q
theorem kc_int_tuple : kitC "int" "tuple" = some false := by decide +kernel
theorem go_is_int_tuple (q : Q (.bl false) H) : rIsinst K [.int n, .ty "tuple"] H Q := go_isinst (.int n) ((kit_c K "int" "tuple").trans kc_int_tuple) q
theorem kc_int_list : kitC "int" "list" = some false := by decide +kernel
theorem go_is_int_list (q : Q (.bl false) H) : rIsinst K [.int n, .ty "list"] H Q := go_isinst (.int n) ((kit_c K "int" "list").trans kc_int_list) q
theorem kc_str_int : kitC "str" "int" = some false := by decide +kernel
theorem go_is_str_int (q : Q (.bl false) H) : rIsinst K [.str x, .ty "int"] H Q := go_isinst (.str x) ((kit_c K "str" "int").trans kc_str_int) q
theorem kc_str_bool : kitC "str" "bool" = some false := by decide +kernel
theorem go_is_str_bool (q : Q (.bl false) H) : rIsinst K [.str x, .ty "bool"] H Q := go_isinst (.str x) ((kit_c K "str" "bool").trans kc_str_bool) q
theorem kc_str_str : kitC "str" "str" = some true := by decide +kernel
theorem go_is_str_str (q : Q (.bl true) H) : rIsinst K [.str x, .ty "str"] H Q := go_isinst (.str x) ((kit_c K "str" "str").trans kc_str_str) q
theorem kc_str_tuple : kitC "str" "tuple" = some false := by decide +kernel
theorem go_is_str_tuple (q : Q (.bl false) H) : rIsinst K [.str x, .ty "tuple"] H Q := go_isinst (.str x) ((kit_c K "str" "tuple").trans kc_str_tuple) q
theorem kc_str_list : kitC "str" "list" = some false := by decide +kernel
theorem go_is_str_list (q : Q (.bl false) H) : rIsinst K [.str x, .ty "list"] H Q := go_isinst (.str x) ((kit_c K "str" "list").trans kc_str_list) q
theorem kc_lst_int : kitC "list" "int" = some false := by decide +kernel
theorem go_is_lst_int (h : H p = some (.lst xs)) (q : Q (.bl false) H) : rIsinst K [.ref p, .ty "int"] H Q := go_isinst (.lst h) ((kit_c K "list" "int").trans kc_lst_int) q
theorem kc_lst_bool : kitC "list" "bool" = some false := by decide +kernel
theorem go_is_lst_bool (h : H p = some (.lst xs)) (q : Q (.bl false) H) : rIsinst K [.ref p, .ty "bool"] H Q := go_isinst (.lst h) ((kit_c K "list" "bool").trans kc_lst_bool) q
theorem kc_lst_str : kitC "list" "str" = some false := by decide +kernel
theorem go_is_lst_str (h : H p = some (.lst xs)) (q : Q (.bl false) H) : rIsinst K [.ref p, .ty "str"] H Q := go_isinst (.lst h) ((kit_c K "list" "str").trans kc_lst_str) q
theorem kc_lst_tuple : kitC "list" "tuple" = some false := by decide +kernel
theorem go_is_lst_tuple (h : H p = some (.lst xs)) (q : Q (.bl false) H) : rIsinst K [.ref p, .ty "tuple"] H Q := go_isinst (.lst h) ((kit_c K "list" "tuple").trans kc_lst_tuple) q
theorem kc_lst_list : kitC "list" "list" = some true := by decide +kernel
theorem go_is_lst_list (h : H p = some (.lst xs)) (q : Q (.bl true) H) : rIsinst K [.ref p, .ty "list"] H Q := go_isinst (.lst h) ((kit_c K "list" "list").trans kc_lst_list) q
theorem kc_tup_int : kitC "tuple" "int" = some false := by decide +kernel
theorem go_is_tup_int (h : H p = some (.tup xs)) (q : Q (.bl false) H) : rIsinst K [.ref p, .ty "int"] H Q := go_isinst (.tup h) ((kit_c K "tuple" "int").trans kc_tup_int) q
theorem kc_tup_bool : kitC "tuple" "bool" = some false := by decide +kernel
theorem go_is_tup_bool (h : H p = some (.tup xs)) (q : Q (.bl false) H) : rIsinst K [.ref p, .ty "bool"] H Q := go_isinst (.tup h) ((kit_c K "tuple" "bool").trans kc_tup_bool) q
theorem kc_tup_str : kitC "tuple" "str" = some false := by decide +kernel
theorem go_is_tup_str (h : H p = some (.tup xs)) (q : Q (.bl false) H) : rIsinst K [.ref p, .ty "str"] H Q := go_isinst (.tup h) ((kit_c K "tuple" "str").trans kc_tup_str) q
theorem kc_tup_tuple : kitC "tuple" "tuple" = some true := by decide +kernel
theorem go_is_tup_tuple (h : H p = some (.tup xs)) (q : Q (.bl true) H) : rIsinst K [.ref p, .ty "tuple"] H Q := go_isinst (.tup h) ((kit_c K "tuple" "tuple").trans kc_tup_tuple) q
theorem kc_tup_list : kitC "tuple" "list" = some false := by decide +kernel
theorem go_is_tup_list (h : H p = some (.tup xs)) (q : Q (.bl false) H) : rIsinst K [.ref p, .ty "list"] H Q := go_isinst (.tup h) ((kit_c K "tuple" "list").trans kc_tup_list) q
end
def rIsN : R2 := fun x y H Q => y = .non ∧ Q (.bl (decide (x = .non))) H
def rNotN : R2 := fun x y H Q => y = .non ∧ Q (.bl (!decide (x = .non))) H
theorem o_isN {X : Cx} : OpR X (compareOp .Is) rIsN := op_isN
theorem o_notN {X : Cx} : OpR X (compareOp .IsNot) rNotN := op_notN
section
variable {H : Hp} {Q : VK} {p : Addr} {n m : Int} {b b' : Bool} {x y : Str} {v : V}
theorem go_isN_non (q : Q (.bl true) H) : rIsN .non .non H Q := ⟨rfl, q⟩
theorem go_isN_int (q : Q (.bl false) H) : rIsN (.int n) .non H Q := ⟨rfl, q⟩
theorem go_isN_str (q : Q (.bl false) H) : rIsN (.str x) .non H Q := ⟨rfl, q⟩
theorem go_isN_bl (q : Q (.bl false) H) : rIsN (.bl b) .non H Q := ⟨rfl, q⟩
theorem go_isN_ref (q : Q (.bl false) H) : rIsN (.ref p) .non H Q := ⟨rfl, q⟩
theorem go_notN_non (q : Q (.bl false) H) : rNotN .non .non H Q := ⟨rfl, q⟩
theorem go_notN_int (q : Q (.bl true) H) : rNotN (.int n) .non H Q := ⟨rfl, q⟩
theorem go_notN_str (q : Q (.bl true) H) : rNotN (.str x) .non H Q := ⟨rfl, q⟩
theorem go_notN_bl (q : Q (.bl true) H) : rNotN (.bl b) .non H Q := ⟨rfl, q⟩
theorem go_notN_ref (q : Q (.bl true) H) : rNotN (.ref p) .non H Q := ⟨rfl, q⟩
theorem dcI : decide (V.int n = V.int m) = decide (n = m) := by by_cases h : n = m <;> simp [h]
theorem dcS : decide (V.str x = V.str y) = decide (x = y) := by by_cases h : x = y <;> simp [h]
theorem dcB : decide (V.bl b = V.bl b') = decide (b = b') := by by_cases h : b = b' <;> simp [h]
theorem go_eqI (q : Q (.bl (decide (n = m))) H) : rEq (.int n) (.int m) H Q := ⟨rfl, by rw [dcI]; exact q⟩
theorem go_eqS (q : Q (.bl (decide (x = y))) H) : rEq (.str x) (.str y) H Q := ⟨rfl, by rw [dcS]; exact q⟩
theorem go_eqB (q : Q (.bl (decide (b = b'))) H) : rEq (.bl b) (.bl b') H Q := ⟨rfl, by rw [dcB]; exact q⟩
theorem go_neI (q : Q (.bl (!decide (n = m))) H) : rNe (.int n) (.int m) H Q := ⟨rfl, by rw [dcI]; exact q⟩
theorem go_neS (q : Q (.bl (!decide (x = y))) H) : rNe (.str x) (.str y) H Q := ⟨rfl, by rw [dcS]; exact q⟩
theorem go_neB (q : Q (.bl (!decide (b = b'))) H) : rNe (.bl b) (.bl b') H Q := ⟨rfl, by rw [dcB]; exact q⟩
end
section
variable {A B c : Prop} {b : Bool}
theorem go_iteNT [Decidable c] (hc : c) (h : B) : if (!decide c) = true then A else B := iteNS hc h
theorem go_iteNF [Decidable c] (hc : ¬ c) (h : A) : if (!decide c) = true then A else B := by rw [if_pos (by simp [hc])]; exact h
theorem go_iteDT [Decidable c] (hc : c) (h : A) : if decide c = true then A else B := by rw [if_pos (by simp [hc])]; exact h
theorem go_iteDF [Decidable c] (hc : ¬ c) (h : B) : if decide c = true then A else B := by rw [if_neg (by simp [hc])]; exact h
theorem go_iteNt (h : B) : if (!true) = true then A else B := iteF h
theorem go_iteNf (h : A) : if (!false) = true then A else B := iteT h
theorem go_iteNN {c : Bool} (h : if c = true then A else B) : if (!(!c)) = true then A else B := by rw [Bool.not_not]; exact h
theorem go_iteBT (e : b = true) (h : A) : if b = true then A else B := by rw [if_pos e]; exact h
theorem go_iteBF (e : b = false) (h : B) : if b = true then A else B := by rw [e]; exact iteF h
end
section
variable {H : Hp} {Q : VK} {K : PySem.W.Frag} {p : Addr} {xs : List V} {n : Int} {v : V}
theorem go_ixAL (h : H p = some (.lst xs)) (e : atI xs n = some v) (q : Q v H) : rIx K (.ref p) (.int n) H Q := .inl (go_ixL h e q)
theorem go_ixAT (h : H p = some (.tup xs)) (e : atI xs n = some v) (q : Q v H) : rIx K (.ref p) (.int n) H Q := .inr (.inl (go_ixT h e q))
theorem atI_0n {xs : List V} {i : Nat} {v : V} (h : xs[i]? = some v) : atI xs (0 + (i : Int)) = some v := by
  rw [Int.zero_add]; exact atI_nat h
end
section
variable {σ : St} {H : Hp} {Q : VK} {nx : St → Hp → Prop} {K : PySem.W.Frag} {p p' : Addr} {xs ys : List V} {n : Nat} {v x : V} {t : TG} {u : TGs} {te : TE} {tl th : TO} {b : Bool} {r : V → Option Int → Option Int → Hp → VK → Prop} {lo hi : Option Int} {QO : Option Int → Hp → Prop} {i : Int} {rt : VK} {bk ct : St → Hp → Prop} {tA : TA}
theorem go_gtup (h : H p = some (.tup xs)) (e : xs.length = n) (q : u xs σ H nx) : gTup K n u (.ref p) σ H nx := ⟨p, xs, rfl, SqT.of h, e, q⟩
theorem go_gcons (q : t v σ H fun σ' H' => u xs σ' H' nx) : gCons t u (v :: xs) σ H nx := ⟨v, xs, rfl, q⟩
theorem go_gnil (q : nx σ H) : gNil [] σ H nx := ⟨rfl, q⟩
theorem go_sl (h : te σ H fun x H1 => tl σ H1 fun l H2 => th σ H2 fun u H3 => r x l u H3 Q) : tSl r te tl th σ H Q := h
theorem go_nopart (h : QO none H) : tNoPart σ H QO := h
theorem go_part (h : te σ H fun x H1 => qI x H1 QO) : tPart te σ H QO := h
theorem go_qI (h : QO (some i) H) : qI (.int i) H QO := ⟨i, rfl, h⟩
theorem go_slT (h : H p = some (.tup xs)) (e : ¬ (HT.sIx xs.length 0 lo = 0 ∧ HT.sIx xs.length xs.length hi = xs.length)) (q : ∀ p, H p = none → Q (.ref p) (upd H p (.tup (cutV xs lo hi)))) : rSlT K (.ref p) lo hi H Q := ⟨p, xs, rfl, SqT.of h, e, q⟩
theorem go_catT (h : H p = some (.tup xs)) (h' : H p' = some (.tup ys)) (e : xs ≠ []) (e' : ys ≠ []) (l : xs.length + ys.length ≤ sizeLine) (q : ∀ a, H a = none → Q (.ref a) (upd H a (.tup (xs ++ ys)))) : rCatT K (.ref p) (.ref p') H Q :=
  ⟨p, p', xs, ys, rfl, rfl, SqT.of h, SqT.of h', e, l, fun z => absurd z e', fun _ => q⟩
theorem go_cat (h : H p = some (.lst xs)) (h' : H p' = some (.lst ys)) (l : xs.length + ys.length ≤ sizeLine) (q : ∀ a, H a = none → Q (.ref a) (upd H a (.lst (xs ++ ys)))) : rCat (.ref p) (.ref p') H Q := ⟨p, p', xs, ys, rfl, rfl, h, h', l, q⟩
theorem go_inT (h : H p = some (.tup xs)) (fx : flatV x = true) (fs : xs.all flatV = true) (q : Q (.bl (inV x xs)) H) : rIn K false x (.ref p) H Q := ⟨p, xs, rfl, .inr (SqT.of h), fx, fs, q⟩
theorem go_notInT (h : H p = some (.tup xs)) (fx : flatV x = true) (fs : xs.all flatV = true) (q : Q (.bl (!inV x xs)) H) : rIn K true x (.ref p) H Q := ⟨p, xs, rfl, .inr (SqT.of h), fx, fs, q⟩
end
section
variable {X : Cx} (K : PySem.W.Frag)
theorem kIxL (e : X.K = K := by rfl) : IxR X (rIxL K) := e ▸ ix_list
theorem kIxT (e : X.K = K := by rfl) : IxR X (rIxT K) := e ▸ ix_tup
theorem kIx (e : X.K = K := by rfl) : IxR X (rIx K) := e ▸ ix_seq
theorem kSlT (e : X.K = K := by rfl) : SlR X (rSlT K) := e ▸ sl_tup
theorem kSlL (e : X.K = K := by rfl) : SlR X (rSlL K) := e ▸ sl_list
theorem kIn (e : X.K = K := by rfl) : OpR X (compareOp .In) (rIn K false) := e ▸ op_in_seq
theorem kNotIn (e : X.K = K := by rfl) : OpR X (compareOp .NotIn) (rIn K true) := e ▸ op_notIn_seq
theorem kCatT (e : X.K = K := by rfl) : OpR X (binaryOp .Add) (rCatT K) := e ▸ op_catT
theorem kLen (e : X.K = K := by rfl) : CallR X (.builtin "len") (rLen K) := e ▸ c_len
theorem kIsinst (e : X.K = K := by rfl) : CallR X (.builtin "isinstance") (rIsinst K) := e ▸ c_isinst
theorem kTuple (e : X.K = K := by rfl) : CallR X (.type "tuple") (rTupleOf K) := e ▸ c_tuple
theorem kPiL {tg l : Expr} {tl : TE} (hl : PE X l tl) (e : X.K = K := by rfl) : PI X tg l (iList K tl) := e ▸ pi_list hl
theorem kPiT {tg l : Expr} {tl : TE} (hl : PE X l tl) (e : X.K = K := by rfl) : PI X tg l (iTup K tl) := e ▸ pi_tup hl
theorem kPgT {es : List Expr} {k : Nat} {t : TGs} {n : Nat} {pos : Pos} (hc : X.calm = true) (h : PGs X es t)
    (hn : (assignEach es X.env).length = n := by rfl) (hst : (assignEach es X.env).findIdx? (·.1) = none := by rfl) (e : X.K = K := by rfl) : PG X (.Tuple es k pos) (gTup K n t) := e ▸ pg_tup hc h hn hst
end
def qBM (K : PySem.W.Frag) (T : String) (r : V → List V → Hp → VK → Prop) (t : TA) (x : V) (σ : St) (H1 : Hp) (Q : VK) : Prop := tyV K T x H1 ∧ t σ H1 fun xs H2 => r x xs H2 Q
def qBM0 (K : PySem.W.Frag) (T : String) (r : V → List V → Hp → VK → Prop) (x : V) (H1 : Hp) (Q : VK) : Prop := tyV K T x H1 ∧ r x [] H1 Q
section
variable {σ : St} {H : Hp} {Q : VK} {K : PySem.W.Frag} {p : Addr} {xs ys : List V} {y : V} {to : TE} {t : TA} {T : String} {r : V → List V → Hp → VK → Prop}
theorem go_bm (h : to σ H fun x H1 => qBM K T r t x σ H1 Q) : tBM K T r to t σ H Q := h
theorem go_bm0 (h : to σ H fun x H1 => qBM0 K T r x H1 Q) : tBM0 K T r to σ H Q := h
theorem go_qbm (h : H p = some (.lst xs)) (q : t σ H fun vs H2 => r (.ref p) vs H2 Q) : qBM K "list" r t (.ref p) σ H Q := ⟨.inl ⟨rfl, _, SqL.of h⟩, q⟩
theorem go_qbm0 (h : H p = some (.lst xs)) (q : r (.ref p) [] H Q) : qBM0 K "list" r (.ref p) H Q := ⟨.inl ⟨rfl, _, SqL.of h⟩, q⟩
theorem go_append (h : H p = some (.lst xs)) (l : xs.length < sizeLine) (q : Q .non (upd H p (.lst (xs ++ [y])))) : rAppend (.ref p) [y] H Q := ⟨p, xs, y, rfl, rfl, h, l, q⟩
end
def qDG (x y : V) (H2 : Hp) (Q : VK) : Prop := ∃ a v, x = .ref a ∧ DGet H2 a y (some v) ∧ Q v H2
def qDP (x y v : V) (H3 : Hp) (Q : Hp → Prop) : Prop := ∃ a H4, x = .ref a ∧ DPut H3 a y v H4 ∧ Q H4
def rSetD : TSet := fun o i v H Q => qDP o i v H Q
section
variable {X : Cx} {pins : List (Addr × Obj)} {σ : St} {H : Hp} {s : Shared} {a b : Addr} {kvs more : List (Key × V)} {A : Around} {E : Value → Shared → Prop}
end
section
variable {σ : St} {H : Hp} {Q : VK} {nx : St → Hp → Prop} {rt : VK} {bk ct : St → Hp → Prop} {td ty tv : TE} {p p' : Addr} {kvs kvs' more : List (Key × V)} {k : Str} {v x y : V} {QH : Hp → Prop} {trs : List (TE × TE)} {ps : List (V × V)} {QP : List (V × V) → Hp → Prop} {K : PySem.W.Frag} {t : TA} {r : V → List V → Hp → VK → Prop}
theorem go_dget (h : td σ H fun x H1 => ty σ H1 fun y H2 => qDG x y H2 Q) : tDGet td ty σ H Q := h
theorem go_dput (h : tv σ H fun v H1 => td σ H1 fun x H2 => ty σ H2 fun y H3 => qDP x y v H3 (nx σ)) : sDPut td ty tv ⟨nx, rt, bk, ct⟩ σ H := h
theorem go_setD (h : qDP x y v H QH) : rSetD x y v H QH := h
theorem go_pnil (h : QP [] H) : tPairs [] σ H QP := h
theorem go_pcons (h : td σ H fun x H1 => tv σ H1 fun y H2 => tPairs trs σ H2 fun ps H3 => QP ((x, y) :: ps) H3) : tPairs ((td, tv) :: trs) σ H QP := h
end
section
variable {prog : Program} {w : World} {A : Around} {E : Value → Shared → Prop}
end
def gLst (n : Nat) (t : TGs) : TG := fun v σ H Q => ∃ a xs, v = .ref a ∧ H a = some (.lst xs) ∧ xs.length = n ∧ t xs σ H Q
theorem go_glst {σ : St} {H : Hp} {nx : St → Hp → Prop} {p : Addr} {xs : List V} {n : Nat} {u : TGs} (h : H p = some (.lst xs)) (e : xs.length = n) (q : u xs σ H nx) : gLst n u (.ref p) σ H nx := ⟨p, xs, rfl, h, e, q⟩
def forQ (J : It) (g : TG) (tb : TS) (D : Ends) (σ : St) (H1 : Hp) : Prop := ∃ W : Nat → Nat → St → Hp → Prop, (∃ m, W 0 m σ H1) ∧ ∀ i m σ H, W i m σ H →
  (J.stop i H ∧ D.nx σ H) ∨ (J.go i H ∧ ∃ N : St → Hp → Prop, (∀ σ' H', N σ' H' → ∃ m', m' < m ∧ W (i + 1) m' σ' H') ∧ ∀ x H', J.yld i H x H' → g x σ H' fun σ2 H2 => tb { D with nx := N, ct := N, bk := D.nx } σ2 H2)
def qRng1 (vs : List V) (H1 : Hp) (R : It → Hp → Prop) : Prop := ∃ j : Int, vs = [.int j] ∧ -(2 ^ 62) ≤ j ∧ j < 2 ^ 62 ∧ R (Itr 0 j.toNat) H1
def qItL (K : PySem.W.Frag) (x : V) (H1 : Hp) (R : It → Hp → Prop) : Prop := ∃ a, x = .ref a ∧ (∃ xs, SqL K H1 a xs) ∧ R (Itl K a) H1
def qItT (K : PySem.W.Frag) (x : V) (H1 : Hp) (R : It → Hp → Prop) : Prop := ∃ a, x = .ref a ∧ (∃ xs, SqT K H1 a xs) ∧ R (Itt K a) H1
def whQ (Pv : St → Hp → Prop) (μ : St → Hp → Nat) (m : Nat) (tb : TS) (D : Ends) (σ : St) (b : Bool) (H1 : Hp) : Prop :=
  if b = true then ∃ N : St → Hp → Prop, (∀ σ' H', N σ' H' → ∃ m', m' < m ∧ (m' = μ σ' H' ∧ Pv σ' H')) ∧ tb { D with nx := N, ct := N, bk := D.nx } σ H1 else D.nx σ H1
def lcA (D : Addr) (y : V) (H4 : Hp) (N : Hp → Prop) : Prop := ∃ acc, H4 D = some (.lst acc) ∧ acc.length < sizeLine ∧ N (upd H4 D (.lst (acc ++ [y])))
def lcQ (J : It) (g : TG) (tt : TT) (te : TE) (vs : List Nat) (σ : St) (H1 : Hp) (Q : VK) : Prop := ∀ D, H1 D = none → ∃ W : Nat → Nat → Hp → Prop, (∃ m, W 0 m (upd H1 D (.lst []))) ∧ ∀ i m H, W i m H →
  (J.stop i H ∧ Q (.ref D) H) ∨ (J.go i H ∧ ∃ Nx : Hp → Prop, (∀ H', Nx H' → ∃ m', m' < m ∧ W (i + 1) m' H') ∧ ∀ x H', J.yld i H x H' → g x (wipe σ vs) H' fun σ2 H2 => wipe σ2 vs = wipe σ vs ∧ tt σ2 H2 fun b H3 =>
    if b = true then te σ2 H3 fun y H4 => lcA D y H4 Nx else Nx H3)
section
variable {σ : St} {H : Hp} {Q : VK} {nx : St → Hp → Prop} {rt : VK} {bk ct : St → Hp → Prop} {tb : TS} {c tt : TT} {te : TE} {tA : TA} {g : TG} {wi : TI} {R : It → Hp → Prop} {K : PySem.W.Frag} {p : Addr} {xs : List V} {n : Nat} {j lo : Int} {b : Bool} {vs : List Nat} {x : V}
theorem go_for (h : wi σ H fun J H1 => forQ J g tb ⟨nx, rt, bk, ct⟩ σ H1) : tFor wi g tb ⟨nx, rt, bk, ct⟩ σ H := h
theorem go_rng1 (h : tA σ H fun vs H1 => qRng1 vs H1 R) : iRng1 tA σ H R := h
theorem go_qrng1 (h1 : -(2 ^ 62) ≤ j) (h2 : j < 2 ^ 62) (h : R (Itr 0 j.toNat) H) : qRng1 [.int j] H R := ⟨j, rfl, h1, h2, h⟩
theorem go_iL (h : te σ H fun x H1 => qItL K x H1 R) : iList K te σ H R := h
theorem go_iT (h : te σ H fun x H1 => qItT K x H1 R) : iTup K te σ H R := h
theorem go_qiL (h : H p = some (.lst xs)) (q : R (Itl K p) H) : qItL K (.ref p) H R := ⟨p, rfl, ⟨xs, SqL.of h⟩, q⟩
theorem go_qiLs (h : SqL K H p xs) (q : R (Itl K p) H) : qItL K (.ref p) H R := ⟨p, rfl, ⟨xs, h⟩, q⟩
theorem go_qiT (h : H p = some (.tup xs)) (q : R (Itt K p) H) : qItT K (.ref p) H R := ⟨p, rfl, ⟨xs, SqT.of h⟩, q⟩
theorem fq_range (Pv : Nat → St → Hp → Prop) (h0 : Pv 0 σ H) (hs : ∀ (i : Nat) (σ : St) (H : Hp), i < n → Pv i σ H → g (.int (lo + i)) σ H fun σ2 H2 => tb ⟨Pv (i + 1), rt, nx, Pv (i + 1)⟩ σ2 H2) (hd : ∀ σ H, Pv n σ H → nx σ H) :
    forQ (Itr lo n) g tb ⟨nx, rt, bk, ct⟩ σ H := for_range (D := ⟨nx, rt, bk, ct⟩) Pv h0 hs hd
theorem fq_list (xs : List V) (Pv : Nat → St → Hp → Prop) (h0 : Pv 0 σ H) (hl : ∀ (i : Nat) (σ : St) (H : Hp), i ≤ xs.length → Pv i σ H → SqL K H p xs) (hs : ∀ (i : Nat) (x : V) (σ : St) (H : Hp), xs[i]? = some x → Pv i σ H → g x σ H fun σ2 H2 => tb ⟨Pv (i + 1), rt, nx, Pv (i + 1)⟩ σ2 H2) (hd : ∀ σ H, Pv xs.length σ H → nx σ H) :
    forQ (Itl K p) g tb ⟨nx, rt, bk, ct⟩ σ H := for_list (D := ⟨nx, rt, bk, ct⟩) Pv h0 hl hs hd
theorem fq_tup (xs : List V) (Pv : Nat → St → Hp → Prop) (h0 : Pv 0 σ H) (hl : ∀ (i : Nat) (σ : St) (H : Hp), i ≤ xs.length → Pv i σ H → SqT K H p xs) (hs : ∀ (i : Nat) (x : V) (σ : St) (H : Hp), xs[i]? = some x → Pv i σ H → g x σ H fun σ2 H2 => tb ⟨Pv (i + 1), rt, nx, Pv (i + 1)⟩ σ2 H2) (hd : ∀ σ H, Pv xs.length σ H → nx σ H) :
    forQ (Itt K p) g tb ⟨nx, rt, bk, ct⟩ σ H := for_tup (D := ⟨nx, rt, bk, ct⟩) Pv h0 hl hs hd
theorem go_whQ {Pv : St → Hp → Prop} {μ : St → Hp → Nat} {m : Nat} (h : if b = true then tb ⟨fun σ' H' => Pv σ' H' ∧ μ σ' H' < m, rt, nx, fun σ' H' => Pv σ' H' ∧ μ σ' H' < m⟩ σ H else nx σ H) : whQ Pv μ m tb ⟨nx, rt, bk, ct⟩ σ b H := by
  unfold whQ
  cases b with
  | true =>
    rw [if_pos rfl] at h ⊢
    exact ⟨_, fun σ' H' (z : Pv σ' H' ∧ μ σ' H' < m) => ⟨_, z.2, rfl, z.1⟩, h⟩
  | false =>
    rw [if_neg Bool.false_ne_true] at h ⊢
    exact h
theorem go_lc (h : wi σ H fun J H1 => lcQ J g tt te vs σ H1 Q) : tLc wi g tt te vs σ H Q := h
theorem go_yes {QB : Bool → Hp → Prop} (h : QB true H) : tYes σ H QB := h
theorem go_lcA {D : Addr} {acc : List V} {y : V} {N : Hp → Prop} (h : H D = some (.lst acc)) (l : acc.length < sizeLine) (q : N (upd H D (.lst (acc ++ [y])))) : lcA D y H N := ⟨acc, h, l, q⟩
theorem lq_range (h : ∀ D, H D = none → ∃ Pv : Nat → Hp → Prop, Pv 0 (upd H D (.lst [])) ∧ (∀ (i : Nat) (H : Hp), i < n → Pv i H → g (.int (lo + i)) (wipe σ vs) H fun σ2 H2 => wipe σ2 vs = wipe σ vs ∧ tt σ2 H2 fun b H3 =>
      if b = true then te σ2 H3 fun y H4 => lcA D y H4 (Pv (i + 1)) else Pv (i + 1) H3) ∧ ∀ H, Pv n H → Q (.ref D) H) : lcQ (Itr lo n) g tt te vs σ H Q := fun D hD => by
  obtain ⟨Pv, h0, hs, hd⟩ := h D hD
  exact lc_range (Qd := Q (.ref D)) Pv h0 hs hd
theorem lq_list (xs : List V) (h : ∀ D, H D = none → ∃ Pv : Nat → Hp → Prop, Pv 0 (upd H D (.lst [])) ∧ (∀ (i : Nat) (H : Hp), i ≤ xs.length → Pv i H → SqL K H p xs) ∧ (∀ (i : Nat) (x : V) (H : Hp), xs[i]? = some x → Pv i H → g x (wipe σ vs) H fun σ2 H2 => wipe σ2 vs = wipe σ vs ∧ tt σ2 H2 fun b H3 =>
      if b = true then te σ2 H3 fun y H4 => lcA D y H4 (Pv (i + 1)) else Pv (i + 1) H3) ∧ ∀ H, Pv xs.length H → Q (.ref D) H) : lcQ (Itl K p) g tt te vs σ H Q := fun D hD => by
  obtain ⟨Pv, h0, hl, hs, hd⟩ := h D hD
  exact lc_list (Qd := Q (.ref D)) Pv h0 hl hs hd
theorem lq_tup (xs : List V) (h : ∀ D, H D = none → ∃ Pv : Nat → Hp → Prop, Pv 0 (upd H D (.lst [])) ∧ (∀ (i : Nat) (H : Hp), i ≤ xs.length → Pv i H → SqT K H p xs) ∧ (∀ (i : Nat) (x : V) (H : Hp), xs[i]? = some x → Pv i H → g x (wipe σ vs) H fun σ2 H2 => wipe σ2 vs = wipe σ vs ∧ tt σ2 H2 fun b H3 =>
      if b = true then te σ2 H3 fun y H4 => lcA D y H4 (Pv (i + 1)) else Pv (i + 1) H3) ∧ ∀ H, Pv xs.length H → Q (.ref D) H) : lcQ (Itt K p) g tt te vs σ H Q := fun D hD => by
  obtain ⟨Pv, h0, hl, hs, hd⟩ := h D hD
  exact lc_tup (Qd := Q (.ref D)) Pv h0 hl hs hd
end
def Off (d : Addr) (H H' : Hp) : Prop := ∀ b o, H b = some o → b ≠ d → H' b = some o
theorem upd_new {H : Hp} {p a : Addr} {o u : HO} (hp : H p = none) (h : H a = some u) : upd H p o a = some u := by rw [upd_ne (ne_of_none h hp)]; exact h
theorem upd_oth {H : Hp} {p a : Addr} {o u : HO} (hp : a ≠ p) (h : H a = some u) : upd H p o a = some u := by rw [upd_ne hp]; exact h
theorem Same.get {H H' : Hp} {a : Addr} {o : HO} (s : Same H H') (h : H a = some o) : H' a = some o := s a o h
theorem Off.get {d : Addr} {H H' : Hp} {a : Addr} {o : HO} (s : Off d H H') (n : a ≠ d) (h : H a = some o) : H' a = some o := s a o h n
theorem Same.off {d : Addr} {H H' : Hp} (s : Same H H') : Off d H H' := fun b o h _ => s b o h
theorem Off.refl (d : Addr) (H : Hp) : Off d H H := fun _ _ h _ => h
theorem Off.trans {d : Addr} {H H1 H2 : Hp} (a : Off d H H1) (b : Off d H1 H2) : Off d H H2 := fun c o h n => b c o (a c o h n) n
theorem same_new {H : Hp} {p : Addr} (h : H p = none) (o : HO) : Same H (upd H p o) := fun b u q => by rw [upd_ne (ne_of_none q h)]; exact q
theorem off_upd (H : Hp) (d : Addr) (o : HO) : Off d H (upd H d o) := fun b u q n => by rw [upd_ne n]; exact q
end L2
set_option Elab.async false
set_option linter.all false
set_option maxRecDepth 100000
namespace L2
open PySem PySem.Spec PyProof.Rows
section
open PySem.SeqAt
open PySem.AutoSeq1 (wpAny_loadPart')
open PySem.MeetsSeq PySem.MeetsSeq2 PySem.MeetsSeq3
section
variable {prog : Program} {w : World} {A : Around} {E : Value → Shared → Prop} {s : Shared} {l b : Addr} {us ws : Array Value} {ns ms : List Int}
end
end
section
variable {prog : Program} {w : World} {A : Around} {Z : Result → Shared → Prop} {I S : Addr} {fp wr : List Addr} {n : Nat} {P : Nat → Value → Prop} {St : Nat → Heap → Prop} {G : Heap → Prop} {bt : Nat → Nat → Bool}
end
section
variable {prog : Program} {w : World} {A : Around} {E : Value → Shared → Prop} {s : Shared}
end
section
variable {prog : Program} {w : World} {A : Around} {E : Value → Shared → Prop} {s : Shared}
end
def iRvR (ta : TA) : TI := fun σ H R => ta σ H fun vs H1 => ∃ n : Int, vs = [.int n] ∧ 0 ≤ n ∧ n < 2 ^ 62 ∧ R (Itc (n - 1) (-1) n.toNat) H1
def qRvR (vs : List V) (H1 : Hp) (R : It → Hp → Prop) : Prop := ∃ n : Int, vs = [.int n] ∧ 0 ≤ n ∧ n < 2 ^ 62 ∧ R (Itc (n - 1) (-1) n.toNat) H1
def qRng2 (vs : List V) (H1 : Hp) (R : It → Hp → Prop) : Prop := ∃ i j : Int, vs = [.int i, .int j] ∧ (-(2 ^ 62) ≤ i ∧ i < 2 ^ 62 ∧ -(2 ^ 62) ≤ j ∧ j < 2 ^ 62) ∧ R (Itr i (j - i).toNat) H1
def qEnum (K : PySem.W.Frag) (vs : List V) (H1 : Hp) (R : It → Hp → Prop) : Prop := ∃ a xs, vs = [.ref a] ∧ SqL K H1 a xs ∧ R (Ite K a) H1
section
variable {σ : St} {H : Hp} {Q : VK} {nx : St → Hp → Prop} {rt : VK} {bk ct : St → Hp → Prop} {tb : TS} {g : TG} {tA : TA} {R : It → Hp → Prop} {K : PySem.W.Frag} {a p : Addr} {n i j : Int} {m : Nat} {ns : List Int} {xs : List V}
theorem go_rvr (h : tA σ H fun vs H1 => qRvR vs H1 R) : iRvR tA σ H R := h
theorem go_qrvr (h0 : 0 ≤ n) (h1 : n < 2 ^ 62) (h : R (Itc (n - 1) (-1) n.toNat) H) : qRvR [.int n] H R := ⟨n, rfl, h0, h1, h⟩
theorem go_rng2 (h : tA σ H fun vs H1 => qRng2 vs H1 R) : iRng2 tA σ H R := h
theorem go_qrng2 (h1 : -(2 ^ 62) ≤ i) (h2 : i < 2 ^ 62) (h3 : -(2 ^ 62) ≤ j) (h4 : j < 2 ^ 62) (h : R (Itr i (j - i).toNat) H) : qRng2 [.int i, .int j] H R := ⟨i, j, rfl, ⟨h1, h2, h3, h4⟩, h⟩
theorem go_enum (h : tA σ H fun vs H1 => qEnum K vs H1 R) : iEnum K tA σ H R := h
theorem go_qenum (h : H p = some (.lst xs)) (q : R (Ite K p) H) : qEnum K [.ref p] H R := ⟨p, xs, rfl, SqL.of h, q⟩
theorem go_sumL (h : H p = some (.lst (ns.map V.int))) (q : Q (.int ns.sum) H) : rSum K [.ref p] H Q := ⟨p, ns, rfl, SqL.of h, q⟩
end
def qCh (r' : R2) (tc : TE) (y : V) (σ : St) (Q : VK) (z : V) (H3 : Hp) : Prop := ∃ k, z = .bl k ∧ (if k = true then tc σ H3 fun w' H4 => r' y w' H4 Q else Q (.bl false) H3)
theorem pe_gint {X : Cx} {x : Str} {n : Int} {pos : Pos} (hg : Gl X x) (h : ∃ t, X.mg x = some (.int n t)) (hd : (x == ("__debug__" : Str)) = false := by decide) : PE X (.Name x pos) (tC (.int n)) := by
  obtain ⟨t, h⟩ := h
  exact pe_glob hg h ⟨t, rfl⟩ hd
section
variable {X : Cx} (K : PySem.W.Frag)
end
section
variable {σ : St} {H : Hp} {Q : VK} {nx : St → Hp → Prop} {rt : VK} {bk ct : St → Hp → Prop} {ta tb tc : TE} {r r' : R2} {K : PySem.W.Frag} {p : Addr} {xs : List V} {n : Int} {b : Bool} {y v v' : V} {ns : List Int} {lo hi : Option Int} {kvs kvs' : List (Key × V)} {QH : Hp → Prop}
theorem go_chain (h : ta σ H fun x H1 => tb σ H1 fun y H2 => r x y H2 fun z H3 => qCh r' tc y σ Q z H3) : tChain r r' ta tb tc σ H Q := h
theorem go_qch (h : if b = true then tc σ H fun w H4 => r' y w H4 Q else Q (.bl false) H) : qCh r' tc y σ Q (.bl b) H := ⟨b, rfl, h⟩
theorem go_slL (h : H p = some (.lst xs)) (q : ∀ a, H a = none → Q (.ref a) (upd H a (.lst (cutV xs lo hi)))) : rSlL K (.ref p) lo hi H Q := ⟨p, xs, rfl, SqL.of h, q⟩
theorem go_aug {i : Nat} {x : V} {te : TE} {ti : TIp} (e : σ[i]? = some (some x)) (h : te σ H fun y H1 => ti x y H1 fun z H2 => nx (σ.set i (some z)) H2) : tAug i te ti ⟨nx, rt, bk, ct⟩ σ H := ⟨x, e, h⟩
theorem go_ipI {f : Int → Int → Int} {m : Int} (h : Q (.int (f n m)) H) : ipI f (.int n) (.int m) H Q := ⟨n, m, rfl, rfl, h⟩
theorem fq_enum {g : TG} {tb : TS} (xs : List V) (Pv : Nat → St → Hp → Prop) (h0 : Pv 0 σ H) (hl : ∀ (i : Nat) (σ : St) (H : Hp), i ≤ xs.length → Pv i σ H → SqL K H p xs)
    (hs : ∀ (i : Nat) (x : V) (σ : St) (H : Hp) (t : Addr), xs[i]? = some x → H t = none → Pv i σ H → g (.ref t) σ (upd H t (.tup [.int (i : Nat), x])) fun σ2 H2 => tb ⟨Pv (i + 1), rt, nx, Pv (i + 1)⟩ σ2 H2) (hd : ∀ σ H, Pv xs.length σ H → nx σ H) :
    forQ (Ite K p) g tb ⟨nx, rt, bk, ct⟩ σ H := by
  refine ⟨fun i m σ H => m = xs.length - i ∧ i ≤ xs.length ∧ Pv i σ H, ⟨_, rfl, Nat.zero_le _, h0⟩, ?_⟩
  rintro i m σ H ⟨rfl, hi, q⟩
  have sq := hl i σ H hi q
  by_cases lt : i < xs.length
  · refine .inr ⟨⟨xs, xs[i], sq, List.getElem?_eq_getElem lt⟩, Pv (i + 1), fun σ' H' q' => ⟨xs.length - (i + 1), by omega, rfl, lt, q'⟩, fun x H' y => ?_⟩
    obtain ⟨t, x', rfl, ht, rfl, hx⟩ := y
    exact hs i x' σ H t (hx xs sq) ht q
  · have e : i = xs.length := by omega
    subst e
    exact .inl ⟨⟨xs, sq, Nat.le_refl _⟩, hd σ H q⟩
end
end L2
set_option Elab.async false
set_option linter.all false
set_option maxRecDepth 100000
namespace Lw
open PySem L2
inductive Op3 where | sum | diff | less
  deriving DecidableEq
def Op3.str : Op3 → Str
  | .sum => "sum" | .diff => "diff" | .less => "less"
inductive Part where
  | num (n : Int) | name (k : Int) | op (o : Op3) (a b : Part)
def Part.ok (nm : Int) : Nat → Part → Prop
  | 0, _ => False
  | _ + 1, .num n => 0 ≤ n ∧ n ≤ 10006
  | _ + 1, .name k => 0 ≤ k ∧ k < nm
  | d + 1, .op _ a b => a.ok nm d ∧ b.ok nm d
inductive Row where
  | set (n : Int) (p : Part) | take (n : Int) | get (n f : Int) (p : Part) | size (n f : Int)
  | add (f : Int) (p : Part) | put (f : Int) (p q : Part) | cut (f : Int) (p : Part) | send (p : Part)
  | go (r : Int) | unl (n r : Int) | mark
def Row.ok (nm fl many : Int) : Row → Prop
  | .set n p => 0 ≤ n ∧ n < nm ∧ p.ok nm 3
  | .take n => 0 ≤ n ∧ n < nm
  | .get n f p => 0 ≤ n ∧ n < nm ∧ 0 ≤ f ∧ f < fl ∧ p.ok nm 3
  | .size n f => 0 ≤ n ∧ n < nm ∧ 0 ≤ f ∧ f < fl
  | .add f p => 0 ≤ f ∧ f < fl ∧ p.ok nm 3
  | .put f p q => 0 ≤ f ∧ f < fl ∧ p.ok nm 3 ∧ q.ok nm 3
  | .cut f p => 0 ≤ f ∧ f < fl ∧ p.ok nm 3
  | .send p => p.ok nm 3
  | .go r => 0 ≤ r ∧ r ≤ many
  | .unl n r => 0 ≤ n ∧ n < nm ∧ 0 ≤ r ∧ r ≤ many
  | .mark => True
theorem Part.ok_mono {nm : Int} : ∀ {p : Part} {d e : Nat}, d ≤ e → p.ok nm d → p.ok nm e
  | p, 0, _, _, h => h.elim
  | .num _, _ + 1, 0, l, _ => by omega
  | .name _, _ + 1, 0, l, _ => by omega
  | .op .., _ + 1, 0, l, _ => by omega
  | .num _, _ + 1, _ + 1, _, h => h
  | .name _, _ + 1, _ + 1, _, h => h
  | .op o a b, d + 1, e + 1, l, h => ⟨Part.ok_mono (by omega) h.1, Part.ok_mono (by omega) h.2⟩
theorem Row.ok_mono {nm fl m m' : Int} {r : Row} (l : m ≤ m') (h : r.ok nm fl m) : r.ok nm fl m' := by
  cases r with
  | go r => exact ⟨h.1, Int.le_trans h.2 l⟩
  | unl n r => exact ⟨h.1, h.2.1, h.2.2.1, Int.le_trans h.2.2.2 l⟩
  | _ => exact h
def Imm : HO → Prop
  | .tup _ => True
  | .frz _ _ => True
  | _ => False
def TK (H H' : Hp) : Prop := ∀ a o, Imm o → H a = some o → H' a = some o
theorem TK.refl (H : Hp) : TK H H := fun _ _ _ h => h
theorem TK.trans {H H1 H2 : Hp} (a : TK H H1) (b : TK H1 H2) : TK H H2 := fun c o m h => b c o m (a c o m h)
theorem TK.get {H H' : Hp} {a : Addr} {xs : List V} (s : TK H H') (h : H a = some (.tup xs)) : H' a = some (.tup xs) := s a _ True.intro h
theorem _root_.L2.Same.tk {H H' : Hp} (s : Same H H') : TK H H' := fun a o _ h => s a o h
theorem TK.new {H : Hp} {p : Addr} {o : HO} (h : H p = none) : TK H (upd H p o) := (same_new h o).tk
theorem _root_.L2.Off.tkm {d : Addr} {H H' : Hp} {u : HO} (s : Off d H H') (h : H d = some u) (n : ¬ Imm u) : TK H H' := fun a o m q => s a o q (ne_of q h (by intro z; subst z; exact n m))
theorem _root_.L2.Off.tk {d : Addr} {H H' : Hp} {ys : List V} (s : Off d H H') (h : H d = some (.lst ys)) : TK H H' := s.tkm h (fun z => z)
theorem TK.updL {H : Hp} {p : Addr} {o : HO} {ys : List V} (h : H p = some (.lst ys)) : TK H (upd H p o) := (off_upd H p o).tk h
def Scr (K : PySem.W.Frag) (H : Hp) (a : Addr) (ns : List Int) : Prop := (∃ o, H a = some (.frz o (.lst (ns.map V.int)))) ∨ SqL K (fun _ => none) a (ns.map V.int)
theorem Scr.mono {K : PySem.W.Frag} {H H' : Hp} {a : Addr} {ns : List Int} (t : TK H H') : Scr K H a ns → Scr K H' a ns
  | .inl ⟨o, h⟩ => .inl ⟨o, t a _ True.intro h⟩
  | .inr h => .inr h
theorem Scr.sq {K : PySem.W.Frag} {H : Hp} {a : Addr} {ns : List Int} : Scr K H a ns → SqL K H a (ns.map V.int)
  | .inl ⟨o, h⟩ => .inl (.inr ⟨o, h⟩)
  | .inr h => by
    rcases h with (h | ⟨o, h⟩) | h
    · cases h
    · cases h
    · exact .inr h
theorem Scr.of {K : PySem.W.Frag} {H : Hp} {a : Addr} {ns : List Int} (O : Only H) (h : SqL K H a (ns.map V.int)) : Scr K H a ns := by
  rcases h with (h | ⟨o, h⟩) | h
  · rcases O a with z | ⟨o, xs, z⟩
    · rw [h] at z; cases z
    · rw [h] at z; cases z
  · exact .inl ⟨o, h⟩
  · exact .inr (.inr h)
def PartAt (H : Hp) : Part → V → Prop
  | .num n, v => ∃ a, v = .ref a ∧ H a = some (.tup [.str "num", .int n])
  | .name k, v => ∃ a, v = .ref a ∧ H a = some (.tup [.str "name", .int k])
  | .op o x y, v => ∃ a u w, v = .ref a ∧ H a = some (.tup [.str o.str, u, w]) ∧ PartAt H x u ∧ PartAt H y w
def RowXs (H : Hp) : Row → List V → Prop
  | .set n p, xs => ∃ v, xs = [.str "set", .int n, v] ∧ PartAt H p v
  | .take n, xs => xs = [.str "take", .int n]
  | .get n f p, xs => ∃ v, xs = [.str "get", .int n, .int f, v] ∧ PartAt H p v
  | .size n f, xs => xs = [.str "size", .int n, .int f]
  | .add f p, xs => ∃ v, xs = [.str "add", .int f, v] ∧ PartAt H p v
  | .put f p q, xs => ∃ v u, xs = [.str "put", .int f, v, u] ∧ PartAt H p v ∧ PartAt H q u
  | .cut f p, xs => ∃ v, xs = [.str "cut", .int f, v] ∧ PartAt H p v
  | .send p, xs => ∃ v, xs = [.str "send", v] ∧ PartAt H p v
  | .go r, xs => xs = [.str "go", .int r]
  | .unl n r, xs => xs = [.str "unless", .int n, .int r]
  | .mark, xs => xs = [.str "mark"]
def RowAt (H : Hp) (r : Row) (v : V) : Prop := ∃ a xs, v = .ref a ∧ H a = some (.tup xs) ∧ RowXs H r xs
theorem PartAt.mono {H H' : Hp} (t : TK H H') : ∀ {p : Part} {v : V}, PartAt H p v → PartAt H' p v
  | .num _, _, ⟨a, e, h⟩ => ⟨a, e, t.get h⟩
  | .name _, _, ⟨a, e, h⟩ => ⟨a, e, t.get h⟩
  | .op .., _, ⟨a, u, w, e, h, h1, h2⟩ => ⟨a, u, w, e, t.get h, PartAt.mono t h1, PartAt.mono t h2⟩
theorem RowXs.mono {H H' : Hp} (t : TK H H') : ∀ {r : Row} {xs : List V}, RowXs H r xs → RowXs H' r xs
  | .set .., _, ⟨v, e, h⟩ => ⟨v, e, h.mono t⟩
  | .take _, _, h => h
  | .get .., _, ⟨v, e, h⟩ => ⟨v, e, h.mono t⟩
  | .size .., _, h => h
  | .add .., _, ⟨v, e, h⟩ => ⟨v, e, h.mono t⟩
  | .put .., _, ⟨v, u, e, h, h'⟩ => ⟨v, u, e, h.mono t, h'.mono t⟩
  | .cut .., _, ⟨v, e, h⟩ => ⟨v, e, h.mono t⟩
  | .send _, _, ⟨v, e, h⟩ => ⟨v, e, h.mono t⟩
  | .go _, _, h => h
  | .unl .., _, h => h
  | .mark, _, h => h
theorem RowAt.mono {H H' : Hp} (t : TK H H') {r : Row} {v : V} : RowAt H r v → RowAt H' r v := fun ⟨a, xs, e, h, q⟩ => ⟨a, xs, e, t.get h, q.mono t⟩
inductive RowsAt (H : Hp) : List Row → List V → Prop
  | nil : RowsAt H [] []
  | cons {r : Row} {v : V} {rs : List Row} {vs : List V} : RowAt H r v → RowsAt H rs vs → RowsAt H (r :: rs) (v :: vs)
theorem RowsAt.length {H : Hp} {rs : List Row} {vs : List V} (h : RowsAt H rs vs) : rs.length = vs.length := by
  induction h with
  | nil => rfl
  | cons _ _ ih => simp [ih]
theorem RowsAt.mono {H H' : Hp} (t : TK H H') {rs : List Row} {vs : List V} (h : RowsAt H rs vs) : RowsAt H' rs vs := by
  induction h with
  | nil => exact .nil
  | cons h _ ih => exact .cons (h.mono t) ih
theorem RowsAt.snoc {H : Hp} {rs : List Row} {vs : List V} {r : Row} {v : V} (h : RowsAt H rs vs) (q : RowAt H r v) : RowsAt H (rs ++ [r]) (vs ++ [v]) := by
  induction h with
  | nil => exact .cons q .nil
  | cons h _ ih => exact .cons h ih
theorem RowsAt.get {H : Hp} {rs : List Row} {vs : List V} (h : RowsAt H rs vs) : ∀ {i : Nat} {r : Row}, rs[i]? = some r → ∃ v, vs[i]? = some v ∧ RowAt H r v := by
  induction h with
  | nil => intro i r e; simp at e
  | cons h _ ih =>
    intro i r e
    cases i with
    | zero => simp at e; subst e; exact ⟨_, rfl, h⟩
    | succ i => simpa using ih (by simpa using e)
theorem RowsAt.set {H : Hp} {rs : List Row} {vs : List V} (h : RowsAt H rs vs) : ∀ {i : Nat} {r : Row} {v : V}, RowAt H r v → RowsAt H (rs.set i r) (vs.set i v) := by
  induction h with
  | nil => intro i r v _; exact .nil
  | cons h t ih =>
    intro i r v q
    cases i with
    | zero => exact .cons q t
    | succ i => exact .cons h (ih q)
structure Prog where
  nm : Int
  fl : Int
  rows : List Row
structure Prog.Ok (p : Prog) : Prop where
  n1 : 1 ≤ p.nm
  n2 : p.nm ≤ 8
  f1 : 1 ≤ p.fl
  f2 : p.fl ≤ 4
  ln : p.rows.length ≤ 60
  rw : ∀ r ∈ p.rows, r.ok p.nm p.fl p.rows.length
def ProgAt (H : Hp) (p : Prog) (v : V) : Prop := ∃ a b vs, v = .ref a ∧ H a = some (.tup [.int p.nm, .int p.fl, .ref b]) ∧ H b = some (.tup vs) ∧ RowsAt H p.rows vs
theorem ProgAt.mono {H H' : Hp} (t : TK H H') {p : Prog} {v : V} : ProgAt H p v → ProgAt H' p v := fun ⟨a, b, vs, e, h, h', q⟩ => ⟨a, b, vs, e, t.get h, t.get h', q.mono t⟩
theorem at_op3 {r : Int} (h0 : 0 ≤ r) (h1 : r < 3) : ∃ o : Op3, atI [V.str "sum", V.str "diff", V.str "less"] r = some (.str o.str) := by
  have : r = 0 ∨ r = 1 ∨ r = 2 := by omega
  rcases this with rfl | rfl | rfl
  · exact ⟨.sum, rfl⟩
  · exact ⟨.diff, rfl⟩
  · exact ⟨.less, rfl⟩
theorem at_two {x y : V} {r : Int} (h0 : 0 ≤ r) (h1 : r < 2) : ∃ z, atI [x, y] r = some z ∧ (z = x ∨ z = y) := by
  have : r = 0 ∨ r = 1 := by omega
  rcases this with rfl | rfl
  · exact ⟨x, rfl, .inl rfl⟩
  · exact ⟨y, rfl, .inr rfl⟩
theorem ixN_of {n : Nat} {i : Int} (h0 : 0 ≤ i) (h1 : i < n) : ixN n i = some i.toNat := by
  unfold ixN
  rw [if_pos h0, if_pos h1]
def Row.jumps : Row → Bool
  | .go _ => true
  | .unl .. => true
  | _ => false
theorem RowXs.word {H : Hp} : ∀ {r : Row} {xs : List V}, RowXs H r xs → ∃ w rest, xs = .str w :: rest ∧ inV (.str w) [.str "go", .str "unless"] = r.jumps
  | .set .., _, ⟨v, e, _⟩ => ⟨_, _, e, by show _ = false; decide +kernel⟩
  | .take _, _, e => ⟨_, _, e, by show _ = false; decide +kernel⟩
  | .get .., _, ⟨v, e, _⟩ => ⟨_, _, e, by show _ = false; decide +kernel⟩
  | .size .., _, e => ⟨_, _, e, by show _ = false; decide +kernel⟩
  | .add .., _, ⟨v, e, _⟩ => ⟨_, _, e, by show _ = false; decide +kernel⟩
  | .put .., _, ⟨v, u, e, _⟩ => ⟨_, _, e, by show _ = false; decide +kernel⟩
  | .cut .., _, ⟨v, e, _⟩ => ⟨_, _, e, by show _ = false; decide +kernel⟩
  | .send _, _, ⟨v, e, _⟩ => ⟨_, _, e, by show _ = false; decide +kernel⟩
  | .go _, _, e => ⟨_, _, e, by show _ = true; decide +kernel⟩
  | .unl .., _, e => ⟨_, _, e, by show _ = true; decide +kernel⟩
  | .mark, _, e => ⟨_, _, e, by show _ = false; decide +kernel⟩
def Row.clip (m : Int) : Row → Row
  | .go r => .go (min r m)
  | .unl n r => .unl n (min r m)
  | r => r
theorem Row.clip_ok {nm fl m : Int} {r : Row} (hm : 0 ≤ m) (h : r.ok nm fl m) : (r.clip m).ok nm fl m := by
  cases r with
  | go r => exact ⟨by have := h.1; omega, by have := h.2; omega⟩
  | unl n r => exact ⟨h.1, h.2.1, by have := h.2.2.1; omega, by have := h.2.2.2; omega⟩
  | _ => exact h
theorem Row.clip_no {m : Int} {r : Row} (h : r.jumps = false) : r.clip m = r := by
  cases r with
  | go r => cases h
  | unl n r => cases h
  | _ => rfl
theorem mem_set {α : Type} {P : α → Prop} {xs : List α} {i : Nat} {y : α} (h : ∀ x ∈ xs, P x) (hy : P y) : ∀ x ∈ xs.set i y, P x := fun x hx => by
  rcases List.mem_or_eq_of_mem_set hx with z | z
  · exact h x z
  · subst z; exact hy
theorem mem_snoc {α : Type} {P : α → Prop} {xs : List α} {y : α} (h : ∀ x ∈ xs, P x) (hy : P y) : ∀ x ∈ xs ++ [y], P x := fun x hx => by
  rcases List.mem_append.mp hx with z | z
  · exact h x z
  · rw [List.mem_singleton.mp z]; exact hy
theorem RowsAt.take_succ {H : Hp} {rs : List Row} {vs : List V} (h : RowsAt H rs vs) {i : Nat} {v : V} (e : vs[i]? = some v) : ∃ r, rs[i]? = some r ∧ RowAt H r v := by
  have hl := h.length
  have hi : i < rs.length := by
    have := (List.getElem?_eq_some_iff.mp e).1
    omega
  obtain ⟨v', e', q⟩ := h.get (List.getElem?_eq_getElem hi)
  rw [e] at e'
  cases e'
  exact ⟨_, List.getElem?_eq_getElem hi, q⟩
theorem take_snoc {α : Type} {xs : List α} {i : Nat} {x : α} (e : xs[i]? = some x) : xs.take (i + 1) = xs.take i ++ [x] := by
  rw [List.take_succ, e]; rfl
theorem small_line {n : Nat} (h : n ≤ 100000) : n < sizeLine := Nat.lt_of_le_of_lt h (by decide)
theorem small_le {n : Nat} (h : n ≤ 100000) : n ≤ sizeLine := Nat.le_of_lt (small_line h)
end Lw
set_option Elab.async false
set_option linter.all false
set_option maxRecDepth 100000
namespace L2
open PySem PySem.Spec PyProof.Rows
section
variable {prog : Program} {w : World} {A : Around} {E : Value → Shared → Prop} {s : Shared}
theorem nx_tup_item {it t : Addr} {i : Nat} {items : Array Value} {x : Value} {Q : Value → Shared → Prop} (hit : IsTupIter s.heap it t i) (ht : IsTup s.heap t items) (hx : items[i]? = some x)
    (hQ : ∀ h', IsTupIter h' it t (i + 1) → Heap.SameBut it s.heap h' → Q x { s with heap := h' }) : wpAny (model prog w) A (Builtin.SmallTypes.nextOf (.ref it)) Q E s := by
  obtain ⟨o, e0, e1, e2⟩ := id hit
  obtain ⟨u, u0, _, k, u2⟩ := ht
  unfold Builtin.SmallTypes.nextOf
  refine wpAny_bind (wpAny_callSpecial?_slot (name := Str.ofString "__next__") hit.typeIs slot_tupleiter_next (wpAny_call_entry slot_tupleiter_next hit.typeIs entry_tupleiter_next ?_ (args_tupleiter_next _)))
  show wpAny _ _ (field (.ref it) 0 >>= _) _ _ s; refine wpAny_bind (wpAny_field e0 e2 (x := .ref t) rfl ?_)
  show wpAny _ _ (if (Value.ref t == Value.none) = true then _ else _) _ _ s; rw [if_neg (show ¬ ((Value.ref t == Value.none) = true) from Bool.false_ne_true)]
  show wpAny _ _ (field (.ref it) 1 >>= _) _ _ s; refine wpAny_bind (wpAny_field e0 e2 (x := .int i 0) rfl ?_)
  show wpAny _ _ (seqItems? (.ref t) >>= _) _ _ s; refine wpAny_bind (wpAny_seqItems u0 u2 ?_)
  simp only [Int.toNat_natCast, hx]
  refine wpAny_bind (wpAny_setField e0 e2 (by simp) (wpAny_pure ⟨x, rfl, wpAny_pure (hQ _ ?_ (Heap.SameBut.update ..))⟩))
  exact ⟨_, Heap.get?_update_self _ e0 (Obj.isFreed_of_fields (Obj.data_mapFields e2 _)), (Obj.cls_mapFields ..).trans e1, by rw [Obj.data_mapFields e2]; simp [rawInt]⟩
theorem nx_tup_end {it t : Addr} {i : Nat} {items : Array Value} {Q : Value → Shared → Prop} (hh : A.handled = none) (hit : IsTupIter s.heap it t i) (ht : IsTup s.heap t items) (hx : items[i]? = none)
    (hE : ∀ h' e, Heap.ExtBut it s.heap h' → (∃ o, h'.get? e = some o ∧ o.cls = .type "StopIteration") → E (.ref e) { s with heap := h' }) : wpAny (model prog w) A (Builtin.SmallTypes.nextOf (.ref it)) Q E s := by
  obtain ⟨o, e0, e1, e2⟩ := id hit
  obtain ⟨u, u0, _, k, u2⟩ := ht
  unfold Builtin.SmallTypes.nextOf
  refine wpAny_bind (wpAny_callSpecial?_slot (name := Str.ofString "__next__") hit.typeIs slot_tupleiter_next (wpAny_call_entry slot_tupleiter_next hit.typeIs entry_tupleiter_next ?_ (args_tupleiter_next _)))
  show wpAny _ _ (field (.ref it) 0 >>= _) _ _ s; refine wpAny_bind (wpAny_field e0 e2 (x := .ref t) rfl ?_)
  show wpAny _ _ (if (Value.ref t == Value.none) = true then _ else _) _ _ s; rw [if_neg (show ¬ ((Value.ref t == Value.none) = true) from Bool.false_ne_true)]
  show wpAny _ _ (field (.ref it) 1 >>= _) _ _ s; refine wpAny_bind (wpAny_field e0 e2 (x := .int i 0) rfl ?_)
  show wpAny _ _ (seqItems? (.ref t) >>= _) _ _ s; refine wpAny_bind (wpAny_seqItems u0 u2 ?_)
  simp only [Int.toNat_natCast, hx]
  refine wpAny_bind (wpAny_rule (wpAny_bind (wpAny_setField e0 e2 (by simp) ?_)))
  show wpAny _ _ (newExc (.type "StopIteration") [] >>= _) _ _ _; refine wpAny_bind ?_; simp only [newExc, newTuple]
  refine wpAny_bind (wpAny_newObj_type ?_ (by size_fits)); refine wpAny_bind (m := firstArgMember _ _) (wpAny_of_eq (a := Value.none) (by first | rfl | (simp only [firstArgMember]; rfl)) ?_)
  refine wpAny_newObj_type ?_ (by size_fits); simp only [raiseNew]; refine wpAny_bind (wpAny_handled ?_)
  first | rw [show A.in1.handled = none from hh] | rw [hh]
  refine wpAny_bind (wpAny_pure (wpAny_throw ?_))
  exact hE _ _ (((Heap.SameBut.update ..).extBut.push _).push _) ⟨_, Heap.get?_push_size _ rfl, rfl⟩
end
theorem tupIter_at {h h' : Heap} {a t : Addr} {i : Nat} (x : IsTupIter h a t i) (k : ∀ o, h.get? a = some o → h'.get? a = some o) : IsTupIter h' a t i := let ⟨o, e, r⟩ := x; ⟨o, k o e, r⟩
theorem tup_at {h h' : Heap} {t : Addr} {its : Array Value} (x : IsTup h t its) (k : ∀ o, h.get? t = some o → h'.get? t = some o) : IsTup h' t its := let ⟨o, e, r⟩ := x; ⟨o, k o e, r⟩
theorem drawsT {prog : Program} {w : World} {A : Around} (hh : A.handled = none) (it t : Addr) (hne : t ≠ it) (items : Array Value) :
    Draws prog w A it [it, t] items.size (fun i v => items[i]? = some v) (fun i h => IsTupIter h it t i ∧ IsTup h t items) where
  live := fun _ _ st => let ⟨o, ho, _⟩ := st.1; ⟨o, ho⟩
  frame := fun _ _ _ st k => ⟨tupIter_at st.1 fun o e => k it (by simp) o e, tup_at st.2 fun o e => k t (by simp) o e⟩
  item := fun i s Q E hi st hQ => nx_tup_item st.1 st.2 (x := items[i]) (by simp [hi]) fun h' a b => hQ _ h' s.toks (by simp [hi]) ⟨a, st.2.extBut b.extBut hne⟩ b
  done := fun s Q E st hE => nx_tup_end hh st.1 st.2 (by simp) hE
theorem meets_enumT (l : Addr) (items : Array Value) : Meets (Builtin.«enumerate.__new__» ⟨[.type "enumerate", .ref l], []⟩) (fun _ R s => IsTup s.heap l items ∧
      R (.ok (.ret (.ref (s.heap.push { cls := .type "tuple_iterator", data := .fields #[.ref l, .int 0 0] }).objs.size)))
        { s with heap := (s.heap.push { cls := .type "tuple_iterator", data := .fields #[.ref l, .int 0 0] }).push { cls := .type "enumerate", data := .fields #[.none, .bool false, .ref s.heap.objs.size, rawInt 0, .none, .none] } }) :=
  .of_wp fun prog w A R s h => by
    obtain ⟨hp, g, d, tk, os⟩ := s; obtain ⟨hl, h⟩ := h
    have hsub := sub_enumerate
    have hL : IsTup (Shared.heap ⟨hp, g, d, tk, os⟩) l items := hl
    wp_walk using iter_tuple hL
    refine wpAny_stack_any fun st => wpAny_pure ?_
    split
    · rename_i c _ _ _ _ _
      cases (c == Value.type "enumerate") <;> (wp_walk using iter_tuple hL; exact ⟨_, rfl, h⟩)
    · wp_walk using iter_tuple hL
      exact ⟨_, rfl, h⟩
section
variable {prog : Program} {w : World} {A : Around} {E : Value → Shared → Prop} {s : Shared}
theorem call_enumT {l : Addr} {items : Array Value} {Q : Value → Shared → Prop} (hL : IsTup s.heap l items)
    (h : ∀ h', IsEnum h' (s.heap.objs.size + 1) s.heap.objs.size 0 .none → IsTupIter h' s.heap.objs.size l 0 → h'.objs.size = s.heap.objs.size + 2 →
      (∀ b o, s.heap.get? b = some o → h'.get? b = some o) → Q (.ref (s.heap.objs.size + 1)) { s with heap := h' }) :
    wpAny (model prog w) A (call (.type "enumerate") [.ref l]) Q E s := by
  refine callType_new F.called_enumerate (by decide) (F.typeCall_enumerate_1 _) (F.newCall_enumerate_1 _) (fun obj => F.args_object_init_2 obj _) F.entry_enumerate_new (meets_enumT l items) ⟨hL, ?_⟩
  have z : (s.heap.push { cls := .type "tuple_iterator", data := .fields #[.ref l, .int 0 0] }).objs.size = s.heap.objs.size + 1 := Heap.size_push ..
  show _ ∧ _
  rw [z]
  have q := Heap.get?_push_size (s.heap.push { cls := .type "tuple_iterator", data := .fields #[.ref l, .int 0 0] }) (o := { cls := .type "enumerate", data := .fields #[.none, .bool false, .ref s.heap.objs.size, rawInt 0, .none, .none] }) rfl
  rw [z] at q
  exact ⟨⟨_, q, rfl⟩, h _ q ⟨_, Heap.get?_push_of_some _ (Heap.get?_push_size _ rfl), rfl, rfl⟩ (by rw [Heap.size_push, z]) fun b o x => Heap.get?_push_of_some _ (Heap.get?_push_of_some _ x)⟩
end
def IteT (K : PySem.W.Frag) (a : Addr) : It :=
  ⟨fun i H => ∃ (xs : List V) (x : V), SqT K H a xs ∧ xs[i]? = some x, fun i H v H' => ∃ T x, v = .ref T ∧ H T = none ∧ H' = upd H T (.tup [.int (i : Nat), x]) ∧ ∀ xs, SqT K H a xs → xs[i]? = some x, fun i H => ∃ xs : List V, SqT K H a xs ∧ xs.length ≤ i⟩
theorem Inv.ne_fp {X : Cx} {pins : List (Addr × Obj)} {σ : St} {H : Hp} {s : Shared} {a b : Addr} {xs : List V} {o : Obj} (I : Inv X pins σ H s) (q : SqT X.K H a xs) (hb : s.heap.get? b = some o) (hc : o.cls ≠ .type "tuple") : a ≠ b := by
  obtain ⟨its, _, ⟨u, e, c, _⟩, _⟩ := I.tuple q
  intro z
  subst z
  rw [hb] at e
  cases e
  exact hc c
theorem turn_enumT {P : Program} {w : World} {K : PySem.W.Frag} {elts : List Expr} {kk : Nat} {tpos : Pos} (a e it : Addr) :
    Turn P w K (.Tuple elts kk tpos) (IteT K a) [e, it] e (fun i h => (∃ old, IsEnum h e it ((i : Nat) : Int) old) ∧ IsTupIter h it a i ∧ e ≠ it) where
  mem := by simp
  obj := fun i h st b hb => by
    obtain ⟨⟨old, he⟩, ⟨o, ho, hc, hd⟩, _⟩ := st
    rcases (show b = e ∨ b = it by simpa using hb) with z | z
    · rw [z]; exact ⟨_, he, fun v q => nomatch q⟩
    · rw [z]; exact ⟨o, ho, fun v q => by rw [hd] at q; cases q⟩
  keep := fun i h h' st k => let ⟨⟨old, he⟩, hi, hne⟩ := st; ⟨⟨old, k e (by simp) _ he⟩, tupIter_at hi fun o q => k it (by simp) o q, hne⟩
  item := by
    intro X hP hw hK hc i pins s σ H E I hf st hg
    subst hP hw hK
    obtain ⟨⟨old, he⟩, hit, hne⟩ := st
    obtain ⟨xs, x, hq, hx⟩ := hg
    obtain ⟨its, rv, p, hz⟩ := I.tuple hq
    obtain ⟨u, hu, ru⟩ := rv.get hx
    have hel : e < s.heap.objs.size := Heap.lt_size he
    have hil : it < s.heap.objs.size := by obtain ⟨_, q, _⟩ := hit; exact Heap.lt_size q
    have hae : a ≠ e := I.ne_fp hq he (by simp)
    have hai : a ≠ it := by obtain ⟨oi, ei, ci, _⟩ := hit; exact I.ne_fp hq ei (by rw [ci]; simp)
    have hl := rv.length
    have hlt : i < its.toArray.size := by
      have := (List.getElem?_eq_some_iff.mp hx).1
      simp; omega
    refine wpAny_pyNext_enum_itemD (drawsT (A := X.A.in1) (I.ok.hd hc) it a hai its.toArray) he ⟨hit, p⟩ hlt hne (by simp [hne, hae.symm]) fun u' h' tk hu' ho hst hT hsz hk => ?_
    have eu : u' = u := by
      have : its[i]? = some u' := by simpa using hu'
      rw [hu] at this; exact (Option.some.inj this).symm
    subst eu
    refine ⟨_, rfl, wpAny_letOwnedTupleGo_enum (s := { s with heap := h', toks := tk + 1 }) ho fun h'' he' sb => ?_⟩
    have hT2 : h''.get? s.heap.objs.size = some { cls := .type "tuple", data := .seq #[.int i tk, u'] } := (sb.2 _ (Nat.ne_of_gt hel)).trans hT
    have new : ObjOk X.prog X.w (upd H s.heap.objs.size (.tup [.int (i : Nat), x])) h'' s.heap.objs.size (.tup [.int (i : Nat), x]) :=
      ⟨by show 2 ≤ sizeLine; decide, [.int i tk, u'], .cons ⟨_, rfl⟩ (.cons ru .nil), ⟨_, hT2, rfl, _, rfl⟩⟩
    have I1 : Inv X pins σ (upd H s.heap.objs.size (.tup [.int (i : Nat), x])) { s with heap := h'', toks := tk + 1 } :=
      I.turnedNew (ch := [e, it]) (fun b ob hb q => (sb.2 b (fun z => hb (by simp [z]))).trans (hk b ob (fun z => hb (by simp [z])) (fun z => hb (by simp [z])) q)) hf (Nat.le_refl _) new
    refine ⟨.ref s.heap.objs.size, _, I1, rfl, ⟨_, x, rfl, I.hok.fresh (Nat.le_refl _), rfl, fun ys hy => by rw [I.tuple_inj hy hq]; exact hx⟩, ⟨⟨u', ?_⟩, tupIter_at hst.1 fun o q => (sb.2 it (Ne.symm hne)).trans q, hne⟩, fun b hb => ?_⟩
    · rw [show ((i + 1 : Nat) : Int) = (i : Int) + 1 by omega]; exact he'
    · have hb' : b < s.heap.objs.size := by
        rcases (show b = e ∨ b = it by simpa using hb) with z | z
        · rw [z]; exact hel
        · rw [z]; exact hil
      rw [upd_ne (Nat.ne_of_lt hb')]
      exact (hf b hb).1
  done := by
    intro X hP hw hK hc i pins s σ H E I hf st hg
    subst hP hw hK
    obtain ⟨⟨old, he⟩, hit, hne⟩ := st
    obtain ⟨xs, hq, hx⟩ := hg
    obtain ⟨its, rv, p, hz⟩ := I.tuple hq
    obtain ⟨f0, f1, f2, f3, f4, f5⟩ := hf it (by simp)
    have hl := rv.length
    have hT : s.TypeIs (.ref e) "enumerate" := ⟨_, he, rfl⟩
    unfold pyNext
    refine wpAny_bind (wpAny_attempt (wpAny_callSpecial?_slot (name := Str.ofString "__next__") hT F.slot_enumerate_next (wpAny_call_entry F.slot_enumerate_next hT F.entry_enumerate_next ?_ (F.args_enumerate_next_1 _))))
    show wpAny _ _ (field (.ref e) 2 >>= _) _ _ _; refine wpAny_bind (wpAny_field he rfl (x := .ref it) rfl ?_)
    refine wpAny_bind (nx_tup_end (A := X.A.in1) (I.ok.hd hc) hit p (by simp; omega) fun h' x eb hx' => ?_)
    obtain ⟨o, ho, hc'⟩ := hx'
    refine wpAny_bind (wpAny_isInstance (T := "StopIteration") (b := true) ⟨o, ho, hc'⟩ isSubtype_stop ?_)
    exact wpAny_pure ⟨rfl, I.turned (t' := s.toks) (fun b o hb q => eb b o hb q) f0 f1 f3 f4 f5⟩
  self := fun A i s Q E st h => let ⟨⟨_, he⟩, _⟩ := st; wpAny_pyIter_enum he h
def iEnumT (K : PySem.W.Frag) (ta : TA) : TI := fun σ H R => ta σ H fun vs H1 => ∃ a xs, vs = [.ref a] ∧ SqT K H1 a xs ∧ R (IteT K a) H1
theorem pi_enumT {X : Cx} {e : Expr} {ta : TA} {p pos tpos : Pos} {elts : List Expr} {kk : Nat} (hg : Gl X "enumerate") (hm : X.mg "enumerate" = none) (ha : PA X [e] ta) (hs : starEach [e] X.env = [(false, eval e X.env)] := by rfl) :
    PI X (.Tuple elts kk tpos) (.Call (.Name "enumerate" p) [e] [] pos) (iEnumT X.K ta) := by
  intro pins s σ H R I h
  refine Call_ (ld_blt I hg hm boot_enumerate (PyProof.Rows.callWith_type1 (thn (ha pos pins s σ H _ I h) fun us s1 ⟨vs, H1, I1, r1, q1⟩ => ?_) hs rfl))
  obtain ⟨a, xs, ex, hq, q⟩ := q1
  subst ex
  cases r1 with
  | cons r rr =>
    cases rr
    cases r
    obtain ⟨its, rv, p', hz⟩ := I1.tuple hq
    refine call_enumT p' fun h' he hit hsz hk => wpAny_pyIter_enum he ?_
    have I2 : Inv X pins σ H1 { s1 with heap := h' } := I1.kept (t' := s1.toks) hk
    refine ⟨s1.heap.objs.size + 1, [s1.heap.objs.size + 1, s1.heap.objs.size], _, _, H1, rfl, I2, turn_enumT a (s1.heap.objs.size + 1) s1.heap.objs.size, ⟨⟨.none, he⟩, hit, Nat.succ_ne_self _⟩, fun b hb => ?_, q⟩
    have hle : s1.heap.objs.size ≤ b := by
      rcases (show b = s1.heap.objs.size + 1 ∨ b = s1.heap.objs.size by simpa using hb) with z | z
      · rw [z]; exact Nat.le_add_right _ _
      · rw [z]; exact Nat.le_refl _
    exact I1.fpOk hle (I1.hok.fresh hle)
theorem kEnumT {X : Cx} (K : PySem.W.Frag) {e : Expr} {ta : TA} {p pos tpos : Pos} {elts : List Expr} {kk : Nat} (hg : Gl X "enumerate") (hm : X.mg "enumerate" = none) (ha : PA X [e] ta) (hs : starEach [e] X.env = [(false, eval e X.env)] := by rfl) (ek : X.K = K := by rfl) :
    PI X (.Tuple elts kk tpos) (.Call (.Name "enumerate" p) [e] [] pos) (iEnumT K ta) := ek ▸ pi_enumT hg hm ha hs
end L2
set_option Elab.async false
set_option linter.all false
set_option maxRecDepth 100000
namespace L2
open PySem PySem.Spec PyProof.Rows
section
variable {prog : Program} {w : World} {A : Around} {E : Value → Shared → Prop} {s : Shared}
theorem zipT_item {z TI TO i1 i2 l1 l2 : Addr} {k1 k2 : Nat} {xs ys : Array Value} {x y a b : Value} {Q : Value → Shared → Prop} (D : ZipApart z TI TO i1 i2 l1 l2) (hz : IsZip s.heap z TI TO .none) (hTI : IsPair s.heap TI (.ref i1) (.ref i2)) (hTO : IsPair s.heap TO a b)
    (h1 : IsTupIter s.heap i1 l1 k1) (h2 : IsTupIter s.heap i2 l2 k2) (hl1 : IsTup s.heap l1 xs) (hl2 : IsTup s.heap l2 ys) (hx : xs[k1]? = some x) (hy : ys[k2]? = some y)
    (hQ : ∀ h', IsZip h' z TI TO (rawInt s.heap.objs.size) → IsPair h' TO x y → IsTupIter h' i1 l1 (k1 + 1) → IsTupIter h' i2 l2 (k2 + 1) → IsPair h' s.heap.objs.size x y → h'.objs.size = s.heap.objs.size + 1 →
      (∀ c o, c ≠ z → c ≠ TO → c ≠ i1 → c ≠ i2 → s.heap.get? c = some o → h'.get? c = some o) → Q (.ref s.heap.objs.size) { s with heap := h' }) :
    wpAny (model prog w) A (Builtin.«zip.__next__» ⟨[.ref z], []⟩) (fun fin s' => ∃ v, fin = .done (.ret v) ∧ Q v s') E s := by
  show wpAny _ _ (field (.ref z) 2 >>= _) _ _ _; refine wpAny_bind (wpAny_field hz rfl (x := .bool false) rfl ?_)
  show wpAny _ _ (field (.ref z) 3 >>= _) _ _ _; refine wpAny_bind (wpAny_field hz rfl (x := .ref TI) rfl ?_)
  refine wpAny_bind (wpAny_seqItems hTI rfl ?_); show wpAny _ _ (Builtin.SmallTypes.ownedTupleIsFree (.ref z) >>= _) _ _ _
  refine wpAny_bind ?_; unfold Builtin.SmallTypes.ownedTupleIsFree; refine wpAny_bind (wpAny_field hz rfl (x := .none) rfl (wpAny_pure ?_)); simp only [if_true]
  refine wpAny_bind (wpAny_rule ?_); refine wpAny_bind (wpAny_field hz rfl (x := .ref TO) rfl ?_)
  refine wpAny_bind (wpAny_setField_rec hz (by simp) fun g1 hz1 t1 => ?_); replace hz1 : IsZip g1 z TI TO .ellipsis := hz1
  refine wpAny_bind ?_; simp only [List.zipIdx_cons, List.zipIdx_nil, List.forIn_cons, List.forIn_nil]
  refine wpAny_bind (wpAny_bind (wpAny_onRaise ?_)); show wpAny _ _ (Builtin.SmallTypes.nextOf (.ref i1) >>= _) _ _ _
  refine wpAny_bind (nx_tup_item (h1.extBut t1.extBut D.i1z) (hl1.extBut t1.extBut D.l1z) hx fun g2 h12 t2 => wpAny_pure ?_)
  have o2 : IsPair g2 TO a b := t2.extBut _ _ D.TOi1 (t1.extBut _ _ D.TOz hTO)
  refine wpAny_bind (wpAny_seqItems o2 rfl ?_); refine wpAny_bind (wpAny_updateSeq_pair o2 fun g3 o3 t3 => ?_); replace o3 : IsPair g3 TO x b := o3
  refine wpAny_bind (wpAny_letGo (wpAny_pure ?_)); refine wpAny_bind (wpAny_bind (wpAny_onRaise ?_)); show wpAny _ _ (Builtin.SmallTypes.nextOf (.ref i2) >>= _) _ _ _
  refine wpAny_bind (nx_tup_item (((h2.extBut t1.extBut D.i2z).extBut t2.extBut D.i12.symm).extBut t3.extBut D.TOi2.symm) (((hl2.extBut t1.extBut D.l2z).extBut t2.extBut D.l2i1).extBut t3.extBut D.l2TO) hy fun g4 h24 t4 => wpAny_pure ?_)
  have o4 : IsPair g4 TO x b := t4.extBut _ _ D.TOi2 o3
  refine wpAny_bind (wpAny_seqItems o4 rfl ?_); refine wpAny_bind (wpAny_updateSeq_pair o4 fun g5 o5 t5 => ?_); replace o5 : IsPair g5 TO x y := o5
  refine wpAny_bind (wpAny_letGo (wpAny_pure (wpAny_pure ?_))); refine wpAny_bind (wpAny_seqItems o5 rfl ?_); refine wpAny_bind (wpAny_newTuple ?_)
  have sz : g5.objs.size = s.heap.objs.size := by rw [t5.1, t4.1, t3.1, t2.1, t1.1]
  have hz5 : IsZip g5 z TI TO .ellipsis := t5.extBut _ _ D.TOz.symm (t4.extBut _ _ D.i2z.symm (t3.extBut _ _ D.TOz.symm (t2.extBut _ _ D.i1z.symm hz1)))
  have k5 : ∀ c o, c ≠ z → c ≠ TO → c ≠ i1 → c ≠ i2 → s.heap.get? c = some o → g5.get? c = some o := fun c o c1 c2 c3 c4 e => t5.extBut _ _ c2 (t4.extBut _ _ c4 (t3.extBut _ _ c2 (t2.extBut _ _ c3 (t1.extBut _ _ c1 e))))
  have h15 : IsTupIter g5 i1 l1 (k1 + 1) := ((h12.extBut t3.extBut D.TOi1.symm).extBut t4.extBut D.i12).extBut t5.extBut D.TOi1.symm
  have h25 : IsTupIter g5 i2 l2 (k2 + 1) := h24.extBut t5.extBut D.TOi2.symm
  have zl : z < g5.objs.size := Heap.lt_size hz5
  show wpAny _ _ (Builtin.SmallTypes.ownedTupleHandOut (.ref z) (.ref g5.objs.size) >>= _) _ _ _; refine wpAny_bind ?_
  unfold Builtin.SmallTypes.ownedTupleHandOut
  have hz6 : IsZip (g5.push { cls := .type "tuple", data := .seq #[x, y] }) z TI TO .ellipsis := Heap.get?_push_of_some _ hz5
  refine wpAny_bind (wpAny_setField_rec hz6 (by simp) fun g7 hz7 t7 => ?_); replace hz7 : IsZip g7 z TI TO (rawInt g5.objs.size) := hz7
  refine wpAny_setField_rec hz7 (by simp) fun g8 hz8 t8 => ?_; replace hz8 : IsZip g8 z TI TO (rawInt g5.objs.size) := hz8
  have up : ∀ c o, c ≠ z → g5.get? c = some o → g8.get? c = some o := fun c o c1 e => t8.extBut _ _ c1 (t7.extBut _ _ c1 (Heap.get?_push_of_some _ e))
  have hT8 : IsPair g8 g5.objs.size x y := t8.extBut _ _ (Nat.ne_of_gt zl) (t7.extBut _ _ (Nat.ne_of_gt zl) (Heap.get?_push_size _ rfl))
  have z8 : g8.objs.size = g5.objs.size + 1 := by rw [t8.1, t7.1, Heap.size_push]
  rw [sz] at hz8 hT8 z8
  refine wpAny_pure ⟨_, rfl, ?_⟩
  show Q (.ref g5.objs.size) _
  rw [sz]
  exact hQ g8 hz8 (up _ _ D.TOz o5) (tupIter_at h15 fun o e => up _ o D.i1z e) (tupIter_at h25 fun o e => up _ o D.i2z e) hT8 z8 fun c o c1 c2 c3 c4 e => up c o c1 (k5 c o c1 c2 c3 c4 e)
theorem zipT_end {z TI TO i1 i2 l1 l2 : Addr} {k1 k2 : Nat} {xs ys : Array Value} {a b : Value} {Q : Fin → Shared → Prop} (hh : A.handled = none) (D : ZipApart z TI TO i1 i2 l1 l2) (hz : IsZip s.heap z TI TO .none) (hTI : IsPair s.heap TI (.ref i1) (.ref i2)) (hTO : IsPair s.heap TO a b)
    (h1 : IsTupIter s.heap i1 l1 k1) (h2 : IsTupIter s.heap i2 l2 k2) (hl1 : IsTup s.heap l1 xs) (hl2 : IsTup s.heap l2 ys) (hend : xs[k1]? = none ∨ ys[k2]? = none)
    (hE : ∀ h' e, (∀ c o, c ≠ z → c ≠ TO → c ≠ i1 → c ≠ i2 → s.heap.get? c = some o → h'.get? c = some o) → (∃ o, h'.get? e = some o ∧ o.cls = .type "StopIteration") → E (.ref e) { s with heap := h' }) :
    wpAny (model prog w) A (Builtin.«zip.__next__» ⟨[.ref z], []⟩) Q E s := by
  show wpAny _ _ (field (.ref z) 2 >>= _) _ _ _; refine wpAny_bind (wpAny_field hz rfl (x := .bool false) rfl ?_)
  show wpAny _ _ (field (.ref z) 3 >>= _) _ _ _; refine wpAny_bind (wpAny_field hz rfl (x := .ref TI) rfl ?_)
  refine wpAny_bind (wpAny_seqItems hTI rfl ?_); show wpAny _ _ (Builtin.SmallTypes.ownedTupleIsFree (.ref z) >>= _) _ _ _
  refine wpAny_bind ?_; unfold Builtin.SmallTypes.ownedTupleIsFree; refine wpAny_bind (wpAny_field hz rfl (x := .none) rfl (wpAny_pure ?_)); simp only [if_true]
  refine wpAny_bind (wpAny_rule ?_); refine wpAny_bind (wpAny_field hz rfl (x := .ref TO) rfl ?_)
  refine wpAny_bind (wpAny_setField_rec hz (by simp) fun g1 hz1 t1 => ?_); replace hz1 : IsZip g1 z TI TO .ellipsis := hz1
  refine wpAny_bind ?_; simp only [List.zipIdx_cons, List.zipIdx_nil, List.forIn_cons, List.forIn_nil]
  refine wpAny_bind (wpAny_bind (wpAny_onRaise ?_)); show wpAny _ _ (Builtin.SmallTypes.nextOf (.ref i1) >>= _) _ _ _
  cases hx : xs[k1]? with
  | none =>
    refine wpAny_bind (nx_tup_end hh (h1.extBut t1.extBut D.i1z) (hl1.extBut t1.extBut D.l1z) hx fun g2 e t2 he => ?_)
    obtain ⟨oe, hoe, hce⟩ := he
    have hz2 : IsZip g2 z TI TO .ellipsis := t2 _ _ D.i1z.symm hz1
    have hez : e ≠ z := fun x => by subst x; rw [hz2] at hoe; cases hoe; simp at hce
    refine wpAny_setField_rec hz2 (by simp) fun g3 _ t3 => hE g3 e (fun c o c1 _ c3 _ x => t3.extBut _ _ c1 (t2 _ _ c3 (t1.extBut _ _ c1 x))) ⟨oe, t3.extBut _ _ hez hoe, hce⟩
  | some x =>
    have hy : ys[k2]? = none := by rcases hend with h | h; rw [hx] at h; cases h; exact h
    refine wpAny_bind (nx_tup_item (h1.extBut t1.extBut D.i1z) (hl1.extBut t1.extBut D.l1z) hx fun g2 h12 t2 => wpAny_pure ?_)
    have o2 : IsPair g2 TO a b := t2.extBut _ _ D.TOi1 (t1.extBut _ _ D.TOz hTO)
    refine wpAny_bind (wpAny_seqItems o2 rfl ?_); refine wpAny_bind (wpAny_updateSeq_pair o2 fun g3 o3 t3 => ?_)
    refine wpAny_bind (wpAny_letGo (wpAny_pure ?_)); refine wpAny_bind (wpAny_bind (wpAny_onRaise ?_)); show wpAny _ _ (Builtin.SmallTypes.nextOf (.ref i2) >>= _) _ _ _
    refine wpAny_bind (nx_tup_end hh (((h2.extBut t1.extBut D.i2z).extBut t2.extBut D.i12.symm).extBut t3.extBut D.TOi2.symm) (((hl2.extBut t1.extBut D.l2z).extBut t2.extBut D.l2i1).extBut t3.extBut D.l2TO) hy fun g4 e t4 he => ?_)
    obtain ⟨oe, hoe, hce⟩ := he
    have hz4 : IsZip g4 z TI TO .ellipsis := t4 _ _ D.i2z.symm (t3.extBut _ _ D.TOz.symm (t2.extBut _ _ D.i1z.symm hz1))
    have hez : e ≠ z := fun x => by subst x; rw [hz4] at hoe; cases hoe; simp at hce
    refine wpAny_setField_rec hz4 (by simp) fun g5 _ t5 => hE g5 e (fun c o c1 c2 c3 c4 x => t5.extBut _ _ c1 (t4 _ _ c4 (t3.extBut _ _ c2 (t2.extBut _ _ c3 (t1.extBut _ _ c1 x))))) ⟨oe, t5.extBut _ _ hez hoe, hce⟩
end
abbrev zT1 (h : Heap) (l1 : Addr) : Heap := h.push { cls := .type "tuple_iterator", data := .fields #[.ref l1, .int 0 0] }
abbrev zT2 (h : Heap) (l1 l2 : Addr) : Heap := (zT1 h l1).push { cls := .type "tuple_iterator", data := .fields #[.ref l2, .int 0 0] }
abbrev zT3 (h : Heap) (l1 l2 : Addr) : Heap := (zT2 h l1 l2).push { cls := .type "tuple", data := .seq #[.ref h.objs.size, .ref (zT1 h l1).objs.size] }
abbrev zT4 (h : Heap) (l1 l2 : Addr) : Heap := (zT3 h l1 l2).push { cls := .type "tuple", data := .seq #[.none, .none] }
abbrev zT5 (h : Heap) (l1 l2 : Addr) : Heap := (zT4 h l1 l2).push { cls := .type "zip", data := .fields #[.none, .bool false, .bool false, .ref (zT2 h l1 l2).objs.size, .ref (zT3 h l1 l2).objs.size] }
theorem meets_zipT (l1 l2 : Addr) (xs ys : Array Value) : Meets (Builtin.«zip.__new__» ⟨[.type "zip", .ref l1, .ref l2], []⟩) (fun _ R s => IsTup s.heap l1 xs ∧ IsTup s.heap l2 ys ∧ R (.ok (.ret (.ref (zT4 s.heap l1 l2).objs.size))) { s with heap := zT5 s.heap l1 l2 }) :=
  .of_wp fun prog w A R s h => by
    obtain ⟨hp, g, d, tk, os⟩ := s; obtain ⟨hl1, hl2, h⟩ := h
    have hsub := sub_zip
    have hL1 : IsTup (Shared.heap ⟨hp, g, d, tk, os⟩) l1 xs := hl1
    have hL2 : IsTup (Shared.heap ⟨hp.push { cls := .type "tuple_iterator", data := .fields #[.ref l1, .int 0 0] }, g, d, tk, os⟩) l2 ys := IsTup.push hl2 _
    wp_walk using iter_tuple hL1, iter_tuple hL2
    exact ⟨_, rfl, h⟩
section
variable {prog : Program} {w : World} {A : Around} {E : Value → Shared → Prop} {s : Shared}
theorem call_zipT {l1 l2 : Addr} {xs ys : Array Value} {Q : Value → Shared → Prop} (hl1 : IsTup s.heap l1 xs) (hl2 : IsTup s.heap l2 ys)
    (h : ∀ h', IsZip h' (s.heap.objs.size + 4) (s.heap.objs.size + 2) (s.heap.objs.size + 3) .none → IsPair h' (s.heap.objs.size + 2) (.ref s.heap.objs.size) (.ref (s.heap.objs.size + 1)) →
      IsPair h' (s.heap.objs.size + 3) .none .none → IsTupIter h' s.heap.objs.size l1 0 → IsTupIter h' (s.heap.objs.size + 1) l2 0 → h'.objs.size = s.heap.objs.size + 5 →
      (∀ c o, s.heap.get? c = some o → h'.get? c = some o) → Q (.ref (s.heap.objs.size + 4)) { s with heap := h' }) :
    wpAny (model prog w) A (call (.type "zip") [.ref l1, .ref l2]) Q E s := by
  refine callType_new F.called_zip (by decide) (F.typeCall_zip_2 _ _) (F.newCall_zip_2 _ _) (fun obj => F.args_object_init_3 obj _ _) F.entry_zip_new (meets_zipT l1 l2 xs ys) ⟨hl1, hl2, ?_⟩
  have z1 : (zT1 s.heap l1).objs.size = s.heap.objs.size + 1 := Heap.size_push ..
  have z2 : (zT2 s.heap l1 l2).objs.size = s.heap.objs.size + 2 := by rw [Heap.size_push, z1]
  have z3 : (zT3 s.heap l1 l2).objs.size = s.heap.objs.size + 3 := by rw [Heap.size_push, z2]
  have z4 : (zT4 s.heap l1 l2).objs.size = s.heap.objs.size + 4 := by rw [Heap.size_push, z3]
  have z5 : (zT5 s.heap l1 l2).objs.size = s.heap.objs.size + 5 := by rw [Heap.size_push, z4]
  have g5 : (zT5 s.heap l1 l2).get? (zT4 s.heap l1 l2).objs.size = some _ := Heap.get?_push_size _ rfl
  have g4 : (zT5 s.heap l1 l2).get? (zT3 s.heap l1 l2).objs.size = some _ := Heap.get?_push_of_some _ (Heap.get?_push_size _ rfl)
  have g3 : (zT5 s.heap l1 l2).get? (zT2 s.heap l1 l2).objs.size = some _ := Heap.get?_push_of_some _ (Heap.get?_push_of_some _ (Heap.get?_push_size _ rfl))
  have g2 : (zT5 s.heap l1 l2).get? (zT1 s.heap l1).objs.size = some _ := Heap.get?_push_of_some _ (Heap.get?_push_of_some _ (Heap.get?_push_of_some _ (Heap.get?_push_size _ rfl)))
  have g1 : (zT5 s.heap l1 l2).get? s.heap.objs.size = some _ := Heap.get?_push_of_some _ (Heap.get?_push_of_some _ (Heap.get?_push_of_some _ (Heap.get?_push_of_some _ (Heap.get?_push_size _ rfl))))
  show _ ∧ _
  rw [z2, z3, z4] at g5; rw [z1, z2] at g3; rw [z3] at g4; rw [z1] at g2; rw [z4]
  exact ⟨⟨_, g5, rfl⟩, h _ g5 g3 g4 ⟨_, g1, rfl, rfl⟩ ⟨_, g2, rfl, rfl⟩ z5 fun c o x => Heap.get?_push_of_some _ (Heap.get?_push_of_some _ (Heap.get?_push_of_some _ (Heap.get?_push_of_some _ (Heap.get?_push_of_some _ x))))⟩
end
def ItzT (K : PySem.W.Frag) (a b : Addr) : It :=
  ⟨fun i H => ∃ (xs ys : List V) (x y : V), SqT K H a xs ∧ SqT K H b ys ∧ xs[i]? = some x ∧ ys[i]? = some y,
    fun i H v H' => ∃ T x y, v = .ref T ∧ H T = none ∧ H' = upd H T (.tup [x, y]) ∧ (∀ xs, SqT K H a xs → xs[i]? = some x) ∧ ∀ ys, SqT K H b ys → ys[i]? = some y,
    fun i H => ∃ xs ys : List V, SqT K H a xs ∧ SqT K H b ys ∧ (xs.length ≤ i ∨ ys.length ≤ i)⟩
theorem turn_zipT {P : Program} {w : World} {K : PySem.W.Frag} {elts : List Expr} {kk : Nat} {tpos : Pos} {a b z TI TO i1 i2 : Addr} (D : ZipApart z TI TO i1 i2 a b) :
    Turn P w K (.Tuple elts kk tpos) (ItzT K a b) [z, TI, TO, i1, i2] z (fun i h => IsZip h z TI TO .none ∧ IsPair h TI (.ref i1) (.ref i2) ∧ (∃ x y, IsPair h TO x y) ∧ IsTupIter h i1 a i ∧ IsTupIter h i2 b i) where
  mem := by simp
  obj := fun i h st c hc => by
    obtain ⟨hz, hTI, ⟨x, y, hTO⟩, ⟨o1, e1, _, d1⟩, ⟨o2, e2, _, d2⟩⟩ := st
    rcases (show c = z ∨ c = TI ∨ c = TO ∨ c = i1 ∨ c = i2 by simpa using hc) with q | q | q | q | q
    · rw [q]; exact ⟨_, hz, fun v q => nomatch q⟩
    · rw [q]; exact ⟨_, hTI, fun v q => nomatch q⟩
    · rw [q]; exact ⟨_, hTO, fun v q => nomatch q⟩
    · rw [q]; exact ⟨o1, e1, fun v q => by rw [d1] at q; cases q⟩
    · rw [q]; exact ⟨o2, e2, fun v q => by rw [d2] at q; cases q⟩
  keep := fun i h h' st k => by
    obtain ⟨hz, hTI, ⟨x, y, hTO⟩, h1, h2⟩ := st
    exact ⟨k z (by simp) _ hz, k TI (by simp) _ hTI, ⟨x, y, k TO (by simp) _ hTO⟩, tupIter_at h1 fun o q => k i1 (by simp) o q, tupIter_at h2 fun o q => k i2 (by simp) o q⟩
  item := by
    intro X hP hw hK hc i pins s σ H E I hf st hg
    subst hP hw hK
    obtain ⟨hz, hTI, ⟨x0, y0, hTO⟩, h1, h2⟩ := st
    obtain ⟨xs, ys, x, y, hqx, hqy, hx, hy⟩ := hg
    obtain ⟨its, rv, p, _⟩ := I.tuple hqx
    obtain ⟨its2, rv2, p2, _⟩ := I.tuple hqy
    obtain ⟨u, hu, ru⟩ := rv.get hx
    obtain ⟨u2, hu2, ru2⟩ := rv2.get hy
    have hzl : z < s.heap.objs.size := Heap.lt_size hz
    have hTy : s.TypeIs (.ref z) "zip" := ⟨_, hz, rfl⟩
    unfold pyNext
    refine wpAny_bind (wpAny_attempt (wpAny_callSpecial?_slot (name := Str.ofString "__next__") hTy F.slot_zip_next (wpAny_call_entry F.slot_zip_next hTy F.entry_zip_next
      (zipT_item D hz hTI hTO h1 h2 p p2 (x := u) (y := u2) (by simpa using hu) (by simpa using hu2) fun h' z' TO' h1' h2' hT hsz hk => wpAny_pure ?_) (F.args_zip_next_1 _))))
    refine ⟨_, rfl, wpAny_letOwnedTupleGo_zip (s := { s with heap := h' }) z' fun h'' z'' sb => ?_⟩
    have hT2 : h''.get? s.heap.objs.size = some { cls := .type "tuple", data := .seq #[u, u2] } := (sb.2 _ (Nat.ne_of_gt hzl)).trans hT
    have new : ObjOk X.prog X.w (upd H s.heap.objs.size (.tup [x, y])) h'' s.heap.objs.size (.tup [x, y]) := ⟨by show 2 ≤ sizeLine; decide, [u, u2], .cons ru (.cons ru2 .nil), ⟨_, hT2, rfl, _, rfl⟩⟩
    have I1 : Inv X pins σ (upd H s.heap.objs.size (.tup [x, y])) { s with heap := h'' } :=
      I.turnedNew (t' := s.toks) (ch := [z, TI, TO, i1, i2]) (fun c o hb q => (sb.2 c (fun q' => hb (by simp [q']))).trans (hk c o (fun q' => hb (by simp [q'])) (fun q' => hb (by simp [q'])) (fun q' => hb (by simp [q'])) (fun q' => hb (by simp [q'])) q)) hf (Nat.le_refl _) new
    refine ⟨.ref s.heap.objs.size, _, I1, rfl, ⟨_, x, y, rfl, I.hok.fresh (Nat.le_refl _), rfl, fun l hl => by rw [I.tuple_inj hl hqx]; exact hx, fun l hl => by rw [I.tuple_inj hl hqy]; exact hy⟩, ⟨z'', ?_, ⟨u, u2, ?_⟩, ?_, ?_⟩, fun c hcm => ?_⟩
    · exact (sb.2 _ D.TIz).trans (hk _ _ D.TIz D.TITO D.TIi1 D.TIi2 hTI)
    · exact (sb.2 _ D.TOz).trans TO'
    · exact tupIter_at h1' fun o q => (sb.2 _ D.i1z).trans q
    · exact tupIter_at h2' fun o q => (sb.2 _ D.i2z).trans q
    · have hlt : c < s.heap.objs.size := by
        rcases (show c = z ∨ c = TI ∨ c = TO ∨ c = i1 ∨ c = i2 by simpa using hcm) with q | q | q | q | q
        · rw [q]; exact hzl
        · rw [q]; exact Heap.lt_size hTI
        · rw [q]; exact Heap.lt_size hTO
        · rw [q]; obtain ⟨_, e1, _⟩ := h1; exact Heap.lt_size e1
        · rw [q]; obtain ⟨_, e2, _⟩ := h2; exact Heap.lt_size e2
      rw [upd_ne (Nat.ne_of_lt hlt)]
      exact (hf c hcm).1
  done := by
    intro X hP hw hK hc i pins s σ H E I hf st hg
    subst hP hw hK
    obtain ⟨hz, hTI, ⟨x0, y0, hTO⟩, h1, h2⟩ := st
    obtain ⟨xs, ys, hqx, hqy, hend⟩ := hg
    obtain ⟨its, rv, p, _⟩ := I.tuple hqx
    obtain ⟨its2, rv2, p2, _⟩ := I.tuple hqy
    have l1 := rv.length
    have l2 := rv2.length
    have he : its.toArray[i]? = none ∨ its2.toArray[i]? = none := by
      rcases hend with q | q
      · exact .inl (by simp; omega)
      · exact .inr (by simp; omega)
    have hTy : s.TypeIs (.ref z) "zip" := ⟨_, hz, rfl⟩
    unfold pyNext
    refine wpAny_bind (wpAny_attempt (wpAny_callSpecial?_slot (name := Str.ofString "__next__") hTy F.slot_zip_next (wpAny_call_entry F.slot_zip_next hTy F.entry_zip_next (zipT_end (I.ok.hd hc) D hz hTI hTO h1 h2 p p2 he fun h' e hk he' => ?_) (F.args_zip_next_1 _))))
    obtain ⟨o, ho, hc'⟩ := he'
    refine wpAny_bind (wpAny_isInstance (T := "StopIteration") (b := true) ⟨o, ho, hc'⟩ isSubtype_stop ?_)
    exact wpAny_pure ⟨rfl, I.turnedL (t' := s.toks) (ch := [z, TI, TO, i1, i2]) (fun c o hb q => hk c o (fun q' => hb (by simp [q'])) (fun q' => hb (by simp [q'])) (fun q' => hb (by simp [q'])) (fun q' => hb (by simp [q'])) q) hf⟩
  self := fun A i s Q E st h => wpAny_pyIter_zip st.1 h
def iZipT (K : PySem.W.Frag) (ta : TA) : TI := fun σ H R => ta σ H fun vs H1 => ∃ a b xs ys, vs = [.ref a, .ref b] ∧ SqT K H1 a xs ∧ SqT K H1 b ys ∧ R (ItzT K a b) H1
theorem pi_zipT {X : Cx} {e e2 : Expr} {ta : TA} {p pos tpos : Pos} {elts : List Expr} {kk : Nat} (hg : Gl X "zip") (hm : X.mg "zip" = none) (ha : PA X [e, e2] ta)
    (hs : starEach [e, e2] X.env = (false, eval e X.env) :: starEach [e2] X.env := by rfl) (hpl : (backTo pos (starEach [e2] X.env)).any (·.1) = false := by rfl) :
    PI X (.Tuple elts kk tpos) (.Call (.Name "zip" p) [e, e2] [] pos) (iZipT X.K ta) := by
  intro pins s σ H R I h
  refine Call_ (ld_blt I hg hm boot_zip5 (PyProof.Rows.callWith_type1 (thn (ha pos pins s σ H _ I h) fun us s1 ⟨vs, H1, I1, r1, q1⟩ => ?_) hs hpl))
  obtain ⟨a, b, xs, ys, ex, hqx, hqy, q⟩ := q1
  subst ex
  cases r1 with
  | cons r rr =>
    cases rr with
    | cons r' rr =>
      cases rr
      cases r
      cases r'
      obtain ⟨its, rv, p1, _⟩ := I1.tuple hqx
      obtain ⟨its2, rv2, p2, _⟩ := I1.tuple hqy
      refine call_zipT p1 p2 fun h' hz hTI hTO h1 h2 hsz hk => wpAny_pyIter_zip hz ?_
      have I2 : Inv X pins σ H1 { s1 with heap := h' } := I1.kept (t' := s1.toks) hk
      refine ⟨s1.heap.objs.size + 4, [s1.heap.objs.size + 4, s1.heap.objs.size + 2, s1.heap.objs.size + 3, s1.heap.objs.size, s1.heap.objs.size + 1], _, _, H1, rfl, I2, turn_zipT (PySem.W.ktu_apart s1.heap.objs.size a b p1.lt p2.lt), ⟨hz, hTI, ⟨_, _, hTO⟩, h1, h2⟩, fun c hcm => ?_, q⟩
      have hle : s1.heap.objs.size ≤ c := by
        rcases (show c = s1.heap.objs.size + 4 ∨ c = s1.heap.objs.size + 2 ∨ c = s1.heap.objs.size + 3 ∨ c = s1.heap.objs.size ∨ c = s1.heap.objs.size + 1 by simpa using hcm) with z | z | z | z | z <;> (rw [z]; omega)
      exact I1.fpOk hle (I1.hok.fresh hle)
theorem kZipT {X : Cx} (K : PySem.W.Frag) {e e2 : Expr} {ta : TA} {p pos tpos : Pos} {elts : List Expr} {kk : Nat} (hg : Gl X "zip") (hm : X.mg "zip" = none) (ha : PA X [e, e2] ta)
    (hs : starEach [e, e2] X.env = (false, eval e X.env) :: starEach [e2] X.env := by rfl) (hpl : (backTo pos (starEach [e2] X.env)).any (·.1) = false := by rfl) (ek : X.K = K := by rfl) :
    PI X (.Tuple elts kk tpos) (.Call (.Name "zip" p) [e, e2] [] pos) (iZipT K ta) := ek ▸ pi_zipT hg hm ha hs hpl
def dictIn (K : PySem.W.Frag) (a : Addr) (x : Str) : Option (Option Value) := match K.lookup a with
  | some o => (match o.data with
    | .dict es _ => if (o.cls == .type "dict" && o.dict.isNone && o.slots.isEmpty && !(a == sysModules) && es.toList.all fun e => isExactStrKey e.key) = true then some ((es.toList.find? fun e => e.key.isStr x).map (·.val)) else none
    | _ => none)
  | none => none
theorem dictIn_spec {K : PySem.W.Frag} {a : Addr} {x : Str} {r : Option Value} (h : dictIn K a x = some r) : (a == sysModules) = false ∧ ∃ o es ep, K.lookup a = some o ∧ o.ExactDict ∧ o.data = .dict es ep ∧ (es.toList.all fun e => isExactStrKey e.key) = true ∧ r = (es.toList.find? fun e => e.key.isStr x).map (·.val) := by
  unfold dictIn at h
  split at h
  · rename_i o ho
    split at h
    · rename_i es ep hd
      split at h
      · rename_i hc
        simp only [Bool.and_eq_true] at hc
        obtain ⟨⟨⟨⟨c1, c2⟩, c3⟩, c4⟩, c5⟩ := hc
        exact ⟨by simpa using c4, o, es, ep, ho, ⟨beq_iff_eq.mp c1, by simpa using c2, by simpa using c3⟩, hd, c5, (Option.some.inj h).symm⟩
      · cases h
    · cases h
  · cases h
section
variable {prog : Program} {w : World} {A : Around} {E : Value → Shared → Prop} {s : Shared} {K : PySem.W.Frag} {a : Addr} {k : Str} {tk : Tok} {r : Option Value}
theorem dk_typeIs (X : K.In s.heap) (h : dictIn K a k = some r) : s.TypeIs (.ref a) "dict" := by
  obtain ⟨_, o, es, ep, ho, hc, _⟩ := dictIn_spec h
  exact ⟨o, X _ _ ho, hc.1⟩
theorem dk_get {Q : Option Value → Shared → Prop} (X : K.In s.heap) (h : dictIn K a k = some r) (hQ : Q r { s with toks := s.toks + 1 }) : wpAny (model prog w) A (dictGet a (.str k tk)) Q E s := by
  obtain ⟨_, o, es, ep, ho, hc, hd, hall, hr⟩ := dictIn_spec h
  have g := X _ _ ho
  unfold dictGet
  try with_reducible refine wpAny_holding ?_
  refine wpAny_bind (wpAny_pyHash_str (wpAny_bind (KTD.kt_dictFind_strs (s := { s with toks := s.toks + 1 }) g hd (by obtain ⟨l⟩ := es; simpa using hall) ?_)))
  have hf : findBy (fun k v => v.isStr k) es k = r := by
    rw [hr]
    obtain ⟨l⟩ := es
    simp [findBy]
  rw [findBy_of_findIdx?] at hf
  cases hi : es.findIdx? fun e => e.key.isStr k with
  | none => rw [hi] at hf; exact wpAny_pure (by subst hf; exact hQ)
  | some i => rw [hi] at hf; exact wpAny_bind (wpAny_dictEntries (s := { s with toks := s.toks + 1 }) g hd (wpAny_pure (by subst hf; exact hQ)))
theorem dk_item {u : Value} {Q : Value → Shared → Prop} (X : K.In s.heap) (h : dictIn K a k = some (some u)) (hQ : Q u { s with toks := s.toks + 1 }) : wpAny (model prog w) A (getItem (.ref a) (.str k tk)) Q E s := by
  have hT := dk_typeIs X h
  unfold getItem
  try with_reducible refine wpAny_holding ?_
  refine wpAny_bind (wpAny_sequenceKey hT (by decide) ?_)
  refine wpAny_bind (wpAny_callSpecial?_slot (name := Str.ofString "__getitem__") hT slot_dict_getitem (wpAny_call_entry slot_dict_getitem hT entry_dict_getitem ?_ (args_dict_getitem _ _)))
  show wpAny _ _ (dictGet a (.str k tk) >>= _) _ _ s
  exact wpAny_bind (dk_get X h (wpAny_pure ⟨u, rfl, wpAny_pure hQ⟩))
theorem dk_in {Q : Value → Shared → Prop} (X : K.In s.heap) (h : dictIn K a k = some r) (hQ : Q (.bool r.isSome) { s with toks := s.toks + 1 }) : wpAny (model prog w) A (compareOp .In (.str k tk) (.ref a)) Q E s := by
  have hT := dk_typeIs X h
  show wpAny _ _ (do return .bool (← contains (.ref a) (.str k tk))) Q E s
  refine wpAny_bind ?_
  unfold contains
  try with_reducible refine wpAny_holding ?_
  refine wpAny_bind (wpAny_specialOf hT slot_dict_contains.lookup ?_)
  show wpAny _ _ (if (some (Value.builtin "dict.__contains__") == some Value.none) = true then _ else _) _ E s; rw [if_neg (by rw [beq_builtin_none]; exact Bool.false_ne_true)]
  refine wpAny_bind (wpAny_callSpecialUnlessNone?_slot (name := Str.ofString "__contains__") hT slot_dict_contains (wpAny_call_entry slot_dict_contains hT entry_dict_contains ?_ (args_dict_contains _ _)))
  show wpAny _ _ (dictGet a (.str k tk) >>= _) _ _ s
  refine wpAny_bind (dk_get X h ?_)
  cases r with
  | some u =>
    show wpAny _ _ (ret (.bool true)) _ _ _
    exact wpAny_pure ⟨_, rfl, wpAny_truthy_bool (wpAny_pure hQ)⟩
  | none =>
    show wpAny _ _ (Builtin.Dict.pendingKey? a (.str k tk) >>= _) _ _ _
    exact wpAny_bind (wpAny_pendingKey_other (dictIn_spec h).1 (wpAny_pure ⟨_, rfl, wpAny_truthy_bool (wpAny_pure hQ)⟩))
end
def tDGetK (K : PySem.W.Frag) (td ty : TE) : TE := fun σ H Q => td σ H fun x H1 => ty σ H1 fun y H2 => ∃ a k u v, x = .ref a ∧ y = .str k ∧ dictIn K a k = some (some u) ∧ RelV v u ∧ Q v H2
def tDInK (K : PySem.W.Frag) (ty td : TE) : TE := fun σ H Q => ty σ H fun y H1 => td σ H1 fun x H2 => ∃ a k r, x = .ref a ∧ y = .str k ∧ dictIn K a k = some r ∧ Q (.bl r.isSome) H2
section
variable {X : Cx} {o i e : Expr} {pos : Pos} {td ty : TE}
theorem pe_dgetK (K : PySem.W.Frag) (ho : PE X o td) (hi : PE X i ty) (hs : NoSl i) (ek : X.K = K := by rfl) : PE X (.Subscript o i pos) (tDGetK K td ty) := by
  subst ek
  intro pins s σ H Q I h
  refine subD_of PySem.F.slot_dict_getitem.lookup hs (thn (ho pins s σ H _ I h) fun u s1 ⟨x, H1, I1, rx, q1⟩ => thn (hi pins s1 σ H1 _ I1 q1) fun iv s2 ⟨y, H2, I2, ry, a, k, w', v, ex, ey, g, rv, q2⟩ => ?_)
  subst ex ey
  obtain rfl : u = Value.ref a := rx
  obtain ⟨t, rfl⟩ := (show ∃ t, iv = Value.str k t from ry)
  exact ⟨dk_typeIs I2.kIn g, dk_item I2.kIn g ⟨v, H2, I2.tok _, rv, q2⟩⟩
theorem pc_dinK (K : PySem.W.Frag) (hi : PE X i ty) (ho : PE X o td) (ek : X.K = K := by rfl) : PC X .In i o (tDInK K ty td) := by
  subst ek
  intro pins s σ H Q I h
  refine thn (hi pins s σ H _ I h) fun iv s1 ⟨y, H1, I1, ry, q1⟩ => thn (ho pins s1 σ H1 _ I1 q1) fun u s2 ⟨x, H2, I2, rx, a, k, r, ex, ey, g, q2⟩ => ?_
  subst ex ey
  obtain rfl : u = Value.ref a := rx
  obtain ⟨t, rfl⟩ := (show ∃ t, iv = Value.str k t from ry)
  exact dk_in I2.kIn g ⟨.bl r.isSome, H2, I2.tok _, rfl, q2⟩
end
def strsIn (K : PySem.W.Frag) (a : Addr) (ss : List Str) : Bool := match K.lookup a with
  | some o => (match o.data with
    | .seq its _ => o.cls == .type "tuple" && decide (its.size ≤ 1000) && KTD.strsLook its.toList ss
    | _ => false)
  | none => false
theorem strsLook_vals : ∀ {us : List Value} {ss : List Str}, KTD.strsLook us ss = true → Vals (ss.map V.str) us
  | us, ss, h => by
    have q := KTD.strs_of_look h
    clear h
    induction q with
    | nil => exact .nil
    | cons _ _ _ ih => exact .cons ⟨_, rfl⟩ ih
theorem strsIn_sq {K : PySem.W.Frag} {a : Addr} {ss : List Str} (h : strsIn K a ss = true) (H : Hp) : SqT K H a (ss.map V.str) := by
  unfold strsIn at h
  split at h
  · rename_i o ho
    split at h
    · rename_i its n hd
      simp only [Bool.and_eq_true, decide_eq_true_eq] at h
      obtain ⟨⟨c1, c2⟩, c3⟩ := h
      exact .inr ⟨o, its, n, ho, beq_iff_eq.mp c1, hd, Nat.le_trans c2 (by decide), strsLook_vals c3⟩
    · cases h
  · cases h
def MtC (P : Program) (w : World) (K : PySem.W.Frag) (mg : Str → Option Value) (base : Heap) (k : Nat) (C : Addr) (m : Str) (ps : List Str) (sp : Sp) : Prop :=
  ∃ f fd, Cls K C ∧ Meth K C m f ∧ FnOk P w K mg base CX0 k f fd ps sp ∧ Binds K fd ps []
theorem MtC.mono {P : Program} {w : World} {K : PySem.W.Frag} {mg : Str → Option Value} {base : Heap} {j k : Nat} {C : Addr} {m : Str} {ps : List Str} {sp : Sp} (c : MtC P w K mg base j C m ps sp) (h : j ≤ k) : MtC P w K mg base k C m ps sp := by
  obtain ⟨f, fd, a, b, F, r⟩ := c
  exact ⟨f, fd, a, b, F.mono h, r⟩
section
variable {X : Cx} {k : Nat} {C : Addr} {ps : List Str} {sp : Sp} {x m : Str} {p pos apos : Pos} {e o : Expr} {es : List Expr} {ta : TE} {t : TA}
end
section
variable {σ : St} {H : Hp} {Q : VK} {K : PySem.W.Frag} {ta tv te : TE} {t : TA} {f m : Str} {nx bk ct : St → Hp → Prop} {rt : VK} {C a : Addr} {sp : Sp} {R : It → Hp → Prop}
def qDGK (K : PySem.W.Frag) (x y : V) (H2 : Hp) (Q : VK) : Prop := ∃ a k u v, x = .ref a ∧ y = .str k ∧ dictIn K a k = some (some u) ∧ RelV v u ∧ Q v H2
def qDIK (K : PySem.W.Frag) (y x : V) (H2 : Hp) (Q : VK) : Prop := ∃ a k r, x = .ref a ∧ y = .str k ∧ dictIn K a k = some r ∧ Q (.bl r.isSome) H2
theorem go_dgetK (h : ta σ H fun x H1 => te σ H1 fun y H2 => qDGK K x y H2 Q) : tDGetK K ta te σ H Q := h
theorem go_dinK (h : te σ H fun y H1 => ta σ H1 fun x H2 => qDIK K y x H2 Q) : tDInK K te ta σ H Q := h
theorem go_qdgK {k : Str} {u : Value} {v : V} (e : dictIn K a k = some (some u)) (r : RelV v u) (q : Q v H) : qDGK K (.ref a) (.str k) H Q := ⟨a, k, u, v, rfl, rfl, e, r, q⟩
theorem go_qdiK {k : Str} {r : Option Value} (e : dictIn K a k = some r) (q : Q (.bl r.isSome) H) : qDIK K (.str k) (.ref a) H Q := ⟨a, k, r, rfl, rfl, e, q⟩
def qEnumT (K : PySem.W.Frag) (vs : List V) (H1 : Hp) (R : It → Hp → Prop) : Prop := ∃ a xs, vs = [.ref a] ∧ SqT K H1 a xs ∧ R (IteT K a) H1
def qZipT (K : PySem.W.Frag) (vs : List V) (H1 : Hp) (R : It → Hp → Prop) : Prop := ∃ a b xs ys, vs = [.ref a, .ref b] ∧ SqT K H1 a xs ∧ SqT K H1 b ys ∧ R (ItzT K a b) H1
theorem go_enumT (h : t σ H fun vs H1 => qEnumT K vs H1 R) : iEnumT K t σ H R := h
theorem go_qenumT {xs : List V} (h : H a = some (.tup xs)) (q : R (IteT K a) H) : qEnumT K [.ref a] H R := ⟨a, xs, rfl, SqT.of h, q⟩
theorem go_zipT (h : t σ H fun vs H1 => qZipT K vs H1 R) : iZipT K t σ H R := h
theorem go_qzipT {b : Addr} {xs ys : List V} (h : SqT K H a xs) (h' : SqT K H b ys) (q : R (ItzT K a b) H) : qZipT K [.ref a, .ref b] H R := ⟨a, b, xs, ys, rfl, h, h', q⟩
end
end L2
set_option Elab.async false
set_option linter.all false
set_option maxRecDepth 100000
namespace L2
open PySem PySem.Spec PyProof.Rows
section
variable {σ : St} {H : Hp} {Q : VK} {K : PySem.W.Frag} {nx bk ct : St → Hp → Prop} {rt : VK} {p b : Addr} {g : TG} {tb : TS}
theorem fq_enumT (xs : List V) (Pv : Nat → St → Hp → Prop) (h0 : Pv 0 σ H) (hl : ∀ (i : Nat) (σ : St) (H : Hp), i ≤ xs.length → Pv i σ H → SqT K H p xs)
    (hs : ∀ (i : Nat) (x : V) (σ : St) (H : Hp) (t : Addr), xs[i]? = some x → H t = none → Pv i σ H → g (.ref t) σ (upd H t (.tup [.int (i : Nat), x])) fun σ2 H2 => tb ⟨Pv (i + 1), rt, nx, Pv (i + 1)⟩ σ2 H2) (hd : ∀ σ H, Pv xs.length σ H → nx σ H) :
    forQ (IteT K p) g tb ⟨nx, rt, bk, ct⟩ σ H := by
  refine ⟨fun i m σ H => m = xs.length - i ∧ i ≤ xs.length ∧ Pv i σ H, ⟨_, rfl, Nat.zero_le _, h0⟩, ?_⟩
  rintro i m σ H ⟨rfl, hi, q⟩
  have sq := hl i σ H hi q
  by_cases lt : i < xs.length
  · refine .inr ⟨⟨xs, xs[i], sq, List.getElem?_eq_getElem lt⟩, Pv (i + 1), fun σ' H' q' => ⟨xs.length - (i + 1), by omega, rfl, lt, q'⟩, fun x H' y => ?_⟩
    obtain ⟨t, x', rfl, ht, rfl, hx⟩ := y
    exact hs i x' σ H t (hx xs sq) ht q
  · have e : i = xs.length := by omega
    subst e
    exact .inl ⟨⟨xs, sq, Nat.le_refl _⟩, hd σ H q⟩
theorem fq_zipT (xs ys : List V) (hlen : xs.length = ys.length) (Pv : Nat → St → Hp → Prop) (h0 : Pv 0 σ H) (hl : ∀ (i : Nat) (σ : St) (H : Hp), i ≤ xs.length → Pv i σ H → SqT K H p xs ∧ SqT K H b ys)
    (hs : ∀ (i : Nat) (x y : V) (σ : St) (H : Hp) (t : Addr), xs[i]? = some x → ys[i]? = some y → H t = none → Pv i σ H → g (.ref t) σ (upd H t (.tup [x, y])) fun σ2 H2 => tb ⟨Pv (i + 1), rt, nx, Pv (i + 1)⟩ σ2 H2) (hd : ∀ σ H, Pv xs.length σ H → nx σ H) :
    forQ (ItzT K p b) g tb ⟨nx, rt, bk, ct⟩ σ H := by
  refine ⟨fun i m σ H => m = xs.length - i ∧ i ≤ xs.length ∧ Pv i σ H, ⟨_, rfl, Nat.zero_le _, h0⟩, ?_⟩
  rintro i m σ H ⟨rfl, hi, q⟩
  obtain ⟨sq, sq'⟩ := hl i σ H hi q
  by_cases lt : i < xs.length
  · refine .inr ⟨⟨xs, ys, xs[i], ys[i], sq, sq', List.getElem?_eq_getElem lt, List.getElem?_eq_getElem (by omega)⟩, Pv (i + 1), fun σ' H' q' => ⟨xs.length - (i + 1), by omega, rfl, lt, q'⟩, fun x H' y => ?_⟩
    obtain ⟨t, x', y', rfl, ht, rfl, hx, hy⟩ := y
    exact hs i x' y' σ H t (hx xs sq) (hy ys sq') ht q
  · have e : i = xs.length := by omega
    subst e
    exact .inl ⟨⟨xs, ys, sq, sq', .inl (Nat.le_refl _)⟩, hd σ H q⟩
theorem go_lenTs {ys : List V} (h : SqT K H p ys) (q : Q (.int ys.length) H) : rLen K [.ref p] H Q := ⟨p, ys, rfl, .inr h, q⟩
end
section
variable {X : Cx} (K : PySem.W.Frag) {o e value : Expr} {f : Str} {pos pos' tpos : Pos} {ta tv : TE}
end
theorem pe_gref {X : Cx} {x : Str} {a : Addr} {pos : Pos} (hg : Gl X x) (hm : X.mg x = some (.ref a)) (hd : (x == ("__debug__" : Str)) = false := by decide) : PE X (.Name x pos) (tC (.ref a)) := pe_glob (v := .ref a) hg hm rfl hd
section
variable {σ : St} {H : Hp} {K : PySem.W.Frag} {ta : TE} {QB : Bool → Hp → Prop} {p : Addr} {Q : VK}
theorem go_pop {xs : List V} {y : V} (h : H p = some (.lst xs)) (e : xs[xs.length - 1]? = some y) (q : Q y (upd H p (.lst xs.dropLast))) : rPop (.ref p) [] H Q := ⟨p, xs, y, rfl, rfl, h, e, q⟩
end
structure ClsN (K : PySem.W.Frag) (C : Addr) (ks : List Str) : Prop where
  c : Cls K C
  n : ∀ k ∈ ks, NoAttr K C k
section
variable {H : Hp} {Q : VK} {K : PySem.W.Frag} {a C dx : Addr} {ks : List Str} {vs : List V} {k : Str} {v y : V} {nx : St → Hp → Prop} {σ : St}
end
end L2
set_option Elab.async false
set_option linter.all false
set_option maxRecDepth 100000
namespace Lw
open PySem L2
section
variable {H : Hp} {Q : VK} {QH R : Hp → Prop} {K : PySem.W.Frag} {a C dx : Addr} {v0 v1 v2 v3 v4 y : V} {nx : St → Hp → Prop} {σ : St} {tv : TE} {rd : V → V → Hp → VK → Prop}
end
section
variable {H : Hp} {Q : VK} {QH R : Hp → Prop} {K : PySem.W.Frag} {a C dx : Addr} {v0 v1 v2 v3 v4 v5 v6 v7 y : V} {nx : St → Hp → Prop} {σ : St} {tv : TE} {rd : V → V → Hp → VK → Prop}
end
def dK : List Str := ["row", "change", "was", "done"]
section
variable {H : Hp} {Q : VK} {QH R : Hp → Prop} {K : PySem.W.Frag} {a C dx : Addr} {v0 v1 v2 v3 y : V} {nx : St → Hp → Prop} {σ : St} {tv : TE} {rd : V → V → Hp → VK → Prop}
end
section
variable {H : Hp} {Q : VK} {QH R : Hp → Prop} {K : PySem.W.Frag} {a C dx : Addr} {v0 v1 v2 v3 v4 v5 v6 v7 v8 v9 v10 v11 v12 v13 y : V} {nx : St → Hp → Prop} {σ : St} {tv : TE} {rd : V → V → Hp → VK → Prop}
end
end Lw
set_option Elab.async false
set_option linter.all false
set_option maxRecDepth 100000
namespace L2
open PySem PySem.Spec PyProof.Rows
section
variable {X : Cx} {e : Expr} {es : List Expr} {te : TE} {k : Str → TE} {pos : Pos}
def PF (X : Cx) (es : List Expr) (k : Str → TE) : Prop :=
  ∀ (acc : Str) (pins : List (Addr × Obj)) (s : Shared) (σ : St) (H : Hp) (Q : VK), Inv X pins σ H s → k acc σ H Q → wpAny (model X.prog X.w) X.A (joinParts acc (evalEach es X.env)) (EP X pins σ Q) X.xe s
def tFNil : Str → TE := fun acc _ H Q => acc.length ≤ sizeLine ∧ Q (.str acc) H
def qFP (acc : Str) (k : Str → TE) (σ : St) (Q : VK) (v : V) (H1 : Hp) : Prop := ∃ y, v = .str y ∧ (acc ++ y).length ≤ sizeLine ∧ k (acc ++ y) σ H1 Q
def tFCons (te : TE) (k : Str → TE) : Str → TE := fun acc σ H Q => te σ H fun v H1 => qFP acc k σ Q v H1
theorem pf_nil : PF X [] tFNil := fun acc pins s σ H Q I h => joinParts_nil ⟨.str acc, H, I.tok _, ⟨_, rfl⟩, h.2⟩ h.1
theorem pf_cons (he : PE X e te) (hk : PF X es k) (h0 : evalEach (e :: es) X.env = eval e X.env :: evalEach es X.env := by rfl) : PF X (e :: es) (tFCons te k) := fun acc pins s σ H Q I h => by
  rw [h0]
  refine joinParts_cons (thn (he pins s σ H _ I h) fun u s1 ⟨v, H1, I1, r, y, e1, hz, q⟩ => ?_)
  subst e1
  obtain ⟨t, rfl⟩ := r
  exact ⟨hz, hk (acc ++ y) pins s1 σ H1 Q I1 q⟩
theorem pe_fstr {v1 v2 : Expr} (h : PF X (v1 :: v2 :: es) k) (h0 : evalEach (v1 :: v2 :: es) X.env = eval v1 X.env :: eval v2 X.env :: evalEach es X.env := by rfl) : PE X (.JoinedStr (v1 :: v2 :: es) pos) (k Str.empty) := fun pins s σ H Q I q => by
  refine JoinedStr_many ?_
  have := h Str.empty pins s σ H Q I q
  rw [h0] at this
  exact this
def qFv (Q : VK) (v : V) (H1 : Hp) : Prop := (∃ n : Int, v = .int n ∧ n.natAbs.log2 < 1920 ∧ Q (.str (toString n)) H1) ∨ ∃ y : Str, v = .str y ∧ y.length ≤ sizeLine ∧ Q (.str y) H1
def tFv (te : TE) : TE := fun σ H Q => te σ H fun v H1 => qFv Q v H1
theorem pe_fv (he : PE X e te) : PE X (.FormattedValue e (-1) none pos) (tFv te) := fun pins s σ H Q I h => by
  refine FormattedValue_plain (thn (he pins s σ H _ I h) fun u s1 ⟨v, H1, I1, r, q⟩ => ?_)
  rcases q with ⟨n, rfl, hd, q⟩ | ⟨y, rfl, hz, q⟩
  · obtain ⟨t, rfl⟩ := r
    exact formatField_int_small hd ⟨.str _, H1, (I1.tok _).tok _, ⟨_, rfl⟩, q⟩
  · obtain ⟨t, rfl⟩ := r
    exact formatField_str (fun t' tk => ⟨.str y, H1, I1.kept (t' := tk) fun b o e => e, ⟨_, rfl⟩, q⟩) hz
theorem mt_isascii : MtR X "str.isascii" (fun x xs H Q => ∃ a, x = .str a ∧ xs = [] ∧ True ∧ Q (.bl (Txt.isascii a)) H) :=
  mt0 (C := fun _ => True) (g := fun a => .bl (Txt.isascii a)) fun _ _ s _ _ h => PySem.SC.isascii (h _ s.toks rfl)
end
section
variable {σ : St} {H : Hp} {Q : VK} {te : TE} {k : Str → TE} {acc y : Str} {n : Int}
theorem go_fnil (l : acc.length ≤ sizeLine) (q : Q (.str acc) H) : tFNil acc σ H Q := ⟨l, q⟩
theorem go_fcons (h : te σ H fun v H1 => qFP acc k σ Q v H1) : tFCons te k acc σ H Q := h
theorem go_qfp (l : (acc ++ y).length ≤ sizeLine) (q : k (acc ++ y) σ H Q) : qFP acc k σ Q (.str y) H := ⟨y, rfl, l, q⟩
theorem go_fv (h : te σ H fun v H1 => qFv Q v H1) : tFv te σ H Q := h
theorem go_fvI (l : n.natAbs.log2 < 1920) (q : Q (.str (toString n)) H) : qFv Q (.int n) H := .inl ⟨n, rfl, l, q⟩
theorem go_fvS (l : y.length ≤ sizeLine) (q : Q (.str y) H) : qFv Q (.str y) H := .inr ⟨y, rfl, l, q⟩
end
def qStar (K : PySem.W.Frag) (t : TA) (σ : St) (Q : List V → Hp → Prop) (x : V) (H1 : Hp) : Prop := ∃ a xs, x = .ref a ∧ SqL K H1 a xs ∧ t σ H1 fun vs H2 => Q (xs ++ vs) H2
def tStar (K : PySem.W.Frag) (te : TE) (t : TA) : TA := fun σ H Q => te σ H fun x H1 => qStar K t σ Q x H1
theorem pa_star {X : Cx} {e : Expr} {es : List Expr} {te : TE} {t : TA} {p : Pos} (ha : PE X e te) (hr : PA X es t) (hs : starEach (.Starred e p :: es) X.env = (true, eval e X.env) :: starEach es X.env := by rfl) : PA X (.Starred e p :: es) (tStar X.K te t) := by
  intro pos pins s σ H Q I h
  rw [hs]
  show wpAny _ _ (spliced ((true, do let v ← eval e X.env; standAt pos; pure v) :: backTo pos (starEach es X.env))) _ _ s
  rw [spliced]
  refine wpAny_bind (wpAny_bind (thn (ha pins s σ H _ I h) fun u s1 ⟨x, H1, I1, r1, a, xs, e1, hx, q1⟩ => ?_))
  subst e1
  cases r1
  refine wpAny_bind (wpAny_standAt (wpAny_pure ?_))
  obtain ⟨its, r, ht, hz⟩ := I1.list hx
  simp only [if_true]
  unfold notIterableAtAll
  refine wpAny_bind (wpAny_bind (wpAny_specialOf (T := "list") ht.isList.typeIs slot_list_iter.lookup ?_))
  rw [if_pos (by rfl : (some (Value.builtin "list.__iter__")).isSome = true)]
  refine wpAny_pure ?_
  rw [if_neg (by decide)]
  refine wpAny_bind (collect_list ht.isList ?_ (by rw [← r.length]; exact hz))
  have I2 : Inv X pins σ H1 { s1 with heap := (s1.heap.push (seqObj "list" #[] 0)).update s1.heap.objs.size (Obj.mapSeq (· ++ its.toArray)) } := I1.kept (t' := s1.toks) fun b o e => by
    have hne : b ≠ s1.heap.objs.size := Nat.ne_of_lt (Heap.lt_size e)
    rw [Heap.get?_update_ne _ _ _ _ hne]
    exact Heap.get?_push_of_some _ e
  refine wpAny_bind (wpAny_holding (thn (hr pos pins _ σ H1 _ I2 q1) fun us s2 ⟨vs, H2, I3, r2, q2⟩ => ?_))
  exact wpAny_pure ⟨xs ++ vs, H2, I3, r.append r2, q2⟩
theorem kStar {X : Cx} (K : PySem.W.Frag) {e : Expr} {es : List Expr} {te : TE} {t : TA} {p : Pos} (ha : PE X e te) (hr : PA X es t) (hs : starEach (.Starred e p :: es) X.env = (true, eval e X.env) :: starEach es X.env := by rfl) (ek : X.K = K := by rfl) : PA X (.Starred e p :: es) (tStar K te t) := ek ▸ pa_star ha hr hs
section
variable {σ : St} {H : Hp} {te : TE} {t : TA} {K : PySem.W.Frag} {Q : List V → Hp → Prop} {a : Addr} {xs : List V}
theorem go_star (h : te σ H fun x H1 => qStar K t σ Q x H1) : tStar K te t σ H Q := h
theorem go_qstar (h : H a = some (.lst xs)) (q : t σ H fun vs H2 => Q (xs ++ vs) H2) : qStar K t σ Q (.ref a) H := ⟨a, xs, rfl, SqL.of h, q⟩
end
def rSplit : V → List V → Hp → VK → Prop := fun x xs H Q => ∃ a b, x = .str a ∧ xs = [.str b] ∧ (b.length == 0) = false ∧ a.length + 2 ≤ sizeLine ∧ rNewStrs (Txt.split a b) H Q
def rJoin (K : PySem.W.Frag) : V → List V → Hp → VK → Prop := fun x xs H Q => ∃ a p, ∃ ys : List Str, x = .str a ∧ xs = [.ref p] ∧ (SqL K H p (ys.map V.str) ∨ SqT K H p (ys.map V.str)) ∧ (ys.map (·.length)).sum + ys.length * a.length ≤ 16777216 ∧ Q (.str (Txt.join a ys)) H
def rDigit : V → List V → Hp → VK → Prop := fun x xs H Q => ∃ a, x = .str a ∧ xs = [] ∧ True ∧ Q (.bl (Txt.isdigit a)) H
def rAscii : V → List V → Hp → VK → Prop := fun x xs H Q => ∃ a, x = .str a ∧ xs = [] ∧ True ∧ Q (.bl (Txt.isascii a)) H
def rStarts : V → List V → Hp → VK → Prop := fun x xs H Q => ∃ a b, x = .str a ∧ xs = [.str b] ∧ Q (.bl (Txt.startswith a b)) H
def rStrI : List V → Hp → VK → Prop := fun xs H Q => ∃ i : Int, xs = [.int i] ∧ i.natAbs.log2 < 1920 ∧ Q (.str (toString i)) H
def rIntS : List V → Hp → VK → Prop := fun xs H Q => ∃ a n, xs = [.str a] ∧ PySem.intText? a = some n ∧ a.length ≤ 640 ∧ Q (.int n) H
section
variable {X : Cx} {o e : Expr} {to te : TE} {apos pos : Pos}
theorem cr_strI : CallR X (.type "str") rStrI := call_str_int
theorem cr_intS : CallR X (.type "int") rIntS := call_int_str
theorem kSplit (ho : PE X o to) (he : PE X e te) (hs : starEach [e] X.env = [(false, eval e X.env)] := by rfl) (hbase : attributeBase o "split" X.env (eval o X.env) = eval o X.env := by rfl) (hline : (apos.endLine == pos.line) = true := by rfl) : PE X (.Call (.Attribute o "split" apos) [e] [] pos) (tM1 rSplit to te) := pe_split ho he hs hbase hline
theorem kJoin (K : PySem.W.Frag) (ho : PE X o to) (he : PE X e te) (hs : starEach [e] X.env = [(false, eval e X.env)] := by rfl) (hbase : attributeBase o "join" X.env (eval o X.env) = eval o X.env := by rfl) (hline : (apos.endLine == pos.line) = true := by rfl) (ek : X.K = K := by rfl) : PE X (.Call (.Attribute o "join" apos) [e] [] pos) (tM1 (rJoin K) to te) := ek ▸ pe_join ho he hs hbase hline
theorem kDigit (ho : PE X o to) (hbase : attributeBase o "isdigit" X.env (eval o X.env) = eval o X.env := by rfl) (hline : (apos.endLine == pos.line) = true := by rfl) : PE X (.Call (.Attribute o "isdigit" apos) [] [] pos) (tM0 rDigit to) := pe_m0 F.slot_str_isdigit F.type_str_isdigit mt_isdigit ho hbase hline
theorem kAscii (ho : PE X o to) (hbase : attributeBase o "isascii" X.env (eval o X.env) = eval o X.env := by rfl) (hline : (apos.endLine == pos.line) = true := by rfl) : PE X (.Call (.Attribute o "isascii" apos) [] [] pos) (tM0 rAscii to) := pe_m0 F.slot_str_isascii F.type_str_isascii mt_isascii ho hbase hline
theorem kStarts (ho : PE X o to) (he : PE X e te) (hs : starEach [e] X.env = [(false, eval e X.env)] := by rfl) (hbase : attributeBase o "startswith" X.env (eval o X.env) = eval o X.env := by rfl) (hline : (apos.endLine == pos.line) = true := by rfl) : PE X (.Call (.Attribute o "startswith" apos) [e] [] pos) (tM1 rStarts to te) := pe_m1 F.slot_str_startswith F.type_str_startswith mt_startswith ho he hs hbase hline
end
def qM0 (r : V → List V → Hp → VK → Prop) (Q : VK) (x : V) (H1 : Hp) : Prop := (∃ a, x = .str a) ∧ r x [] H1 Q
def qM1 (r : V → List V → Hp → VK → Prop) (te : TE) (σ : St) (Q : VK) (x : V) (H1 : Hp) : Prop := (∃ a, x = .str a) ∧ te σ H1 fun y H2 => r x [y] H2 Q
section
variable {r : V → List V → Hp → VK → Prop} {K : PySem.W.Frag} {σ : St} {H : Hp} {Q : VK} {to te : TE} {a b : Str} {p : Addr} {ys : List Str} {n : Int} {c : Nat} {lo hi : Option Int}
theorem go_m0 (h : to σ H fun x H1 => qM0 r Q x H1) : tM0 r to σ H Q := h
theorem go_m1 (h : to σ H fun x H1 => qM1 r te σ Q x H1) : tM1 r to te σ H Q := h
theorem go_qm0 (q : r (.str a) [] H Q) : qM0 r Q (.str a) H := ⟨⟨a, rfl⟩, q⟩
theorem go_qm1 (q : te σ H fun y H2 => r (.str a) [y] H2 Q) : qM1 r te σ Q (.str a) H := ⟨⟨a, rfl⟩, q⟩
theorem go_split (e : (b.length == 0) = false) (l : a.length + 2 ≤ sizeLine) (q : ∀ p, H p = none → Q (.ref p) (upd H p (.lst ((Txt.split a b).map V.str)))) : rSplit (.str a) [.str b] H Q := ⟨a, b, rfl, rfl, e, l, q⟩
theorem go_joinS (h : H p = some (.lst (ys.map V.str))) (l : (ys.map (·.length)).sum + ys.length * a.length ≤ 16777216) (q : Q (.str (Txt.join a ys)) H) : rJoin K (.str a) [.ref p] H Q := ⟨a, p, ys, rfl, rfl, .inl (SqL.of h), l, q⟩
theorem go_digit (q : Q (.bl (Txt.isdigit a)) H) : rDigit (.str a) [] H Q := ⟨a, rfl, rfl, trivial, q⟩
theorem go_ascii (q : Q (.bl (Txt.isascii a)) H) : rAscii (.str a) [] H Q := ⟨a, rfl, rfl, trivial, q⟩
theorem go_starts (q : Q (.bl (Txt.startswith a b)) H) : rStarts (.str a) [.str b] H Q := ⟨a, b, rfl, rfl, q⟩
theorem go_strI (l : n.natAbs.log2 < 1920) (q : Q (.str (toString n)) H) : rStrI [.int n] H Q := ⟨n, rfl, l, q⟩
theorem go_intS (e : PySem.intText? a = some n) (l : a.length ≤ 640) (q : Q (.int n) H) : rIntS [.str a] H Q := ⟨a, n, rfl, e, l, q⟩
theorem go_ixS (l : a.length ≤ sizeLine) (e : atI a.cps.toList n = some c) (q : Q (.str ⟨#[c]⟩) H) : rIxS (.str a) (.int n) H Q := ⟨a, n, c, rfl, rfl, l, e, q⟩
theorem go_slS (l : a.length ≤ sizeLine) (q : Q (.str (cutS a lo hi)) H) : rSlS (.str a) lo hi H Q := ⟨a, rfl, l, q⟩
end
end L2
set_option Elab.async false
set_option linter.all false
set_option maxRecDepth 100000
namespace Lw
open PySem L2
def numT (n : Int) : Str := toString n
def numOk (n : Nat) : Bool := let w := numT ((n : Nat) : Int); decide (w.length ≤ 5) && decide (0 < w.length) && Txt.isascii w && Txt.isdigit w && (decide (w.length ≤ 1) || w.cps.getD 0 0 != 48) && (PySem.intText? w == some (n : Int)) && w.cps.all (fun c => decide (48 ≤ c) && decide (c ≤ 57))
def numR (a c : Nat) : Bool := (List.range c).all fun k => numOk (a + k)
theorem num_0 : numR 0 250 = true := by decide +kernel
theorem num_1 : numR 250 250 = true := by decide +kernel
theorem num_2 : numR 500 250 = true := by decide +kernel
theorem num_3 : numR 750 250 = true := by decide +kernel
theorem num_4 : numR 1000 250 = true := by decide +kernel
theorem num_5 : numR 1250 250 = true := by decide +kernel
theorem num_6 : numR 1500 250 = true := by decide +kernel
theorem num_7 : numR 1750 250 = true := by decide +kernel
theorem num_8 : numR 2000 250 = true := by decide +kernel
theorem num_9 : numR 2250 250 = true := by decide +kernel
theorem num_10 : numR 2500 250 = true := by decide +kernel
theorem num_11 : numR 2750 250 = true := by decide +kernel
theorem num_12 : numR 3000 250 = true := by decide +kernel
theorem num_13 : numR 3250 250 = true := by decide +kernel
theorem num_14 : numR 3500 250 = true := by decide +kernel
theorem num_15 : numR 3750 250 = true := by decide +kernel
theorem num_16 : numR 4000 250 = true := by decide +kernel
theorem num_17 : numR 4250 250 = true := by decide +kernel
theorem num_18 : numR 4500 250 = true := by decide +kernel
theorem num_19 : numR 4750 250 = true := by decide +kernel
theorem num_20 : numR 5000 250 = true := by decide +kernel
theorem num_21 : numR 5250 250 = true := by decide +kernel
theorem num_22 : numR 5500 250 = true := by decide +kernel
theorem num_23 : numR 5750 250 = true := by decide +kernel
theorem num_24 : numR 6000 250 = true := by decide +kernel
theorem num_25 : numR 6250 250 = true := by decide +kernel
theorem num_26 : numR 6500 250 = true := by decide +kernel
theorem num_27 : numR 6750 250 = true := by decide +kernel
theorem num_28 : numR 7000 250 = true := by decide +kernel
theorem num_29 : numR 7250 250 = true := by decide +kernel
theorem num_30 : numR 7500 250 = true := by decide +kernel
theorem num_31 : numR 7750 250 = true := by decide +kernel
theorem num_32 : numR 8000 250 = true := by decide +kernel
theorem num_33 : numR 8250 250 = true := by decide +kernel
theorem num_34 : numR 8500 250 = true := by decide +kernel
theorem num_35 : numR 8750 250 = true := by decide +kernel
theorem num_36 : numR 9000 250 = true := by decide +kernel
theorem num_37 : numR 9250 250 = true := by decide +kernel
theorem num_38 : numR 9500 250 = true := by decide +kernel
theorem num_39 : numR 9750 250 = true := by decide +kernel
theorem num_40 : numR 10000 7 = true := by decide +kernel
theorem numR_at {a c m : Nat} (h : numR a c = true) (h1 : a ≤ m) (h2 : m < a + c) : numOk m = true := by
  have q := List.all_eq_true.mp h (m - a) (List.mem_range.mpr (by omega))
  rwa [show a + (m - a) = m by omega] at q
theorem num_all {m : Nat} (h : m < 10007) : numOk m = true := by
  rcases Nat.lt_or_ge m 250 with c0 | c0
  · exact numR_at num_0 (by omega) c0
  rcases Nat.lt_or_ge m 500 with c1 | c1
  · exact numR_at num_1 (by omega) c1
  rcases Nat.lt_or_ge m 750 with c2 | c2
  · exact numR_at num_2 (by omega) c2
  rcases Nat.lt_or_ge m 1000 with c3 | c3
  · exact numR_at num_3 (by omega) c3
  rcases Nat.lt_or_ge m 1250 with c4 | c4
  · exact numR_at num_4 (by omega) c4
  rcases Nat.lt_or_ge m 1500 with c5 | c5
  · exact numR_at num_5 (by omega) c5
  rcases Nat.lt_or_ge m 1750 with c6 | c6
  · exact numR_at num_6 (by omega) c6
  rcases Nat.lt_or_ge m 2000 with c7 | c7
  · exact numR_at num_7 (by omega) c7
  rcases Nat.lt_or_ge m 2250 with c8 | c8
  · exact numR_at num_8 (by omega) c8
  rcases Nat.lt_or_ge m 2500 with c9 | c9
  · exact numR_at num_9 (by omega) c9
  rcases Nat.lt_or_ge m 2750 with c10 | c10
  · exact numR_at num_10 (by omega) c10
  rcases Nat.lt_or_ge m 3000 with c11 | c11
  · exact numR_at num_11 (by omega) c11
  rcases Nat.lt_or_ge m 3250 with c12 | c12
  · exact numR_at num_12 (by omega) c12
  rcases Nat.lt_or_ge m 3500 with c13 | c13
  · exact numR_at num_13 (by omega) c13
  rcases Nat.lt_or_ge m 3750 with c14 | c14
  · exact numR_at num_14 (by omega) c14
  rcases Nat.lt_or_ge m 4000 with c15 | c15
  · exact numR_at num_15 (by omega) c15
  rcases Nat.lt_or_ge m 4250 with c16 | c16
  · exact numR_at num_16 (by omega) c16
  rcases Nat.lt_or_ge m 4500 with c17 | c17
  · exact numR_at num_17 (by omega) c17
  rcases Nat.lt_or_ge m 4750 with c18 | c18
  · exact numR_at num_18 (by omega) c18
  rcases Nat.lt_or_ge m 5000 with c19 | c19
  · exact numR_at num_19 (by omega) c19
  rcases Nat.lt_or_ge m 5250 with c20 | c20
  · exact numR_at num_20 (by omega) c20
  rcases Nat.lt_or_ge m 5500 with c21 | c21
  · exact numR_at num_21 (by omega) c21
  rcases Nat.lt_or_ge m 5750 with c22 | c22
  · exact numR_at num_22 (by omega) c22
  rcases Nat.lt_or_ge m 6000 with c23 | c23
  · exact numR_at num_23 (by omega) c23
  rcases Nat.lt_or_ge m 6250 with c24 | c24
  · exact numR_at num_24 (by omega) c24
  rcases Nat.lt_or_ge m 6500 with c25 | c25
  · exact numR_at num_25 (by omega) c25
  rcases Nat.lt_or_ge m 6750 with c26 | c26
  · exact numR_at num_26 (by omega) c26
  rcases Nat.lt_or_ge m 7000 with c27 | c27
  · exact numR_at num_27 (by omega) c27
  rcases Nat.lt_or_ge m 7250 with c28 | c28
  · exact numR_at num_28 (by omega) c28
  rcases Nat.lt_or_ge m 7500 with c29 | c29
  · exact numR_at num_29 (by omega) c29
  rcases Nat.lt_or_ge m 7750 with c30 | c30
  · exact numR_at num_30 (by omega) c30
  rcases Nat.lt_or_ge m 8000 with c31 | c31
  · exact numR_at num_31 (by omega) c31
  rcases Nat.lt_or_ge m 8250 with c32 | c32
  · exact numR_at num_32 (by omega) c32
  rcases Nat.lt_or_ge m 8500 with c33 | c33
  · exact numR_at num_33 (by omega) c33
  rcases Nat.lt_or_ge m 8750 with c34 | c34
  · exact numR_at num_34 (by omega) c34
  rcases Nat.lt_or_ge m 9000 with c35 | c35
  · exact numR_at num_35 (by omega) c35
  rcases Nat.lt_or_ge m 9250 with c36 | c36
  · exact numR_at num_36 (by omega) c36
  rcases Nat.lt_or_ge m 9500 with c37 | c37
  · exact numR_at num_37 (by omega) c37
  rcases Nat.lt_or_ge m 9750 with c38 | c38
  · exact numR_at num_38 (by omega) c38
  rcases Nat.lt_or_ge m 10000 with c39 | c39
  · exact numR_at num_39 (by omega) c39
  exact numR_at num_40 (by omega) (by omega)
structure NumT (n : Int) (w : Str) : Prop where
  len : w.length ≤ 5
  pos : 0 < w.length
  asc : Txt.isascii w = true
  dig : Txt.isdigit w = true
  zero : w.length ≤ 1 ∨ w.cps.getD 0 0 ≠ 48
  int : PySem.intText? w = some n
  all : ∀ c ∈ w.cps.toList, 48 ≤ c ∧ c ≤ 57
theorem num_t {n : Int} (h0 : 0 ≤ n) (h1 : n ≤ 10006) : NumT n (numT n) := by
  have h := num_all (m := n.toNat) (by omega)
  unfold numOk at h
  rw [show ((n.toNat : Nat) : Int) = n by omega] at h
  simp only [Bool.and_eq_true, Bool.or_eq_true, decide_eq_true_eq, bne_iff_ne, beq_iff_eq] at h
  obtain ⟨⟨⟨⟨⟨⟨a, b⟩, c⟩, d⟩, e⟩, f⟩, g⟩ := h
  refine ⟨a, b, c, d, e, f, fun x hx => ?_⟩
  have := Array.all_eq_true_iff_forall_mem.mp g x (by simpa using hx)
  simpa using this
end Lw
set_option Elab.async false
set_option linter.all false
set_option maxRecDepth 100000
namespace Lw
open PySem L2 TL
def sp1 : Str := " "
def nl1 : Str := "\n"
def joinW (ws : List Str) : Str := Txt.join sp1 ws
theorem joinW_one (x : Str) : joinW [x] = x := by unfold joinW; rw [join_eq]; rfl
theorem joinW_cons {x : Str} {ws : List Str} (h : ws ≠ []) : joinW (x :: ws) = x ++ sp1 ++ joinW ws := by
  unfold joinW
  rw [join_eq, join_eq]
  cases ws with
  | nil => exact absurd rfl h
  | cons y ws => rfl
theorem str_assoc (a b c : Str) : a ++ b ++ c = a ++ (b ++ c) := ext_tl (by rw [tl_append, tl_append, tl_append, tl_append, List.append_assoc])
theorem empty_str (a : Str) : Str.empty ++ a = a := ext_tl (by rw [tl_append]; rfl)
theorem joinW_app : ∀ {as bs : List Str}, as ≠ [] → bs ≠ [] → joinW (as ++ bs) = joinW as ++ sp1 ++ joinW bs
  | [], _, h, _ => absurd rfl h
  | [a], bs, _, hb => by rw [List.singleton_append, joinW_cons hb, joinW_one]
  | a :: b :: as, bs, _, hb => by
    rw [List.cons_append, joinW_cons (by simp), joinW_app (as := b :: as) (by simp) hb, joinW_cons (ws := b :: as) (by simp), ← str_assoc, ← str_assoc]
def pWords : Part → List Str
  | .num n => [numT n]
  | .name k => ["n" ++ numT k]
  | .op o a b => o.str :: (pWords a ++ pWords b)
theorem pWords_ne : ∀ p : Part, pWords p ≠ []
  | .num n => by simp [pWords]
  | .name k => by simp [pWords]
  | .op o a b => by simp [pWords]
def partT (p : Part) : Str := joinW (pWords p)
theorem partT_num (n : Int) : partT (.num n) = numT n := joinW_one _
theorem partT_name (n : Int) : partT (.name n) = "n" ++ numT n := joinW_one _
theorem partT_op (o : Op3) (a b : Part) : partT (.op o a b) = o.str ++ sp1 ++ partT a ++ sp1 ++ partT b := by
  show joinW (o.str :: (pWords a ++ pWords b)) = _
  rw [joinW_cons (by simp [pWords_ne]), joinW_app (pWords_ne a) (pWords_ne b), ← str_assoc, ← str_assoc]
  rfl
theorem small_log {n : Int} (h0 : 0 ≤ n) (h1 : n ≤ 100000) : n.natAbs.log2 < 1920 := by
  by_cases e : n.natAbs = 0
  · rw [e]; decide
  · exact Nat.lt_of_lt_of_le ((Nat.log2_lt e).mpr (show n.natAbs < 2 ^ 17 by omega)) (by decide)
theorem len_app (a b : Str) : (a ++ b).length = a.length + b.length := strLen_append a b
theorem op_len (o : Op3) : o.str.length ≤ 4 := by cases o <;> decide
theorem sp_len : sp1.length = 1 := by decide
theorem n_len : ("n" : Str).length = 1 := by decide
theorem partT_len {nm : Int} (hn : nm ≤ 8) : ∀ {d : Nat} {p : Part}, p.ok nm d → (partT p).length ≤ 6 * 3 ^ d
  | 0, _, h => h.elim
  | d + 1, .num n, h => by
    rw [partT_num]
    have := (num_t h.1 h.2).len
    have : 1 ≤ 3 ^ d := Nat.pow_pos (by decide)
    rw [Nat.pow_succ]; omega
  | d + 1, .name k, h => by
    have h' : 0 ≤ k ∧ k < nm := h
    rw [partT_name, len_app, n_len]
    have := (num_t (n := k) h'.1 (by omega)).len
    have : 1 ≤ 3 ^ d := Nat.pow_pos (by decide)
    rw [Nat.pow_succ]; omega
  | d + 1, .op o a b, h => by
    have h1 := partT_len hn (d := d) (p := a) h.1
    have h2 := partT_len hn (d := d) (p := b) h.2
    have h3 := op_len o
    have : 1 ≤ 3 ^ d := Nat.pow_pos (by decide)
    rw [partT_op, len_app, len_app, len_app, len_app, sp_len, Nat.pow_succ]
    omega
theorem line_le {n : Nat} (h : n ≤ 100000) : n ≤ sizeLine := small_le h
theorem tl_n : tl ("n" : Str) = [110] := by decide +kernel
theorem cut_n (u : Str) : cutS ("n" ++ u) (some 1) none = u := by
  refine ext_tl ?_
  have e : (("n" : Str) ++ u).cps.toList = 110 :: tl u := by
    show tl (("n" : Str) ++ u) = _
    rw [tl_append, tl_n]; rfl
  have hl : (("n" : Str) ++ u).length = (tl u).length + 1 := by
    rw [len_app, n_len]
    show 1 + u.cps.size = u.cps.toList.length + 1
    rw [Array.length_toList]; omega
  show (cutS ("n" ++ u) (some 1) none).cps.toList = _
  unfold cutS
  rw [e, hl]
  have h1 : HT.sIx ((tl u).length + 1) 0 (some 1) = 1 := by unfold HT.sIx; simp
  have h2 : HT.sIx ((tl u).length + 1) ((tl u).length + 1) none = (tl u).length + 1 := rfl
  rw [h1, h2]
  show ((110 :: tl u).drop 1).take ((tl u).length + 1 - 1) = tl u
  rw [List.drop_one, List.tail_cons, Nat.add_sub_cancel, List.take_length]
theorem n_is : ("n" : Str) = ⟨#[110]⟩ := ext_tl tl_n
theorem starts_iff (x : Str) : Txt.startswith x "n" = true ↔ x.cps.toList[0]? = some 110 := by
  rw [n_is, ← PySem.StrLaws.subAt_one x 110 0]
  unfold Txt.startswith
  rw [Bool.and_eq_true, decide_eq_true_eq]
theorem starts_n (u : Str) : Txt.startswith ("n" ++ u) "n" = true := by
  rw [starts_iff]
  show (tl (("n" : Str) ++ u))[0]? = _
  rw [tl_append, tl_n]; rfl
theorem starts_num {n : Int} {w : Str} (N : NumT n w) : Txt.startswith w "n" = false := by
  cases h : Txt.startswith w "n" with
  | false => rfl
  | true =>
    rw [starts_iff] at h
    have := N.all 110 (List.mem_of_getElem? h)
    omega
end Lw
set_option Elab.async false
set_option linter.all false
set_option maxRecDepth 100000
namespace Lw
open PySem L2
def Part.val (ns : List Int) : Part → Int
  | .num n => n
  | .name k => ns.getD k.toNat 0
  | .op .sum a b => (a.val ns + b.val ns) % 10007
  | .op .diff a b => (a.val ns - b.val ns) % 10007
  | .op .less a b => if a.val ns < b.val ns then 1 else 0
structure S where
  row : Int
  names : List Int
  taken : Nat
  done : Nat
  files : List (List Int)
  sent : List Int
inductive Out where
  | fault (w : Str)
  | next (s : S)
def S.hold (s : S) (n x : Int) : S := { s with row := s.row + 1, done := s.done + 1, names := s.names.set n.toNat x }
def S.file (s : S) (f : Int) : List Int := s.files.getD f.toNat []
def S.fill (s : S) (f : Int) (xs : List Int) : S := { s with row := s.row + 1, done := s.done + 1, files := s.files.set f.toNat xs }
def stepM (hs : List Int) (s : S) : Row → Out
  | .set n p => .next (s.hold n (p.val s.names))
  | .take n => if s.taken = hs.length then .fault "none" else .next { s.hold n (hs.getD s.taken 0) with taken := s.taken + 1 }
  | .get n f p => if ((s.file f).length : Int) ≤ p.val s.names then .fault "place" else .next (s.hold n ((s.file f).getD (p.val s.names).toNat 0))
  | .size n f => .next (s.hold n ((s.file f).length : Int))
  | .add f p => if (s.file f).length = 40 then .fault "full" else .next (s.fill f (s.file f ++ [p.val s.names]))
  | .put f p q => if ((s.file f).length : Int) ≤ p.val s.names then .fault "place" else .next (s.fill f ((s.file f).set (p.val s.names).toNat (q.val s.names)))
  | .cut f p => .next (s.fill f ((s.file f).take (p.val s.names).toNat))
  | .send p => .next { s with row := s.row + 1, done := s.done + 1, sent := s.sent ++ [p.val s.names] }
  | .go r => .next { s with row := r, done := s.done + 1 }
  | .unl n r => .next { s with row := if s.names.getD n.toNat 0 = 0 then r else s.row + 1, done := s.done + 1 }
  | .mark => .next { s with row := s.row + 1, done := s.done + 1 }
def Num (xs : List Int) : Prop := ∀ x ∈ xs, 0 ≤ x ∧ x ≤ 10006
theorem Num.getD {xs : List Int} (h : Num xs) (i : Nat) : 0 ≤ xs.getD i 0 ∧ xs.getD i 0 ≤ 10006 := by
  rw [List.getD_eq_getElem?_getD]
  cases e : xs[i]? with
  | none => exact ⟨by decide, by decide⟩
  | some x => exact h x (List.mem_of_getElem? e)
theorem Part.val_num {ns : List Int} (h : Num ns) {nm : Int} : ∀ {p : Part} {d : Nat}, p.ok nm d → 0 ≤ p.val ns ∧ p.val ns ≤ 10006
  | _, 0, k => k.elim
  | .num _, _ + 1, k => k
  | .name k, _ + 1, _ => h.getD k.toNat
  | .op .sum a b, _ + 1, _ => by show 0 ≤ (_ : Int) % 10007 ∧ (_ : Int) % 10007 ≤ 10006; omega
  | .op .diff a b, _ + 1, _ => by show 0 ≤ (_ : Int) % 10007 ∧ (_ : Int) % 10007 ≤ 10006; omega
  | .op .less a b, _ + 1, _ => by show 0 ≤ (if _ then (1 : Int) else 0) ∧ (if _ then (1 : Int) else 0) ≤ 10006; split <;> omega
theorem Num.set {xs : List Int} (h : Num xs) {i : Nat} {x : Int} (hx : 0 ≤ x ∧ x ≤ 10006) : Num (xs.set i x) := mem_set (P := fun x => 0 ≤ x ∧ x ≤ 10006) h hx
theorem Num.snoc {xs : List Int} (h : Num xs) {x : Int} (hx : 0 ≤ x ∧ x ≤ 10006) : Num (xs ++ [x]) := mem_snoc (P := fun x => 0 ≤ x ∧ x ≤ 10006) h hx
theorem Num.take {xs : List Int} (h : Num xs) (i : Nat) : Num (xs.take i) := fun x hx => h x (List.mem_of_mem_take hx)
structure Good (p : Prog) (hs : List Int) (s : S) : Prop where
  r0 : 0 ≤ s.row
  r1 : s.row ≤ p.rows.length
  nl : s.names.length = p.nm.toNat
  nn : Num s.names
  tk : s.taken ≤ hs.length
  fl : s.files.length = p.fl.toNat
  ff : ∀ f ∈ s.files, f.length ≤ 40 ∧ Num f
  st : s.sent.length ≤ s.done
  dn : s.done ≤ 1000
theorem Good.file {p : Prog} {hs : List Int} {s : S} (g : Good p hs s) (f : Int) : (s.file f).length ≤ 40 ∧ Num (s.file f) := by
  unfold S.file
  rw [List.getD_eq_getElem?_getD]
  cases e : s.files[f.toNat]? with
  | none => exact ⟨by decide, fun x hx => by cases hx⟩
  | some x => exact g.ff x (List.mem_of_getElem? e)
theorem Good.hold {p : Prog} {hs : List Int} {s : S} (g : Good p hs s) {n x : Int} (hx : 0 ≤ x ∧ x ≤ 10006) (hr : s.row < p.rows.length) (hd : s.done < 1000) : Good p hs (s.hold n x) :=
  ⟨by have := g.r0; show 0 ≤ s.row + 1; omega, by show s.row + 1 ≤ _; omega, by show (s.names.set _ _).length = _; rw [List.length_set]; exact g.nl, g.nn.set hx, g.tk, g.fl, g.ff, by have := g.st; show s.sent.length ≤ s.done + 1; omega, hd⟩
theorem Good.fill {p : Prog} {hs : List Int} {s : S} (g : Good p hs s) {f : Int} {xs : List Int} (hx : xs.length ≤ 40 ∧ Num xs) (hr : s.row < p.rows.length) (hd : s.done < 1000) : Good p hs (s.fill f xs) :=
  ⟨by have := g.r0; show 0 ≤ s.row + 1; omega, by show s.row + 1 ≤ _; omega, g.nl, g.nn, g.tk, by show (s.files.set _ _).length = _; rw [List.length_set]; exact g.fl, mem_set (P := fun (f : List Int) => f.length ≤ 40 ∧ Num f) g.ff hx, by have := g.st; show s.sent.length ≤ s.done + 1; omega, hd⟩
theorem Good.step {p : Prog} {hs : List Int} {s s' : S} {r : Row} (g : Good p hs s) (hh : Num hs) (hr : s.row < p.rows.length) (hd : s.done < 1000) (ok : r.ok p.nm p.fl p.rows.length) (e : stepM hs s r = .next s') : Good p hs s' := by
  have g0 := g.r0; have g1 := g.r1; have g2 := g.st; have g3 := g.tk
  cases r with
  | set n q => cases e; exact g.hold (Part.val_num g.nn ok.2.2) hr hd
  | take n =>
    simp only [stepM] at e
    split at e
    · cases e
    · cases e
      have z := g.hold (n := n) (x := hs.getD s.taken 0) (Num.getD hh s.taken) hr hd
      exact ⟨z.r0, z.r1, z.nl, z.nn, by show s.taken + 1 ≤ _; omega, z.fl, z.ff, z.st, z.dn⟩
  | get n f q =>
    simp only [stepM] at e
    split at e
    · cases e
    · cases e; exact g.hold ((g.file f).2.getD _) hr hd
  | size n f => cases e; exact g.hold (by have := (g.file f).1; omega) hr hd
  | add f q =>
    simp only [stepM] at e
    split at e
    · cases e
    · cases e
      have hf := g.file f
      exact g.fill ⟨by rw [List.length_append]; show _ + 1 ≤ 40; omega, hf.2.snoc (Part.val_num g.nn ok.2.2)⟩ hr hd
  | put f q r =>
    simp only [stepM] at e
    split at e
    · cases e
    · cases e
      have hf := g.file f
      exact g.fill ⟨by rw [List.length_set]; exact hf.1, hf.2.set (Part.val_num g.nn ok.2.2.2)⟩ hr hd
  | cut f q =>
    cases e
    have hf := g.file f
    exact g.fill ⟨by rw [List.length_take]; omega, hf.2.take _⟩ hr hd
  | send q => cases e; exact ⟨by show 0 ≤ s.row + 1; omega, by show s.row + 1 ≤ _; omega, g.nl, g.nn, g.tk, g.fl, g.ff, by show (s.sent ++ [_]).length ≤ s.done + 1; rw [List.length_append]; show _ + 1 ≤ _; omega, hd⟩
  | go r => cases e; exact ⟨ok.1, ok.2, g.nl, g.nn, g.tk, g.fl, g.ff, by show s.sent.length ≤ s.done + 1; omega, hd⟩
  | unl n r =>
    cases e
    have k1 : 0 ≤ r := ok.2.2.1
    have k2 : r ≤ p.rows.length := ok.2.2.2
    have z : 0 ≤ (if s.names.getD n.toNat 0 = 0 then r else s.row + 1) ∧ (if s.names.getD n.toNat 0 = 0 then r else s.row + 1) ≤ p.rows.length := by split <;> omega
    exact ⟨z.1, z.2, g.nl, g.nn, g.tk, g.fl, g.ff, by show s.sent.length ≤ s.done + 1; omega, hd⟩
  | mark => cases e; exact ⟨by show 0 ≤ s.row + 1; omega, by show s.row + 1 ≤ _; omega, g.nl, g.nn, g.tk, g.fl, g.ff, by show s.sent.length ≤ s.done + 1; omega, hd⟩
inductive End where
  | done | long | fault (w : Str)
def outM (p : Prog) (hs : List Int) : Nat → S → S × End
  | 0, s => if s.row = p.rows.length then (s, .done) else (s, .long)
  | k + 1, s => if s.row = p.rows.length then (s, .done) else match stepM hs s (p.rows.getD s.row.toNat .mark) with
    | .fault w => (s, .fault w)
    | .next s' => outM p hs k s'
def fin (p : Prog) (hs : List Int) (s : S) : S × End := outM p hs (1000 - s.done) s
end Lw
set_option Elab.async false
set_option linter.all false
set_option maxRecDepth 100000
namespace Lw
open PySem L2
structure Eff where
  row : Int
  taken : Nat
  name : Option (Int × Int)
  file : Option (Int × List Int)
  letter : Option Int
  fault : Option Str
def S.app (s : S) (e : Eff) : S := ⟨e.row, match e.name with | none => s.names | some (n, x) => s.names.set n.toNat x, e.taken, s.done + 1, match e.file with | none => s.files | some (f, xs) => s.files.set f.toNat xs, s.sent ++ e.letter.toList⟩
end Lw
set_option Elab.async false
set_option linter.all false
set_option maxRecDepth 100000
namespace Lw
open PySem L2
theorem same_upd {H H' : Hp} {p : Addr} {o : HO} (h : H p = none) (s : Same H H') : Same H (upd H' p o) := fun b u q => by rw [upd_ne (ne_of_none q h)]; exact s b u q
theorem _root_.L2.Same.none {H H' : Hp} {p : Addr} (s : Same H H') (h : H' p = Option.none) : H p = Option.none := s.free h
inductive FilesAt (H : Hp) : List V → List (List Int) → Prop
  | nil : FilesAt H [] []
  | cons {a : Addr} {xs : List Int} {vs : List V} {fs : List (List Int)} : H a = some (.lst (xs.map V.int)) → FilesAt H vs fs → FilesAt H (.ref a :: vs) (xs :: fs)
theorem FilesAt.length {H : Hp} {vs : List V} {fs : List (List Int)} (h : FilesAt H vs fs) : vs.length = fs.length := by
  induction h with
  | nil => rfl
  | cons _ _ ih => simp [ih]
theorem FilesAt.get {H : Hp} {vs : List V} {fs : List (List Int)} (h : FilesAt H vs fs) : ∀ {i : Nat}, i < fs.length → ∃ a, vs[i]? = some (.ref a) ∧ H a = some (.lst ((fs.getD i []).map V.int)) := by
  induction h with
  | nil => intro i hi; simp at hi
  | cons h _ ih =>
    intro i hi
    cases i with
    | zero => exact ⟨_, rfl, h⟩
    | succ i => simpa using ih (by simpa using hi)
theorem FilesAt.same {H H' : Hp} {vs : List V} {fs : List (List Int)} (h : FilesAt H vs fs) (s : Same H H') : FilesAt H' vs fs := by
  induction h with
  | nil => exact .nil
  | cons h _ ih => exact .cons (s _ _ h) ih
theorem cut_from {xs : List V} {i : Int} (h : 0 ≤ i) : cutV xs (some i) none = xs.drop i.toNat := by
  unfold cutV HT.sIx
  simp only [if_neg (show ¬ i < 0 by omega)]
  by_cases c : i.toNat ≤ xs.length
  · rw [Nat.min_eq_left c, List.take_of_length_le (by rw [List.length_drop]; omega)]
  · rw [Nat.min_eq_right (by omega), List.drop_eq_nil_of_le (Nat.le_refl _), List.drop_eq_nil_of_le (by omega), List.take_nil]
theorem FilesAt.keep {H H' : Hp} {vs : List V} {fs : List (List Int)} (h : FilesAt H vs fs) : (∀ a xs, V.ref a ∈ vs → H a = some (.lst xs) → H' a = some (.lst xs)) → FilesAt H' vs fs := by
  induction h with
  | nil => intro _; exact .nil
  | cons h _ ih => intro z; exact .cons (z _ _ (List.mem_cons_self ..) h) (ih fun a xs m => z a xs (List.mem_cons_of_mem _ m))
theorem FilesAt.set {H : Hp} {vs : List V} {fs : List (List Int)} (h : FilesAt H vs fs) : ∀ {i : Nat} {a : Addr} {xs : List Int}, H a = some (.lst (xs.map V.int)) → FilesAt H (vs.set i (.ref a)) (fs.set i xs) := by
  induction h with
  | nil => intro i a xs _; exact .nil
  | cons h t ih =>
    intro i a xs q
    cases i with
    | zero => exact .cons q t
    | succ i => exact .cons h (ih q)
theorem FilesAt.snoc {H : Hp} {vs : List V} {fs : List (List Int)} {a : Addr} {xs : List Int} (h : FilesAt H vs fs) (q : H a = some (.lst (xs.map V.int))) : FilesAt H (vs ++ [.ref a]) (fs ++ [xs]) := by
  induction h with
  | nil => exact .cons q .nil
  | cons h _ ih => exact .cons h ih
def EndAt (H : Hp) : End → V → Prop
  | .done, v => ∃ a, v = .ref a ∧ H a = some (.tup [.str "end"])
  | .long, v => ∃ a, v = .ref a ∧ H a = some (.tup [.str "long"])
  | .fault w, v => ∃ a, v = .ref a ∧ H a = some (.tup [.str "fault", .str w])
theorem EndAt.ref {H : Hp} {e : End} {v : V} (h : EndAt H e v) : ∃ a, v = .ref a := by
  cases e with
  | done => exact ⟨h.choose, h.choose_spec.1⟩
  | long => exact ⟨h.choose, h.choose_spec.1⟩
  | fault w => exact ⟨h.choose, h.choose_spec.1⟩
theorem EndAt.mono {H H' : Hp} (t : TK H H') {e : End} {v : V} (h : EndAt H e v) : EndAt H' e v := by
  cases e with
  | done => obtain ⟨a, e, q⟩ := h; exact ⟨a, e, t.get q⟩
  | long => obtain ⟨a, e, q⟩ := h; exact ⟨a, e, t.get q⟩
  | fault w => obtain ⟨a, e, q⟩ := h; exact ⟨a, e, t.get q⟩
end Lw
set_option Elab.async false
set_option linter.all false
namespace Lw
open PySem L2 TL
inductive Tk where
  | op (o : Op3) | name (n : Int) | num (n : Int)
def Tk.str : Tk → Str
  | .op o => o.str
  | .name n => "n" ++ numT n
  | .num n => numT n
def pToks : Part → List Tk
  | .num n => [.num n]
  | .name n => [.name n]
  | .op o a b => .op o :: (pToks a ++ pToks b)
theorem pToks_w : ∀ p : Part, (pToks p).map Tk.str = pWords p
  | .num n => rfl
  | .name n => rfl
  | .op o a b => by
    show o.str :: (pToks a ++ pToks b).map Tk.str = _
    rw [List.map_append, pToks_w a, pToks_w b]; rfl
def stepT : Tk → List Part → Option (List Part)
  | .op o, a :: b :: r => some (.op o a b :: r)
  | .op _, _ => none
  | .name n, st => some (.name n :: st)
  | .num n, st => some (.num n :: st)
def runT : List Tk → List Part → Option (List Part)
  | [], st => some st
  | t :: ts, st => (stepT t st).bind (runT ts)
theorem run_part : ∀ (p : Part) (ts : List Tk) (st : List Part), runT ((pToks p).reverse ++ ts) st = runT ts (p :: st)
  | .num n, ts, st => rfl
  | .name n, ts, st => rfl
  | .op o a b, ts, st => by
    show runT ((.op o :: (pToks a ++ pToks b)).reverse ++ ts) st = _
    rw [List.reverse_cons, List.reverse_append, List.append_assoc, List.append_assoc, run_part b, run_part a]
    rfl
theorem run_list : ∀ (ps : List Part) (ts : List Tk) (st : List Part), runT ((ps.map pToks).flatten.reverse ++ ts) st = runT ts (ps ++ st)
  | [], ts, st => rfl
  | p :: ps, ts, st => by
    rw [List.map_cons, List.flatten_cons, List.reverse_append, List.append_assoc, run_list ps, run_part]
    rfl
end Lw
set_option Elab.async false
set_option linter.all false
set_option maxRecDepth 100000
namespace L2
open PySem PySem.Spec PyProof.Rows
section
variable {X : Cx} {e st : Expr} {te : TE} {t3 : TO} {p2 pos : Pos}
def rRev (K : PySem.W.Frag) (x : V) (H : Hp) (Q : VK) : Prop := ∃ a xs, x = .ref a ∧ SqL K H a xs ∧ ∀ l, H l = none → Q (.ref l) (upd H l (.lst xs.reverse))
def tRev (K : PySem.W.Frag) (te : TE) (t3 : TO) : TE := fun σ H Q => te σ H fun x H1 => t3 σ H1 fun s H2 => s = some (-1) ∧ rRev K x H2 Q
theorem vals_rev {xs : List V} {us : List Value} (r : Vals xs us) : Vals xs.reverse us.reverse := by
  induction r with
  | nil => exact .nil
  | cons r1 _ ih => rw [List.reverse_cons, List.reverse_cons]; exact ih.append (.cons r1 .nil)
theorem pe_rev (he : PE X e te) (h3 : PO X (some st) t3) : PE X (.Subscript e (.Slice none none (some st) p2) pos) (tRev X.K te t3) := by
  intro pins s σ H Q I h
  refine Subscript_ (thn (he pins s σ H _ I h) fun v s1 ⟨x, H1, I1, r1, q1⟩ => ?_)
  refine wpAny_Slice ?_
  rw [evalPart_none]
  refine wpAny_pure ?_
  refine wpAny_pure ?_
  refine thn (h3 pins s1 σ H1 _ I1 q1) fun vk s3 ⟨u, H3, I3, pk, q3⟩ => ?_
  obtain ⟨rfl, a, xs, rfl, hx, q⟩ := q3
  cases r1
  have I4 : Inv X pins σ H3 { s3 with heap := s3.heap.push { cls := .type "slice", data := .fields #[.none, .none, vk] } } := I3.kept (t' := s3.toks) fun b ob q => Heap.get?_push_of_some _ q
  obtain ⟨its, r, ht, hz⟩ := I4.list hx
  have hlen := r.length
  show wpAny (model X.prog X.w) X.A (subscriptTail e (.Slice none none (some st) p2) (.ref a) (.ref s3.heap.objs.size)) (EP X pins σ Q) X.xe { s3 with heap := s3.heap.push { cls := .type "slice", data := .fields #[.none, .none, vk] } }
  refine tail_any (ops := [.ref a, .ref s3.heap.objs.size]) ht.isList.typeIs slot_list_getitem.lookup ?_ rfl
  refine wpAny_getItem_list_slice ht.isList (Heap.IsSliceOf.new ..) .none .none pk (by simp) ?_ (by rw [List.size_toArray] <;> omega)
  rw [PySem.W.krv_pick]
  refine ⟨.ref _, _, I4.laid (t' := s3.toks) (o := .lst xs.reverse) (fun b ob q => Heap.get?_push_of_some _ q) (Nat.le_refl _) ?_, rfl, q _ (I4.hok.fresh (Nat.le_refl _))⟩
  exact ⟨by rw [List.length_reverse]; exact hz, its.reverse, 0, vals_rev r, Heap.get?_push_size _ rfl⟩
theorem kRev (K : PySem.W.Frag) (he : PE X e te) (h3 : PO X (some st) t3) (e' : X.K = K := by rfl) : PE X (.Subscript e (.Slice none none (some st) p2) pos) (tRev K te t3) := e' ▸ pe_rev he h3
end
section
variable {σ : St} {H : Hp} {Q : VK} {K : PySem.W.Frag} {te : TE} {t3 : TO} {p : Addr} {xs : List V} {ns : List Int}
theorem go_rev (h : te σ H fun x H1 => t3 σ H1 fun s H2 => s = some (-1) ∧ rRev K x H2 Q) : tRev K te t3 σ H Q := h
theorem go_rrev (h : H p = some (.lst xs)) (q : ∀ l, H l = none → Q (.ref l) (upd H l (.lst xs.reverse))) : rRev K (.ref p) H Q := ⟨p, xs, rfl, SqL.of h, q⟩
end
end L2
set_option Elab.async false
set_option linter.all false
set_option maxRecDepth 100000
namespace L2
open PySem PySem.Spec PyProof.Rows
section
variable {prog : Program} {w : World} {A : Around} {E : Value → Shared → Prop} {s : Shared}
end
section
variable {prog : Program} {w : World} {A : Around} {E : Value → Shared → Prop} {s : Shared}
end
section
variable {K : PySem.W.Frag} {t : TA} {σ : List (Option V)} {H : Hp} {R : It → Hp → Prop}
end
end L2
set_option Elab.async false
set_option linter.all false
set_option maxRecDepth 100000
namespace L2
open PySem
section
variable {K : PySem.W.Frag} {σ : St} {H : Hp} {nx : St → Hp → Prop} {rt : VK} {bk ct : St → Hp → Prop} {tb : TS} {g : TG} {a b : Addr} {t : TA} {R : It → Hp → Prop}
def qZipL (K : PySem.W.Frag) (vs : List V) (H1 : Hp) (R : It → Hp → Prop) : Prop := ∃ a b xs ys, vs = [.ref a, .ref b] ∧ SqL K H1 a xs ∧ SqL K H1 b ys ∧ R (Itz K a b) H1
theorem go_zipL (h : t σ H fun vs H1 => qZipL K vs H1 R) : iZip K t σ H R := h
theorem go_qzipL {xs ys : List V} (h : SqL K H a xs) (h' : SqL K H b ys) (q : R (Itz K a b) H) : qZipL K [.ref a, .ref b] H R := ⟨a, b, xs, ys, rfl, h, h', q⟩
end
end L2
set_option Elab.async false
set_option linter.all false
set_option maxRecDepth 100000
namespace L2
open PySem PySem.Spec PyProof.Rows
theorem kPiRev {X : Cx} (K : PySem.W.Frag) {tg e : Expr} {ta : TA} {p pos : Pos} (hg : Gl X "reversed") (hm : X.mg "reversed" = none) (ha : PA X [e] ta) (hs : starEach [e] X.env = [(false, eval e X.env)] := by rfl) (ek : X.K = K := by rfl) : PI X tg (.Call (.Name "reversed" p) [e] [] pos) (iRev K ta) := ek ▸ pi_reversed hg hm ha hs
theorem for_revL {K : PySem.W.Frag} {a : Addr} {xs : List V} {g : TG} {tb : TS} {D : Ends} {σ : St} {H : Hp} (Pv : Nat → St → Hp → Prop) (h0 : Pv 0 σ H) (hl : ∀ i σ H, i ≤ xs.length → Pv i σ H → SqL K H a xs)
    (hs : ∀ i x σ H, xs.reverse[i]? = some x → Pv i σ H → g x σ H fun σ2 H2 => tb { D with nx := Pv (i + 1), ct := Pv (i + 1), bk := D.nx } σ2 H2) (hd : ∀ σ H, Pv xs.length σ H → D.nx σ H) :
    ∃ W : Nat → Nat → St → Hp → Prop, (∃ m, W 0 m σ H) ∧ ∀ i m σ H, W i m σ H →
      ((Itv K a xs.length).stop i H ∧ D.nx σ H) ∨ ((Itv K a xs.length).go i H ∧ ∃ N : St → Hp → Prop, (∀ σ' H', N σ' H' → ∃ m', m' < m ∧ W (i + 1) m' σ' H') ∧ ∀ x H', (Itv K a xs.length).yld i H x H' → g x σ H' fun σ2 H2 => tb { D with nx := N, ct := N, bk := D.nx } σ2 H2) := by
  refine ⟨fun i m σ H => m = xs.length - i ∧ i ≤ xs.length ∧ Pv i σ H, ⟨xs.length, by simp, Nat.zero_le _, h0⟩, ?_⟩
  rintro i m σ H ⟨rfl, hi, p⟩
  have q := hl i σ H hi p
  by_cases hlt : i < xs.length
  · have hx : xs.length - 1 - i < xs.length := by omega
    refine .inr ⟨⟨hlt, xs, xs[xs.length - 1 - i], q, by simp [hx]⟩, Pv (i + 1), fun σ' H' p' => ⟨xs.length - (i + 1), by omega, rfl, hlt, p'⟩, fun x H' y => ?_⟩
    obtain ⟨e, y⟩ := y
    subst e
    exact hs i x σ _ (by rw [List.getElem?_reverse hlt]; exact y xs q) p
  · exact .inl ⟨by show xs.length ≤ i; omega, hd σ H (by rw [show xs.length = i by omega]; exact p)⟩
section
variable {σ : St} {H : Hp} {nx : St → Hp → Prop} {rt : VK} {bk ct : St → Hp → Prop} {tb : TS} {g : TG} {tA : TA} {R : It → Hp → Prop} {K : PySem.W.Frag} {a : Addr} {xs : List V}
def qRevL (K : PySem.W.Frag) (vs : List V) (H1 : Hp) (R : It → Hp → Prop) : Prop := ∃ (a : Addr) (xs : List V), vs = [.ref a] ∧ SqL K H1 a xs ∧ R (Itv K a xs.length) H1
theorem go_rvL (h : tA σ H fun vs H1 => qRevL K vs H1 R) : iRev K tA σ H R := h
theorem go_qrvL (h : H a = some (.lst xs)) (q : R (Itv K a xs.length) H) : qRevL K [.ref a] H R := ⟨a, xs, rfl, SqL.of h, q⟩
theorem fq_revL (Pv : Nat → St → Hp → Prop) (h0 : Pv 0 σ H) (hl : ∀ i σ H, i ≤ xs.length → Pv i σ H → SqL K H a xs) (hs : ∀ (i : Nat) (x : V) (σ : St) (H : Hp), xs.reverse[i]? = some x → Pv i σ H → g x σ H fun σ2 H2 => tb ⟨Pv (i + 1), rt, nx, Pv (i + 1)⟩ σ2 H2) (hd : ∀ σ H, Pv xs.length σ H → nx σ H) :
    forQ (Itv K a xs.length) g tb ⟨nx, rt, bk, ct⟩ σ H := for_revL (D := ⟨nx, rt, bk, ct⟩) Pv h0 hl hs hd
end
section
variable {prog : Program} {w : World} {A : Around} {E : Value → Shared → Prop} {s : Shared} {K : PySem.W.Frag} {a : Addr} {k : Str} {tk : Tok} {r : Option Value}
theorem dk_nin {Q : Value → Shared → Prop} (X : K.In s.heap) (h : dictIn K a k = some r) (hQ : Q (.bool (!r.isSome)) { s with toks := s.toks + 1 }) : wpAny (model prog w) A (compareOp .NotIn (.str k tk) (.ref a)) Q E s := by
  have hT := dk_typeIs X h
  show wpAny _ _ (do return .bool (!(← contains (.ref a) (.str k tk)))) Q E s
  refine wpAny_bind ?_
  unfold contains
  try with_reducible refine wpAny_holding ?_
  refine wpAny_bind (wpAny_specialOf hT slot_dict_contains.lookup ?_)
  show wpAny _ _ (if (some (Value.builtin "dict.__contains__") == some Value.none) = true then _ else _) _ E s; rw [if_neg (by rw [beq_builtin_none]; exact Bool.false_ne_true)]
  refine wpAny_bind (wpAny_callSpecialUnlessNone?_slot (name := Str.ofString "__contains__") hT slot_dict_contains (wpAny_call_entry slot_dict_contains hT entry_dict_contains ?_ (args_dict_contains _ _)))
  show wpAny _ _ (dictGet a (.str k tk) >>= _) _ _ s
  refine wpAny_bind (dk_get X h ?_)
  cases r with
  | some u =>
    show wpAny _ _ (ret (.bool true)) _ _ _
    exact wpAny_pure ⟨_, rfl, wpAny_truthy_bool (wpAny_pure hQ)⟩
  | none =>
    show wpAny _ _ (Builtin.Dict.pendingKey? a (.str k tk) >>= _) _ _ _
    exact wpAny_bind (wpAny_pendingKey_other (dictIn_spec h).1 (wpAny_pure ⟨_, rfl, wpAny_truthy_bool (wpAny_pure hQ)⟩))
end
def tDNinK (K : PySem.W.Frag) (ty td : TE) : TE := fun σ H Q => ty σ H fun y H1 => td σ H1 fun x H2 => ∃ a k r, x = .ref a ∧ y = .str k ∧ dictIn K a k = some r ∧ Q (.bl (!r.isSome)) H2
theorem pc_dninK {X : Cx} (K : PySem.W.Frag) {i o : Expr} {ty td : TE} (hi : PE X i ty) (ho : PE X o td) (ek : X.K = K := by rfl) : PC X .NotIn i o (tDNinK K ty td) := by
  subst ek
  intro pins s σ H Q I h
  refine thn (hi pins s σ H _ I h) fun iv s1 ⟨y, H1, I1, ry, q1⟩ => thn (ho pins s1 σ H1 _ I1 q1) fun u s2 ⟨x, H2, I2, rx, a, k, r, ex, ey, g, q2⟩ => ?_
  subst ex ey
  obtain rfl : u = Value.ref a := rx
  obtain ⟨t, rfl⟩ := (show ∃ t, iv = Value.str k t from ry)
  exact dk_nin I2.kIn g ⟨.bl (!r.isSome), H2, I2.tok _, rfl, q2⟩
section
variable {σ : St} {H : Hp} {Q : VK} {te ta : TE} {K : PySem.W.Frag} {a : Addr}
def qDNIK (K : PySem.W.Frag) (y x : V) (H2 : Hp) (Q : VK) : Prop := ∃ a k r, x = .ref a ∧ y = .str k ∧ dictIn K a k = some r ∧ Q (.bl (!r.isSome)) H2
theorem go_dninK (h : te σ H fun y H1 => ta σ H1 fun x H2 => qDNIK K y x H2 Q) : tDNinK K te ta σ H Q := h
theorem go_qdniK {k : Str} {r : Option Value} (e : dictIn K a k = some r) (q : Q (.bl (!r.isSome)) H) : qDNIK K (.str k) (.ref a) H Q := ⟨a, k, r, rfl, rfl, e, q⟩
end
section
variable {K : PySem.W.Frag} {σ : St} {H : Hp} {nx : St → Hp → Prop} {rt : VK} {bk ct : St → Hp → Prop} {tb : TS} {g : TG} {a b : Addr}
theorem fq_zipS (xs ys : List V) (hlen : ys.length ≤ xs.length) (Pv : Nat → St → Hp → Prop) (h0 : Pv 0 σ H) (hl : ∀ (i : Nat) (σ : St) (H : Hp), i ≤ ys.length → Pv i σ H → SqL K H a xs ∧ SqL K H b ys)
    (hs : ∀ (i : Nat) (x y : V) (σ : St) (H : Hp) (t : Addr), xs[i]? = some x → ys[i]? = some y → H t = none → Pv i σ H → g (.ref t) σ (upd H t (.tup [x, y])) fun σ2 H2 => tb ⟨Pv (i + 1), rt, nx, Pv (i + 1)⟩ σ2 H2) (hd : ∀ σ H, Pv ys.length σ H → nx σ H) :
    forQ (Itz K a b) g tb ⟨nx, rt, bk, ct⟩ σ H := by
  refine ⟨fun i m σ H => m = ys.length - i ∧ i ≤ ys.length ∧ Pv i σ H, ⟨_, rfl, Nat.zero_le _, h0⟩, ?_⟩
  rintro i m σ H ⟨rfl, hi, q⟩
  obtain ⟨sq, sq'⟩ := hl i σ H hi q
  by_cases lt : i < ys.length
  · refine .inr ⟨⟨xs, ys, xs[i], ys[i], sq, sq', List.getElem?_eq_getElem (by omega), List.getElem?_eq_getElem lt⟩, Pv (i + 1), fun σ' H' q' => ⟨ys.length - (i + 1), by omega, rfl, lt, q'⟩, fun x H' y => ?_⟩
    obtain ⟨t, x', y', rfl, ht, rfl, hx, hy⟩ := y
    exact hs i x' y' σ H t (hx xs sq) (hy ys sq') ht q
  · have e : i = ys.length := by omega
    subst e
    exact .inl ⟨⟨xs, ys, sq, sq', .inr (Nat.le_refl _)⟩, hd σ H q⟩
end
end L2
set_option Elab.async false
set_option linter.all false
set_option maxRecDepth 100000
namespace L2
open PySem PySem.Spec PyProof.Rows
def ReprN (prog : Program) (w : World) (h₀ : Heap) (d L : Nat) (x : Value) : Prop :=
  ∀ (base : Nat), base + L ≤ sizeLine → ∀ (A : Around) (E : Value → Shared → Prop) (s : Shared) (Q : Str → Shared → Prop), A.units + d < cLine → s.heap = h₀ →
    (∀ t tk, t.length ≤ L → Q t { s with toks := tk }) → wpAny (model prog w) A (pyReprUnder base x) Q E s
section
variable {prog : Program} {w : World} {h₀ : Heap} {d L : Nat}
theorem ReprN.of_is {x : Value} {t : Str} (h : ReprIs prog w x t) (ht : t.length ≤ L) : ReprN prog w h₀ d L x :=
  fun base hb A E s Q _ _ hQ => h base (by omega) A E s Q fun tk => hQ t tk ht
theorem tupFoldN {A : Around} {E : Value → Shared → Prop} (hu : A.units + d < cLine) : ∀ (l : List Value) (acc : Array Str) (n : Nat) (s : Shared) (Q : (Array Str × Nat) → Shared → Prop), (∀ x ∈ l, ReprN prog w h₀ d L x) → n + l.length * (L + 2) ≤ sizeLine → s.heap = h₀ →
    (∀ (ts : List Str) n' tk, ts.length = l.length → piled ts ≤ l.length * (L + 2) → Q ⟨acc ++ ts.toArray, n'⟩ { s with toks := tk }) →
    wpAny (model prog w) A (forIn l (⟨acc, n⟩ : (Array Str × Nat)) tupBody) Q E s := by
  intro l
  induction l with
  | nil =>
    intro acc n s Q _ _ _ h
    have h0 := h [] n s.toks rfl (by simp [piled])
    simp only [List.forIn_nil]
    exact wpAny_pure (by simpa using h0)
  | cons x l ih =>
    intro acc n s Q hT hn hs h
    rw [List.length_cons, Nat.succ_mul] at hn
    rw [List.forIn_cons]
    refine wpAny_bind (wpAny_bind (hT x List.mem_cons_self (n + 1) (by omega) _ _ _ _ hu hs fun t tk ht => wpAny_pure ?_))
    refine ih (acc.push t) (n + (t.length + 2)) _ Q (fun y hy => hT y (List.mem_cons_of_mem _ hy)) (by omega) hs fun ts n' tk' e hp => ?_
    have h1 := h (t :: ts) n' tk' (by simp [e]) (by rw [piled_cons, List.length_cons, Nat.succ_mul]; omega)
    simpa using h1
theorem own_tupleN {A : Around} {s : Shared} {R : Result → Shared → Prop} {c : Code} {a : Addr} {items : Array Value} {base : Nat} (hcu : (A.under c).units = A.units + 1) (hu : A.units + (d + 1) < cLine)
    (ht : IsTup s.heap a items) (hs : s.heap = h₀) (hT : ∀ x ∈ items.toList, ReprN prog w h₀ d L x) (hz : base + (items.size * (L + 2) + 5) ≤ sizeLine)
    (hR : ∀ t u tk, t.length ≤ items.size * (L + 2) + 5 → R (.ok (.ret (.str t u))) { s with toks := tk }) :
    wpOwn (model prog w) A c (Builtin.tupleReprAt base ⟨[.ref a], []⟩) (fun fin s' => match fin with | .done f => R (.ok f) s' | .again c' => c'.quiet = true ∧ codeAny (model prog w) A c' R s') (fun e s' => R (.error e) s') s := by
  obtain ⟨o, ho, hc, n, hd⟩ := ht
  rw [tuple_repr_tree, tupleReprUnderWay_eq]
  refine wpOwn_bind (wpOwn_bind (wpOwn_stack fun p below _ _ _ => wpOwn_of_wpAny (wpAny_pure ?_)))
  refine wpOwn_of_wpAny ?_
  cases (List.tail ((c, p) :: below)).any (tupGuardF (.ref a)) with
  | true =>
    show wpAny _ _ (do rule "tuple.repr.in-itself"; retStr "(...)") _ _ s
    exact wpAny_bind (wpAny_rule (wpAny_bind (wpAny_mkStr (wpAny_pure (hR _ _ _ (Nat.le_trans (by decide) (Nat.le_add_left 5 _)))) (by decide))))
  | false =>
    show wpAny _ _ (tupleReprRest base (.ref a)) _ _ s
    unfold tupleReprRest Builtin.Tuple.tupleItemsOf
    refine wpAny_bind (wpAny_bind (wpAny_seqItems ho hd (wpAny_pure ?_)))
    rw [← Array.forIn_toList]
    have el : items.toList.length = items.size := by simp
    refine wpAny_bind (tupFoldN (by rw [hcu]; omega) _ _ _ _ _ hT (by rw [el]; omega) hs fun ts n' tk e hp => ?_)
    rw [el] at e hp
    have lt : (tupleText ts).length ≤ items.size * (L + 2) + 5 := by
      unfold tupleText
      rw [strLen_append, strLen_append]
      have e1 : ((("(" : String) : Str)).length = 1 := rfl
      have e3 : (((if ts.length == 1 then ",)" else ")" : String) : Str)).length ≤ 2 := by split <;> decide
      rw [e1]
      by_cases h : ts = []
      · subst h; show 1 + 0 + _ ≤ _; omega
      · have := join_length_add ts h
        omega
    refine wpAny_bind (wpAny_mkStr (wpAny_pure ?_) ?_)
    · have h1 := hR (tupleText ts) tk (tk + 1) lt
      simpa [tupleText, e] using h1
    · have : (tupleText ts).length ≤ sizeLine := by omega
      simpa [tupleText, e] using this
theorem ReprN.tup {a : Addr} {items : Array Value} (ht : IsTup h₀ a items) (hT : ∀ x ∈ items.toList, ReprN prog w h₀ d L x) : ReprN prog w h₀ (d + 1) (items.size * (L + 2) + 5) (.ref a) := by
  intro base hb A E s Q hu hs hQ
  have ht' : IsTup s.heap a items := hs ▸ ht
  obtain ⟨o, ho, hc, _⟩ := id ht'
  refine wpAny_pyReprUnder_ref (by omega) (wpAny_pyReprObjUnder_twin (twin := "tuple.__repr__.under") ⟨o, ho, hc⟩ F.slot_tuple_repr rfl (by omega) ?_)
  refine call_twin_own (F.quiet_tuple_repr_under _) F.entry_tuple_repr_under F.check_tuple_repr_under ⟨o, ho, hc⟩ F.slot_tuple_repr (F.args_tuple_repr_1 _) ?_
  refine own_tupleN (R := callEnd _ E) (units_under_tuple_repr_under _ _) (by omega) ht' hs hT hb fun t u tk hl => ?_
  exact ⟨⟨t, u, rfl⟩, t, u, rfl, hQ t tk hl⟩
theorem call_tupleN {A : Around} {E : Value → Shared → Prop} {s : Shared} {Q : Value → Shared → Prop} {a : Addr} {items : Array Value} (hu : A.units + (d + 1) < cLine) (ht : IsTup s.heap a items) (hT : ∀ x ∈ items.toList, ReprN prog w s.heap d L x) (hz : items.size * (L + 2) + 5 ≤ sizeLine)
    (hQ : ∀ t u tk, t.length ≤ items.size * (L + 2) + 5 → Q (.str t u) { s with toks := tk }) : wpAny (model prog w) A (call (.builtin "tuple.__repr__") [.ref a]) Q E s := by
  obtain ⟨o, ho, hc, _⟩ := id ht
  exact wpAny_call (codeAny_call_builtin_own (Code.quiet_builtin _ (by decide +kernel)) F.entry_tuple_repr (F.slot_tuple_repr.check _ _ _ _ _ _ _ _ ⟨o, ho, hc⟩ (F.args_tuple_repr_1 _)
    (own_tupleN (base := 0) (R := callEnd Q E) (units_under_tuple_repr _ _) hu ht rfl hT (by omega) hQ)))
theorem str_tupleN {A : Around} {E : Value → Shared → Prop} {s : Shared} {Q : Value → Shared → Prop} {a : Addr} {items : Array Value} (hu : A.units + (d + 5) < cLine) (ht : IsTup s.heap a items) (hT : ∀ p' w', ∀ x ∈ items.toList, ReprN p' w' s.heap d L x) (hz : items.size * (L + 2) + 5 ≤ sizeLine)
    (hQ : ∀ t u tk, t.length ≤ items.size * (L + 2) + 5 → Q (.str t u) { s with toks := tk }) : wpAny (model prog w) A (call (.type "str") [.ref a]) Q E s := by
  refine callType_new F.called_str (by decide) (F.typeCall_str_1 _) (F.newCall_str_1 _) (fun obj => F.args_object_init_2 obj _) F.entry_str_new
    (meets_str_new (S := fun A' R s' => A'.units + (d + 4) < cLine ∧ s'.heap = s.heap ∧ ∀ t u tk, t.length ≤ items.size * (L + 2) + 5 → R (.ok (.ret (.str t u))) { s' with toks := tk })
      fun prog' w' A' R s' h => ?_)
    ⟨by show A.units + 1 + (d + 4) < cLine; omega, rfl, fun t u tk hl => ⟨typeIs_str _ _ _, hQ t u tk hl⟩⟩
  obtain ⟨h1, h2, h3⟩ := h
  have ht' : IsTup s'.heap a items := h2 ▸ ht
  obtain ⟨o, ho, hc, _⟩ := id ht'
  refine wpAny_strOf_slot rfl (by show A'.units + 1 + 1 < cLine; omega) ⟨o, ho, hc⟩ F.slot_tuple_str F.slot_tuple_repr ?_
  exact call_tupleN (by show A'.units + 1 + 1 + (d + 1) < cLine; omega) ht' (fun x hx => h2 ▸ hT prog' w' x hx) hz fun t u tk hl => ⟨t, u, rfl, h3 t u tk hl⟩
end
inductive Shw (H : Hp) : Nat → V → Prop
  | int {d : Nat} {n : Int} : n.natAbs.log2 < 1920 → (Str.ofString (toString n)).length ≤ 16 → Shw H d (.int n)
  | str {d : Nat} {x : Str} : (reprText x).length ≤ 16 → Shw H d (.str x)
  | tup {d : Nat} {a : Addr} {xs : List V} : H a = some (.tup xs) → xs.length ≤ 3 → (∀ v ∈ xs, Shw H d v) → Shw H (d + 1) (.ref a)
def shwL : Nat → Nat
  | 0 => 16
  | d + 1 => 3 * (shwL d + 2) + 5
theorem shwL_le : ∀ d, 16 ≤ shwL d
  | 0 => Nat.le_refl _
  | d + 1 => by have := shwL_le d; show 16 ≤ 3 * (shwL d + 2) + 5; omega
theorem ReprN.more {prog : Program} {w : World} {h₀ : Heap} {d L L' : Nat} {x : Value} (h : ReprN prog w h₀ d L x) (l : L ≤ L') : ReprN prog w h₀ d L' x :=
  fun base hb A E s Q hu hs hQ => h base (by omega) A E s Q hu hs fun t tk hl => hQ t tk (by omega)
theorem pair_mem {F : V → Value → Prop} : ∀ {xs : List V} {us : List Value}, Paired F xs us → ∀ u ∈ us, ∃ v ∈ xs, F v u
  | _, _, .nil, _, h => nomatch h
  | _, _, .cons f p, u, h => by
    rcases List.mem_cons.mp h with rfl | h
    · exact ⟨_, List.mem_cons_self, f⟩
    · obtain ⟨v, hv, e⟩ := pair_mem p u h
      exact ⟨v, List.mem_cons_of_mem _ hv, e⟩
section
variable {X : Cx} {pins : List (Addr × Obj)} {σ : List (Option V)} {H : Hp} {s : Shared}
theorem Shw.repr (I : Inv X pins σ H s) (p' : Program) (w' : World) {d : Nat} {v : V} (h : Shw H d v) : ∀ {u : Value}, RelV v u → ReprN p' w' s.heap d (shwL d) u := by
  induction h with
  | @int d n h1 h2 =>
    rintro u ⟨t, rfl⟩
    exact (ReprN.of_is (ReprIs.int t h1) h2).more (shwL_le d)
  | @str d x h1 =>
    rintro u ⟨t, rfl⟩
    exact (ReprN.of_is (ReprIs.str x t (Nat.le_trans h1 (by decide))) h1).more (shwL_le d)
  | @tup d a xs h1 h2 _ ih =>
    intro u e
    have e' : u = .ref a := e
    subst e'
    obtain ⟨its, r, ht, _⟩ := I.tuple (SqT.of h1)
    have l := r.length
    refine (ReprN.tup (L := shwL d) ht (fun x hx => ?_)).more ?_
    · obtain ⟨v, hv, e⟩ := pair_mem r x (by simpa using hx)
      exact ih v hv e
    · show its.toArray.size * (shwL d + 2) + 5 ≤ 3 * (shwL d + 2) + 5
      have : its.toArray.size ≤ 3 := by simp; omega
      exact Nat.add_le_add_right (Nat.mul_le_mul_right _ this) _
def rStrA : List V → Hp → VK → Prop := fun xs H Q => (∃ i, xs = [.int i] ∧ i.natAbs.log2 < 1920 ∧ Q (.str (toString i)) H) ∨ ∃ v d, xs = [v] ∧ (∃ a, v = .ref a) ∧ Shw H d v ∧ d ≤ 6 ∧ ∀ t : Str, t.length ≤ 50000 → Q (.str t) H
theorem shwL6 : ∀ {d}, d ≤ 6 → shwL d ≤ 50000 := fun {d} h => by
  have : d = 0 ∨ d = 1 ∨ d = 2 ∨ d = 3 ∨ d = 4 ∨ d = 5 ∨ d = 6 := by omega
  rcases this with rfl | rfl | rfl | rfl | rfl | rfl | rfl <;> decide
theorem cr_strA (hu : X.A.units + 64 < cLine) : CallR X (.type "str") rStrA := by
  intro pins s σ H xs us Q I r h
  rcases h with h | ⟨v, d, rfl, ⟨a, rfl⟩, hs, hd, q⟩
  · exact call_str_int pins s σ H xs us Q I r h
  · obtain ⟨u, rfl, e⟩ := vals1 r
    have e' : u = .ref a := e
    subst e'
    have l6 := shwL6 hd
    cases hs with
    | @tup d _ xs h1 h2 h3 =>
      obtain ⟨its, r', ht, _⟩ := I.tuple (SqT.of h1)
      have l := r'.length
      have : its.toArray.size ≤ 3 := by simp; omega
      have l3 : its.toArray.size * (shwL d + 2) + 5 ≤ 50000 := Nat.le_trans (Nat.add_le_add_right (Nat.mul_le_mul_right _ this) _) l6
      refine str_tupleN (d := d) (L := shwL d) (by omega) ht (fun p' w' x hx => ?_) (Nat.le_trans l3 (by decide)) fun t u tk hl => ?_
      · obtain ⟨v, hv, e⟩ := pair_mem r' x (by simpa using hx)
        exact (h3 v hv).repr I p' w' e
      · exact ⟨.str t, H, I.tok _, ⟨_, rfl⟩, q t (Nat.le_trans hl l3)⟩
end
end L2
set_option Elab.async false
set_option linter.all false
set_option maxRecDepth 100000
set_option maxHeartbeats 4000000
namespace Lw
open PySem L2
local macro_rules | `(tactic| walk_at "lw_hp") => `(tactic| (repeat (first | assumption | exact upd_same | (refine' upd_new (by assumption) ?_) | (refine' tup_off (by assumption) (by assumption) ?_) | (refine' lst_off (by assumption) (by assumption) (by assumption) ?_) | (refine' Same.get (by assumption) ?_) | (refine' Off.get (by assumption) (by assumption) ?_) | (refine' upd_oth (by assumption) ?_))))
local macro_rules | `(tactic| walk_at "lw_go") => `(tactic| (repeat (first | (with_reducible (first | refine go_var rfl ?_ | refine go_c ?_ | refine go_cons ?_ | refine go_op ?_ | refine go_nil ?_ | refine go_seq ?_ | refine go_qb ?_ | refine go_test ?_ | refine go_ifS ?_ | refine go_gname ?_ | refine go_cb ?_)) | ((with_reducible refine' go_ixT ?hp ?ha ?_); (case hp => walk_at "lw_hp"); (case ha => first | rfl | assumption)) | (with_reducible (first | refine go_asg ?_ | refine go_callC ?_ | refine go_next ?_ | refine go_tup ?_ | refine go_i0 ?_ | refine go_ret ?_ | refine go_dget ?_ | refine go_gcons ?_ | refine go_gsub ?_ | refine go_testB ?_)) | ((with_reducible refine' go_ixL ?hp ?ha ?_); (case hp => walk_at "lw_hp"); (case ha => first | rfl | assumption)) | (with_reducible (first | refine' go_ixLs (by assumption) (by assumption) ?_ | refine go_lst ?_)) | ((with_reducible refine' go_i ?cc ?_); (case cc => first | omega | (simp only [CDiv, CMul, CPow]; omega) | (simp only [CDiv, CMul, CPow]; decide))) | (with_reducible (first | refine go_drop ?_ | refine go_eqI ?_ | refine go_eqS ?_ | refine go_eqB ?_ | refine go_eq (by rfl) ?_ | refine go_gnil ?_ | refine go_iteT ?_ | refine go_iteF ?_ | refine go_iteNt ?_ | refine go_iteNf ?_ | refine go_iteNN ?_)) | (with_reducible refine go_iteDT (by first | assumption | rfl | omega | (simp only [List.length_cons, List.length_nil, List.length_map]; omega)) ?_) | (with_reducible refine go_iteDF (by first | assumption | omega | decide | decide +kernel | (simp only [List.length_cons, List.length_nil, List.length_map]; omega)) ?_) | (with_reducible refine go_iteNT (by first | assumption | rfl | omega | (simp only [List.length_cons, List.length_nil, List.length_map]; omega)) ?_) | (with_reducible refine go_iteNF (by first | assumption | omega | decide | decide +kernel | (simp only [List.length_cons, List.length_nil, List.length_map]; omega)) ?_) | (with_reducible refine go_iteBT (by first | assumption | decide +kernel) ?_) | (with_reducible refine go_iteBF (by first | assumption | decide +kernel) ?_) | (with_reducible (first | refine go_dput ?_ | refine go_setD ?_)) | ((with_reducible refine' go_gtup ?hp ?ha ?_); (case hp => walk_at "lw_hp"); (case ha => first | rfl | assumption)) | (with_reducible refine go_if ?_) | ((with_reducible refine' go_setL ?hp ?ha ?_); (case hp => walk_at "lw_hp"); (case ha => first | rfl | assumption)) | (with_reducible (first | refine go_not ?_ | refine go_or ?_ | refine go_andV ?_ | refine go_sl ?_ | refine go_nopart ?_ | refine go_part ?_ | refine go_qI ?_ | refine' go_lenLs (by assumption) ?_)) | ((with_reducible refine' go_lenL ?hp ?_); (case hp => walk_at "lw_hp")) | ((with_reducible refine' go_lenT ?hp ?_); (case hp => walk_at "lw_hp")) | ((with_reducible refine' go_inT ?hp ?ha ?hb ?_); (case hp => walk_at "lw_hp"); (case ha => rfl); (case hb => rfl)) | ((with_reducible refine' go_notInT ?hp ?ha ?hb ?_); (case hp => walk_at "lw_hp"); (case ha => rfl); (case hb => rfl)) | (with_reducible (first | refine go_pnil ?_ | refine go_pcons ?_ | refine go_un ?_ | refine go_u ?_ | refine go_for ?_ | refine go_rng1 ?_ | refine go_qrng1 (by omega) (by omega) ?_ | refine go_notN_non ?_ | refine go_notN_int ?_ | refine go_notN_str ?_ | refine go_notN_bl ?_ | refine go_notN_ref ?_ | refine go_min ?_ | refine go_bm ?_ | refine go_lc ?_)) | ((with_reducible refine' go_qbm ?hp ?_); (case hp => walk_at "lw_hp")) | (with_reducible (first | refine go_int ?_ | refine go_intB ?_ | refine go_yes ?_ | refine go_and ?_ | refine go_notV ?_ | refine go_iL ?_)) | ((with_reducible refine' go_glst ?hp ?ha ?_); (case hp => walk_at "lw_hp"); (case ha => first | rfl | assumption)) | ((with_reducible refine' go_qiL ?hp ?_); (case hp => walk_at "lw_hp")) | (with_reducible (first | refine go_par ?_ | refine go_gpar ?_ | refine go_isN_non ?_ | refine go_isN_int ?_ | refine go_isN_str ?_ | refine go_isN_bl ?_ | refine go_isN_ref ?_ | refine go_neI ?_ | refine go_neS ?_ | refine go_neB ?_ | refine go_iT ?_ | refine go_ne (by rfl) ?_)) | ((with_reducible refine' go_ixAL ?hp ?ha ?_); (case hp => walk_at "lw_hp"); (case ha => first | rfl | assumption)) | ((with_reducible refine' go_ixAT ?hp ?ha ?_); (case hp => walk_at "lw_hp"); (case ha => first | rfl | assumption)) | ((with_reducible refine' go_qiT ?hp ?_); (case hp => walk_at "lw_hp")) | (with_reducible (first | refine go_is_non_int ?_ | refine go_is_non_bool ?_ | refine go_is_non_str ?_ | refine go_is_non_tuple ?_ | refine go_is_non_list ?_ | refine go_is_bl_int ?_ | refine go_is_bl_bool ?_ | refine go_is_bl_str ?_ | refine go_is_bl_tuple ?_ | refine go_is_bl_list ?_ | refine go_is_int_int ?_ | refine go_is_int_bool ?_ | refine go_is_int_str ?_ | refine go_is_int_tuple ?_ | refine go_is_int_list ?_ | refine go_is_str_int ?_ | refine go_is_str_bool ?_ | refine go_is_str_str ?_ | refine go_is_str_tuple ?_ | refine go_is_str_list ?_)) | ((with_reducible refine' go_is_lst_int ?hp ?_); (case hp => walk_at "lw_hp")) | ((with_reducible refine' go_is_lst_bool ?hp ?_); (case hp => walk_at "lw_hp")) | ((with_reducible refine' go_is_lst_str ?hp ?_); (case hp => walk_at "lw_hp")) | ((with_reducible refine' go_is_lst_tuple ?hp ?_); (case hp => walk_at "lw_hp")) | ((with_reducible refine' go_is_lst_list ?hp ?_); (case hp => walk_at "lw_hp")) | ((with_reducible refine' go_is_tup_int ?hp ?_); (case hp => walk_at "lw_hp")) | ((with_reducible refine' go_is_tup_bool ?hp ?_); (case hp => walk_at "lw_hp")) | ((with_reducible refine' go_is_tup_str ?hp ?_); (case hp => walk_at "lw_hp")) | ((with_reducible refine' go_is_tup_tuple ?hp ?_); (case hp => walk_at "lw_hp")) | ((with_reducible refine' go_is_tup_list ?hp ?_); (case hp => walk_at "lw_hp")) | (with_reducible (first | refine go_max ?_ | refine go_bm0 ?_ | refine go_chain ?_ | refine go_qch ?_)) | ((with_reducible refine' go_qbm0 ?hp ?_); (case hp => walk_at "lw_hp")) | (with_reducible (first | refine go_retN ?_ | refine go_orV ?_ | refine go_whQ ?_ | refine go_rng2 ?_ | refine go_qrng2 (by omega) (by omega) (by omega) (by omega) ?_ | refine go_rvr ?_ | refine go_qrvr (by omega) (by omega) ?_ | refine go_fcons ?_ | refine go_fv ?_ | refine go_m0 ?_ | refine go_m1 ?_ | refine go_qm0 ?_ | refine go_qm1 ?_ | refine go_digit ?_ | refine go_ascii ?_ | refine go_starts ?_ | refine go_star ?_ | refine go_rvL ?_ | refine go_dninK ?_ | refine go_rng3 ?_ | refine go_qrng3 (by omega) (by omega) (by omega) (by omega) ?_ | refine go_lr2 ?_ | refine go_enum ?_ | refine go_aug rfl ?_ | refine go_ipI ?_)) | ((with_reducible refine' go_qenum ?hp ?_); (case hp => walk_at "lw_hp")) | ((with_reducible refine' go_sumL ?hp ?_); (case hp => walk_at "lw_hp")))))
def top (i : Nat) : Stmt := PySem.Challenge.pw_longwork_k19_written_and_read.main.body.getD i (.Pass ⟨0, 0, 0, 0⟩)
abbrev s__law_next : Stmt := top 33
abbrev s__law_dice : Stmt := top 32
structure Dice (K : PySem.W.Frag) (H : Hp) (d : Addr) : Prop where
  ex : ∃ (a : Addr) (ns : List Int) (i m r : Int), H d = some (.lst [.ref a, .int i, .int m, .int r]) ∧ Scr K H a ns ∧ ns.length ≤ 63 ∧ 0 ≤ i ∧ 0 ≤ m ∧ m < 2147483647
def spNext (K : PySem.W.Frag) : Sp := fun vs H Q _ => ∃ (d : Addr) (many : Int), vs = [.ref d, .int many] ∧ Dice K H d ∧ 0 < many ∧ many < 1073741824 ∧
  ∀ (r : Int) (H' : Hp), 0 ≤ r → r < many → Dice K H' d → Off d H H' → Q (.int r) H'
def spDice (K : PySem.W.Frag) : Sp := fun vs H Q _ => ∃ (a : Addr) (ns : List Int), vs = [.ref a] ∧ Scr K H a ns ∧ ns.length ≤ 63 ∧ ∀ (d : Addr) (H' : Hp), Same H H' → Dice K H' d → Q (.ref d) H'
structure Txt (mg : Str → Option Value) : Prop where
  n_len : mg "len" = none
  n_range : mg "range" = none
  n_isinstance : mg "isinstance" = none
  n_int : mg "int" = none
  n_bool : mg "bool" = none
  n_str : mg "str" = none
  n_tuple : mg "tuple" = none
  n_list : mg "list" = none
  n_min : mg "min" = none
  n_max : mg "max" = none
  n_enumerate : mg "enumerate" = none
  n_zip : mg "zip" = none
  n_reversed : mg "reversed" = none
  g_MOST_NAMES : ∃ t, mg "MOST_NAMES" = some (.int 8 t)
  g_MOST_FILES : ∃ t, mg "MOST_FILES" = some (.int 4 t)
  g_MOST_ROWS : ∃ t, mg "MOST_ROWS" = some (.int 60 t)
  g_MOST_DEEP : ∃ t, mg "MOST_DEEP" = some (.int 3 t)
  g_TOP : ∃ t, mg "TOP" = some (.int 10006 t)
  g_MOST_FIGURES : ∃ t, mg "MOST_FIGURES" = some (.int 5 t)
section
variable {P : Program} {w : World} {K : PySem.W.Frag} {mg : Str → Option Value} {base : Heap} {f : Addr} {fd : FuncData}
theorem scs__law_next : FnScope ["_law_dice_here", "_law_many", "_law_found", "_law_cell"] ["_law_dice_here", "_law_many"] (defScope s__law_next) := ⟨rfl, rfl, rfl, by decide +kernel, rfl, by decide +kernel, by decide +kernel⟩
theorem ok_next (F : Fun K "_law_next" "_law_next" s__law_next f fd) (T : Txt mg) : FnOk P w K mg base CX0 1 f fd ["_law_dice_here", "_law_many"] (spNext K) := by
  refine F.ok scs__law_next (fun vs H Q E h => ?_) (fun cdv A outer s H vs Q E hr h => ?_)
  · obtain ⟨d, many, rfl, _⟩ := h
    rfl
  obtain ⟨d, many, rfl, ⟨a, ns, i, m, r, hd, hS, hl, hi, hm0, hm1⟩, hk0, hk1, k⟩ := h
  have nd := scs__law_next.nd
  have hu := hu_of hr
  refine ⟨_, (pss_cons (ps_if (pt_cmpR op_gt (pe_ix (kIxL K) (pv 0) pe_int (fun _ _ => rfl)) pe_int (nomark _)) (pss_cons (ps_set (i := 2) nd rfl (Or.inl rfl) (pe_op op_mod (pe_ix (kIxL K) (pv 0) pe_int (fun _ _ => rfl)) (pv 1)))
      (pss_cons (ps_asg (pe_op op_fdiv (pe_ix (kIxL K) (pv 0) pe_int (fun _ _ => rfl)) (pv 1)) (pg_sub (pv 0) pe_int set_list))
      (pss_one (ps_ret (pv 2))))) pss_nil)
      (pss_cons (ps_asg (pe_op op_add (pe_ix (kIxL K) (pv 0) pe_int (fun _ _ => rfl)) pe_int) (pg_sub (pv 0) pe_int set_list))
      (pss_cons (ps_if (pt_cmpR op_le (pe_ix (kIxL K) (pv 0) pe_int (fun _ _ => rfl)) (pe_callB (kLen K) (by rfl) T.n_len (by decide +kernel) (pa_cons (pe_ix (kIxL K) (pv 0) pe_int (fun _ _ => rfl)) pa_nil)) (nomark _)) (pss_cons (ps_set (i := 3) nd rfl (Or.inl rfl) (pe_ix (kIxL K) (pe_ix (kIxL K) (pv 0) pe_int (fun _ _ => rfl)) (pe_op op_sub (pe_ix (kIxL K) (pv 0) pe_int (fun _ _ => rfl)) pe_int) (fun _ _ => rfl)))
      (pss_cons (ps_asg (pe_ifExp (pt_cmpR op_ge (pv 3) (pe_op op_pow pe_int pe_int) (nomark _)) (pe_op op_fdiv (pv 3) (pv 1)) pe_int) (pg_sub (pv 0) pe_int set_list))
      (pss_one (ps_ret (pe_op op_mod (pv 3) (pv 1)))))) pss_nil)
      (pss_cons (ps_asg (pe_op op_mod (pe_op op_mul (pe_ix (kIxL K) (pv 0) pe_int (fun _ _ => rfl)) pe_int) pe_int) (pg_sub (pv 0) pe_int set_list))
      (pss_one (ps_ret (pe_op op_mod (pe_op op_fdiv (pe_ix (kIxL K) (pv 0) pe_int (fun _ _ => rfl)) pe_int) (pv 1)))))))), ?_⟩
  with_reducible refine go_seq (go_ifS (go_test (go_op (go_op ?_))))
  with_reducible refine go_var rfl (go_c ?_)
  (with_reducible refine' go_ixL ?hp ?ha ?_); (case hp => walk_at "lw_hp"); (case ha => first | rfl | assumption)
  with_reducible refine go_c (go_i0 (go_qb ?_))
  refine go_iteD (fun c => ?_) (fun c => ?_)
  · with_reducible refine go_seq (go_asg (go_op (go_op (go_var rfl ?_))))
    with_reducible refine go_c ?_
    (with_reducible refine' go_ixL ?hp ?ha ?_); (case hp => walk_at "lw_hp"); (case ha => first | rfl | assumption)
    with_reducible refine go_var rfl ?_
    (with_reducible refine' go_i ?cc ?_); (case cc => first | omega | (simp only [CDiv, CMul, CPow]; omega) | (simp only [CDiv, CMul, CPow]; decide))
    with_reducible refine go_gname (go_seq (go_asg (go_op (go_op ?_))))
    with_reducible refine go_var rfl (go_c ?_)
    (with_reducible refine' go_ixL ?hp ?ha ?_); (case hp => walk_at "lw_hp"); (case ha => first | rfl | assumption)
    with_reducible refine go_var rfl ?_
    (with_reducible refine' go_i ?cc ?_); (case cc => first | omega | (simp only [CDiv, CMul, CPow]; omega) | (simp only [CDiv, CMul, CPow]; decide))
    with_reducible refine go_gsub (go_var rfl (go_c ?_))
    (with_reducible refine' go_setL ?hp ?ha ?_); (case hp => walk_at "lw_hp"); (case ha => first | rfl | assumption)
    with_reducible refine go_ret (go_var rfl ?_)
    exact k _ _ (Int.emod_nonneg _ (by omega)) (Int.emod_lt_of_pos _ hk0) ⟨a, ns, i, m, _, upd_same, hS.mono (TK.updL hd), hl, hi, hm0, hm1⟩ (off_upd _ _ _)
  · with_reducible refine go_next (go_seq (go_asg (go_op (go_op ?_))))
    with_reducible refine go_var rfl (go_c ?_)
    (with_reducible refine' go_ixL ?hp ?ha ?_); (case hp => walk_at "lw_hp"); (case ha => first | rfl | assumption)
    with_reducible refine go_c (go_i0 (go_gsub (go_var rfl (go_c ?_))))
    (with_reducible refine' go_setL ?hp ?ha ?_); (case hp => walk_at "lw_hp"); (case ha => first | rfl | assumption)
    with_reducible refine go_seq (go_ifS (go_test (go_op (go_op ?_))))
    with_reducible refine go_var rfl (go_c ?_)
    (with_reducible refine' go_ixL ?hp ?ha ?_); (case hp => walk_at "lw_hp"); (case ha => first | rfl | assumption)
    with_reducible refine go_cb (go_cons (go_op (go_var rfl (go_c ?_))))
    (with_reducible refine' go_ixL ?hp ?ha ?_); (case hp => walk_at "lw_hp"); (case ha => first | rfl | assumption)
    with_reducible refine go_nil ?_
    have hs1 := (hS.mono (TK.updL (o := HO.lst [V.ref a, V.int (i + 1), V.int m, V.int r]) hd)).sq
    refine go_lenLs hs1 ?_
    with_reducible refine go_i0 (go_qb ?_)
    rw [List.length_map]
    refine go_iteD (fun c => ?_) (fun c => ?_)
    · obtain ⟨v, hv⟩ : ∃ v, ns[i.toNat]? = some v := ⟨_, List.getElem?_eq_getElem (by omega)⟩
      have hat : atI (ns.map V.int) (i + 1 - 1) = some (.int v) := by
        rw [show i + 1 - 1 = ((i.toNat : Nat) : Int) by omega]
        exact atI_nat (by rw [List.getElem?_map, hv]; rfl)
      with_reducible refine go_seq (go_asg (go_op (go_op (go_var rfl ?_))))
      with_reducible refine go_c ?_
      (with_reducible refine' go_ixL ?hp ?ha ?_); (case hp => walk_at "lw_hp"); (case ha => first | rfl | assumption)
      with_reducible refine go_op (go_op (go_var rfl (go_c ?_)))
      (with_reducible refine' go_ixL ?hp ?ha ?_); (case hp => walk_at "lw_hp"); (case ha => first | rfl | assumption)
      with_reducible refine go_c (go_i0 ?_)
      refine go_ixLs hs1 hat ?_
      with_reducible refine go_gname (go_seq (go_asg (go_if (go_test ?_))))
      with_reducible refine go_op (go_var rfl (go_op (go_c (go_c ?_))))
      (with_reducible refine' go_i ?cc ?_); (case cc => first | omega | (simp only [CDiv, CMul, CPow]; omega) | (simp only [CDiv, CMul, CPow]; decide))
      with_reducible refine go_i0 (go_qb ?_)
      refine go_iteD (fun c => ?_) (fun c => ?_)
      all_goals
        walk_at "lw_go"
        have o1 : ∀ o, Off d H (upd (upd H d (HO.lst [V.ref a, V.int (i + 1), V.int m, V.int r])) d o) := fun o => (off_upd _ _ _).trans (off_upd _ d _)
        exact k _ _ (Int.emod_nonneg _ (by omega)) (Int.emod_lt_of_pos _ hk0) ⟨a, ns, i + 1, m, _, upd_same, hS.mono ((o1 _).tk hd), hl, by omega, hm0, hm1⟩ (o1 _)
    · with_reducible refine go_next (go_seq (go_asg (go_op (go_op ?_))))
      with_reducible refine go_op (go_var rfl (go_c ?_))
      (with_reducible refine' go_ixL ?hp ?ha ?_); (case hp => walk_at "lw_hp"); (case ha => first | rfl | assumption)
      with_reducible refine go_c ?_
      (with_reducible refine' go_i ?cc ?_); (case cc => first | omega | (simp only [CDiv, CMul, CPow]; omega) | (simp only [CDiv, CMul, CPow]; decide))
      with_reducible refine go_c ?_
      (with_reducible refine' go_i ?cc ?_); (case cc => first | omega | (simp only [CDiv, CMul, CPow]; omega) | (simp only [CDiv, CMul, CPow]; decide))
      with_reducible refine go_gsub (go_var rfl (go_c ?_))
      (with_reducible refine' go_setL ?hp ?ha ?_); (case hp => walk_at "lw_hp"); (case ha => first | rfl | assumption)
      with_reducible refine go_ret (go_op (go_op (go_op (go_var rfl ?_))))
      with_reducible refine go_c ?_
      (with_reducible refine' go_ixL ?hp ?ha ?_); (case hp => walk_at "lw_hp"); (case ha => first | rfl | assumption)
      with_reducible refine go_c ?_
      (with_reducible refine' go_i ?cc ?_); (case cc => first | omega | (simp only [CDiv, CMul, CPow]; omega) | (simp only [CDiv, CMul, CPow]; decide))
      with_reducible refine go_var rfl ?_
      (with_reducible refine' go_i ?cc ?_); (case cc => first | omega | (simp only [CDiv, CMul, CPow]; omega) | (simp only [CDiv, CMul, CPow]; decide))
      have o1 : ∀ o, Off d H (upd (upd H d (HO.lst [V.ref a, V.int (i + 1), V.int m, V.int r])) d o) := fun o => (off_upd _ _ _).trans (off_upd _ d _)
      exact k _ _ (Int.emod_nonneg _ (by omega)) (Int.emod_lt_of_pos _ hk0) ⟨a, ns, i + 1, _, r, upd_same, hS.mono ((o1 _).tk hd), hl, by omega, Int.emod_nonneg _ (by omega), Int.emod_lt_of_pos _ (by omega)⟩ (o1 _)
theorem scs__law_dice : FnScope ["_law_script", "_law_mixed", "_law_cell"] ["_law_script"] (defScope s__law_dice) := ⟨rfl, rfl, rfl, by decide +kernel, rfl, by decide +kernel, by decide +kernel⟩
theorem ok_dice (F : Fun K "_law_dice" "_law_dice" s__law_dice f fd) (T : Txt mg) : FnOk P w K mg base CX0 1 f fd ["_law_script"] (spDice K) := by
  refine F.ok scs__law_dice (fun vs H Q E h => ?_) (fun cdv A outer s H vs Q E hr h => ?_)
  · obtain ⟨a, ns, rfl, _⟩ := h
    rfl
  obtain ⟨a, ns, rfl, hS, hl, k⟩ := h
  have hs := hS.sq
  have nd := scs__law_dice.nd
  have hu := hu_of hr
  refine ⟨_, (pss_cons (ps_set (i := 1) nd rfl (Or.inl rfl) pe_int)
      (pss_cons (ps_for PassesOwn.never rfl (kPiL K (pv 0)) (pg_name (i := 2) nd rfl (Or.inl rfl)) (pss_one (ps_set (i := 1) nd rfl (Or.inl rfl) (pe_op op_mod (pe_op op_add (pe_op op_add (pe_op op_mul (pv 1) pe_int) (pe_op op_mul (pe_op op_mod (pv 2) pe_int) pe_int)) pe_int) pe_int))))
      (pss_one (ps_ret (pe_lst (pa_cons (pv 0) (pa_cons pe_int (pa_cons (pe_op op_mul (pv 1) (pe_callTy c_int (by rfl) T.n_int (by decide +kernel) (pa_cons (pe_cmpR op_gt (pe_callB (kLen K) (by rfl) T.n_len (by decide +kernel) (pa_cons (pv 0) pa_nil)) pe_int (nomark _)) pa_nil))) (pa_cons pe_int pa_nil))))))))), ?_⟩
  with_reducible refine go_seq (go_asg (go_c (go_gname (go_seq ?_))))
  with_reducible refine go_for (go_iL (go_var rfl ?_))
  refine go_qiLs hs ?_
  refine fq_list (ns.map V.int) (fun i σ H' => ∃ m v, σ = [some (.ref a), some (.int m), v] ∧ H' = H ∧ 0 ≤ m ∧ m < 2147483647) ⟨0, none, rfl, rfl, by omega, by omega⟩ ?_ ?_ ?_
  · rintro i σ H' _ ⟨m, v, rfl, rfl, _⟩
    exact hs
  · rintro i x σ H' hx ⟨m, v, rfl, rfl, h0, h1⟩
    obtain ⟨n, rfl⟩ : ∃ n, x = V.int n := by
      rw [List.getElem?_map] at hx
      cases e : ns[i]? with
      | none => rw [e] at hx; cases hx
      | some z => rw [e] at hx; exact ⟨z, (Option.some.inj hx).symm⟩
    with_reducible refine go_gname (go_asg (go_op (go_op (go_op ?_))))
    with_reducible refine go_op (go_var rfl (go_c ?_))
    (with_reducible refine' go_i ?cc ?_); (case cc => first | omega | (simp only [CDiv, CMul, CPow]; omega) | (simp only [CDiv, CMul, CPow]; decide))
    with_reducible refine go_op (go_op (go_var rfl (go_c ?_)))
    (with_reducible refine' go_i ?cc ?_); (case cc => first | omega | (simp only [CDiv, CMul, CPow]; omega) | (simp only [CDiv, CMul, CPow]; decide))
    with_reducible refine go_c ?_
    (with_reducible refine' go_i ?cc ?_); (case cc => first | omega | (simp only [CDiv, CMul, CPow]; omega) | (simp only [CDiv, CMul, CPow]; decide))
    with_reducible refine go_i0 (go_c (go_i0 (go_c ?_)))
    (with_reducible refine' go_i ?cc ?_); (case cc => first | omega | (simp only [CDiv, CMul, CPow]; omega) | (simp only [CDiv, CMul, CPow]; decide))
    with_reducible refine go_gname ?_
    exact ⟨_, _, rfl, rfl, Int.emod_nonneg _ (by omega), Int.emod_lt_of_pos _ (by omega)⟩
  · rintro σ H' ⟨m, v, rfl, rfl, h0, h1⟩
    with_reducible refine go_ret (go_lst (go_cons (go_var rfl (go_cons ?_))))
    with_reducible refine go_c (go_cons (go_op (go_var rfl (go_cb ?_))))
    with_reducible refine go_cons (go_op (go_cb (go_cons (go_var rfl ?_))))
    with_reducible refine go_nil ?_
    with_reducible refine' go_lenLs (by assumption) ?_
    with_reducible refine go_c (go_i0 (go_nil (go_intB ?_)))
    (with_reducible refine' go_i ?cc ?_); (case cc => first | omega | (simp only [CDiv, CMul, CPow]; omega) | (simp only [CDiv, CMul, CPow]; decide))
    with_reducible refine go_cons (go_c (go_nil ?_))
    refine go_qlst (Nat.le_of_ble_eq_true rfl) (fun p hp => ?_)
    refine k p _ (same_new hp _) ⟨a, ns, 0, _, 0, upd_same, hS.mono (TK.new hp), hl, Int.le_refl _, ?_, ?_⟩
    · split <;> omega
    · split <;> omega
end
theorem nx_go {K : PySem.W.Frag} {H : Hp} {d : Addr} {many : Int} {Q : VK} {E : XK} (D : Dice K H d) (h0 : 0 < many) (h1 : many < 1073741824) (k : ∀ (r : Int) (H' : Hp), 0 ≤ r → r < many → Dice K H' d → Off d H H' → Q (.int r) H') : spNext K [.ref d, .int many] H Q E := ⟨d, many, rfl, D, h0, h1, k⟩
theorem Dice.tk {K : PySem.W.Frag} {H H' : Hp} {d : Addr} (D : Dice K H d) (o : Off d H H') : TK H H' := by
  obtain ⟨a, ns, i, m, r, h, _⟩ := D.ex
  exact o.tk h
theorem Dice.same {K : PySem.W.Frag} {H H' : Hp} {d : Addr} (D : Dice K H d) (s : Same H H') : Dice K H' d := by
  obtain ⟨a, ns, i, m, r, h, hs, q⟩ := D.ex
  exact ⟨a, ns, i, m, r, s _ _ h, hs.mono s.tk, q⟩
theorem Dice.ne {K : PySem.W.Frag} {H : Hp} {d a : Addr} {xs : List V} (D : Dice K H d) (h : H a = some (.tup xs)) : a ≠ d := by
  obtain ⟨_, ns, i, m, r, hd, _⟩ := D.ex
  exact ne_of h hd (by intro z; cases z)
theorem Dice.nef {K : PySem.W.Frag} {H : Hp} {d p : Addr} (D : Dice K H d) (h : H p = none) : p ≠ d := by
  obtain ⟨_, ns, i, m, r, hd, _⟩ := D.ex
  exact (ne_of_none hd h).symm
theorem lst_off {K : PySem.W.Frag} {H H' H0 : Hp} {d p : Addr} {u : HO} (o : Off d H H') (hn : H0 p = none) (D : Dice K H0 d) (h : H p = some u) : H' p = some u := o _ _ h (D.nef hn)
theorem Dice.keep {K : PySem.W.Frag} {H H' : Hp} {d : Addr} (D : Dice K H d) (t : TK H H') (h : ∀ o, H d = some o → H' d = some o) : Dice K H' d := by
  obtain ⟨a, ns, i, m, r, hd, hs, q⟩ := D.ex
  exact ⟨a, ns, i, m, r, h _ hd, hs.mono t, q⟩
theorem Dice.updL {K : PySem.W.Frag} {H : Hp} {d p : Addr} {o : HO} {ys : List V} (D : Dice K H d) (h : H p = some (.lst ys)) (n : d ≠ p) : Dice K (upd H p o) d := D.keep (TK.updL h) fun u q => by rw [upd_ne n]; exact q
theorem off_fresh {d p : Addr} {H H' : Hp} {o : HO} (h : H p = none) (s : Off d H H') : Off d H (upd H' p o) := fun b u q n => by rw [upd_ne (ne_of_none q h)]; exact s b u q n
theorem tk_off {K : PySem.W.Frag} {H H' : Hp} {d : Addr} (o : Off d H H') (D : Dice K H d) : TK H H' := D.tk o
theorem tup_off {K : PySem.W.Frag} {H H' : Hp} {d a : Addr} {xs : List V} (o : Off d H H') (D : Dice K H d) (h : H a = some (.tup xs)) : H' a = some (.tup xs) := D.tk o a _ True.intro h
end Lw
set_option Elab.async false
set_option linter.all false
set_option maxRecDepth 100000
set_option maxHeartbeats 4000000
namespace Lw
open PySem L2
local macro_rules | `(tactic| walk_at "lw_hp") => `(tactic| (repeat (first | assumption | exact upd_same | (refine' upd_new (by assumption) ?_) | (refine' tup_off (by assumption) (by assumption) ?_) | (refine' lst_off (by assumption) (by assumption) (by assumption) ?_) | (refine' Same.get (by assumption) ?_) | (refine' Off.get (by assumption) (by assumption) ?_) | (refine' upd_oth (by assumption) ?_))))
local macro_rules | `(tactic| walk_at "lw_go") => `(tactic| (repeat (first | (with_reducible (first | refine go_var rfl ?_ | refine go_c ?_ | refine go_cons ?_ | refine go_op ?_ | refine go_nil ?_ | refine go_seq ?_ | refine go_qb ?_ | refine go_test ?_ | refine go_ifS ?_ | refine go_gname ?_ | refine go_cb ?_)) | ((with_reducible refine' go_ixT ?hp ?ha ?_); (case hp => walk_at "lw_hp"); (case ha => first | rfl | assumption)) | (with_reducible (first | refine go_asg ?_ | refine go_callC ?_ | refine go_next ?_ | refine go_tup ?_ | refine go_i0 ?_ | refine go_ret ?_ | refine go_dget ?_ | refine go_gcons ?_ | refine go_gsub ?_ | refine go_testB ?_)) | ((with_reducible refine' go_ixL ?hp ?ha ?_); (case hp => walk_at "lw_hp"); (case ha => first | rfl | assumption)) | (with_reducible (first | refine' go_ixLs (by assumption) (by assumption) ?_ | refine go_lst ?_)) | ((with_reducible refine' go_i ?cc ?_); (case cc => first | omega | (simp only [CDiv, CMul, CPow]; omega) | (simp only [CDiv, CMul, CPow]; decide))) | (with_reducible (first | refine go_drop ?_ | refine go_eqI ?_ | refine go_eqS ?_ | refine go_eqB ?_ | refine go_eq (by rfl) ?_ | refine go_gnil ?_ | refine go_iteT ?_ | refine go_iteF ?_ | refine go_iteNt ?_ | refine go_iteNf ?_ | refine go_iteNN ?_)) | (with_reducible refine go_iteDT (by first | assumption | rfl | omega | (simp only [List.length_cons, List.length_nil, List.length_map]; omega)) ?_) | (with_reducible refine go_iteDF (by first | assumption | omega | decide | decide +kernel | (simp only [List.length_cons, List.length_nil, List.length_map]; omega)) ?_) | (with_reducible refine go_iteNT (by first | assumption | rfl | omega | (simp only [List.length_cons, List.length_nil, List.length_map]; omega)) ?_) | (with_reducible refine go_iteNF (by first | assumption | omega | decide | decide +kernel | (simp only [List.length_cons, List.length_nil, List.length_map]; omega)) ?_) | (with_reducible refine go_iteBT (by first | assumption | decide +kernel) ?_) | (with_reducible refine go_iteBF (by first | assumption | decide +kernel) ?_) | (with_reducible (first | refine go_dput ?_ | refine go_setD ?_)) | ((with_reducible refine' go_gtup ?hp ?ha ?_); (case hp => walk_at "lw_hp"); (case ha => first | rfl | assumption)) | (with_reducible refine go_if ?_) | ((with_reducible refine' go_setL ?hp ?ha ?_); (case hp => walk_at "lw_hp"); (case ha => first | rfl | assumption)) | (with_reducible (first | refine go_not ?_ | refine go_or ?_ | refine go_andV ?_ | refine go_sl ?_ | refine go_nopart ?_ | refine go_part ?_ | refine go_qI ?_ | refine' go_lenLs (by assumption) ?_)) | ((with_reducible refine' go_lenL ?hp ?_); (case hp => walk_at "lw_hp")) | ((with_reducible refine' go_lenT ?hp ?_); (case hp => walk_at "lw_hp")) | ((with_reducible refine' go_inT ?hp ?ha ?hb ?_); (case hp => walk_at "lw_hp"); (case ha => rfl); (case hb => rfl)) | ((with_reducible refine' go_notInT ?hp ?ha ?hb ?_); (case hp => walk_at "lw_hp"); (case ha => rfl); (case hb => rfl)) | (with_reducible (first | refine go_pnil ?_ | refine go_pcons ?_ | refine go_un ?_ | refine go_u ?_ | refine go_for ?_ | refine go_rng1 ?_ | refine go_qrng1 (by omega) (by omega) ?_ | refine go_notN_non ?_ | refine go_notN_int ?_ | refine go_notN_str ?_ | refine go_notN_bl ?_ | refine go_notN_ref ?_ | refine go_min ?_ | refine go_bm ?_ | refine go_lc ?_)) | ((with_reducible refine' go_qbm ?hp ?_); (case hp => walk_at "lw_hp")) | (with_reducible (first | refine go_int ?_ | refine go_intB ?_ | refine go_yes ?_ | refine go_and ?_ | refine go_notV ?_ | refine go_iL ?_)) | ((with_reducible refine' go_glst ?hp ?ha ?_); (case hp => walk_at "lw_hp"); (case ha => first | rfl | assumption)) | ((with_reducible refine' go_qiL ?hp ?_); (case hp => walk_at "lw_hp")) | (with_reducible (first | refine go_par ?_ | refine go_gpar ?_ | refine go_isN_non ?_ | refine go_isN_int ?_ | refine go_isN_str ?_ | refine go_isN_bl ?_ | refine go_isN_ref ?_ | refine go_neI ?_ | refine go_neS ?_ | refine go_neB ?_ | refine go_iT ?_ | refine go_ne (by rfl) ?_)) | ((with_reducible refine' go_ixAL ?hp ?ha ?_); (case hp => walk_at "lw_hp"); (case ha => first | rfl | assumption)) | ((with_reducible refine' go_ixAT ?hp ?ha ?_); (case hp => walk_at "lw_hp"); (case ha => first | rfl | assumption)) | ((with_reducible refine' go_qiT ?hp ?_); (case hp => walk_at "lw_hp")) | (with_reducible (first | refine go_is_non_int ?_ | refine go_is_non_bool ?_ | refine go_is_non_str ?_ | refine go_is_non_tuple ?_ | refine go_is_non_list ?_ | refine go_is_bl_int ?_ | refine go_is_bl_bool ?_ | refine go_is_bl_str ?_ | refine go_is_bl_tuple ?_ | refine go_is_bl_list ?_ | refine go_is_int_int ?_ | refine go_is_int_bool ?_ | refine go_is_int_str ?_ | refine go_is_int_tuple ?_ | refine go_is_int_list ?_ | refine go_is_str_int ?_ | refine go_is_str_bool ?_ | refine go_is_str_str ?_ | refine go_is_str_tuple ?_ | refine go_is_str_list ?_)) | ((with_reducible refine' go_is_lst_int ?hp ?_); (case hp => walk_at "lw_hp")) | ((with_reducible refine' go_is_lst_bool ?hp ?_); (case hp => walk_at "lw_hp")) | ((with_reducible refine' go_is_lst_str ?hp ?_); (case hp => walk_at "lw_hp")) | ((with_reducible refine' go_is_lst_tuple ?hp ?_); (case hp => walk_at "lw_hp")) | ((with_reducible refine' go_is_lst_list ?hp ?_); (case hp => walk_at "lw_hp")) | ((with_reducible refine' go_is_tup_int ?hp ?_); (case hp => walk_at "lw_hp")) | ((with_reducible refine' go_is_tup_bool ?hp ?_); (case hp => walk_at "lw_hp")) | ((with_reducible refine' go_is_tup_str ?hp ?_); (case hp => walk_at "lw_hp")) | ((with_reducible refine' go_is_tup_tuple ?hp ?_); (case hp => walk_at "lw_hp")) | ((with_reducible refine' go_is_tup_list ?hp ?_); (case hp => walk_at "lw_hp")) | (with_reducible (first | refine go_max ?_ | refine go_bm0 ?_ | refine go_chain ?_ | refine go_qch ?_)) | ((with_reducible refine' go_qbm0 ?hp ?_); (case hp => walk_at "lw_hp")) | (with_reducible (first | refine go_retN ?_ | refine go_orV ?_ | refine go_whQ ?_ | refine go_rng2 ?_ | refine go_qrng2 (by omega) (by omega) (by omega) (by omega) ?_ | refine go_rvr ?_ | refine go_qrvr (by omega) (by omega) ?_ | refine go_fcons ?_ | refine go_fv ?_ | refine go_m0 ?_ | refine go_m1 ?_ | refine go_qm0 ?_ | refine go_qm1 ?_ | refine go_digit ?_ | refine go_ascii ?_ | refine go_starts ?_ | refine go_star ?_ | refine go_rvL ?_ | refine go_dninK ?_ | refine go_rng3 ?_ | refine go_qrng3 (by omega) (by omega) (by omega) (by omega) ?_ | refine go_lr2 ?_ | refine go_enum ?_ | refine go_aug rfl ?_ | refine go_ipI ?_)) | ((with_reducible refine' go_qenum ?hp ?_); (case hp => walk_at "lw_hp")) | ((with_reducible refine' go_sumL ?hp ?_); (case hp => walk_at "lw_hp")))))
abbrev s_is_number : Stmt := top 11
def Plain (H : Hp) (x : V) : Prop := (∃ n, x = .int n) ∨ (∃ b, x = .bl b) ∨ x = .non ∨ (∃ t, x = .str t) ∨ ∃ a xs, x = .ref a ∧ (H a = some (.lst xs) ∨ H a = some (.tup xs))
def numV (x : V) (lo hi : Int) : Bool := match x with
  | .int n => decide (lo ≤ n ∧ n ≤ hi)
  | _ => false
def spIsNum : Sp := fun vs H Q _ => ∃ (x : V) (lo hi : Int), vs = [x, .int lo, .int hi] ∧ Plain H x ∧ Q (.bl (numV x lo hi)) H
theorem num_go {H : Hp} {Q : VK} {E : XK} {n lo hi : Int} (h0 : lo ≤ n) (h1 : n ≤ hi) (q : Q (.bl true) H) : spIsNum [.int n, .int lo, .int hi] H Q E := ⟨.int n, lo, hi, rfl, .inl ⟨n, rfl⟩, by rw [show numV (.int n) lo hi = true from decide_eq_true ⟨h0, h1⟩]; exact q⟩
section
variable {P : Program} {w : World} {K : PySem.W.Frag} {mg : Str → Option Value} {base : Heap} {f : Addr} {fd : FuncData}
theorem scs_is_number : FnScope ["thing", "low", "high"] ["thing", "low", "high"] (defScope s_is_number) := ⟨rfl, rfl, rfl, by decide +kernel, rfl, by decide +kernel, by decide +kernel⟩
theorem ok_isnum (F : Fun K "is_number" "is_number" s_is_number f fd) (T : Txt mg) : FnOk P w K mg base CX0 1 f fd ["thing", "low", "high"] spIsNum := by
  refine F.ok scs_is_number (fun vs H Q E h => ?_) (fun cdv A outer s H vs Q E hr h => ?_)
  · obtain ⟨x, lo, hi, rfl, _⟩ := h
    rfl
  obtain ⟨x, lo, hi, rfl, hx, k⟩ := h
  have nd := scs_is_number.nd
  have hu := hu_of hr
  refine ⟨_, (pss_one (ps_ret (pe_and (pe_callB (kIsinst K) (by rfl) T.n_isinstance (by decide +kernel) (pa_cons (pv 0) (pa_cons (pe_bltn (v := .ty "int") (by rfl) T.n_int (by decide +kernel) rfl) pa_nil))) (pe_and (pe_not (pe_callB (kIsinst K) (by rfl) T.n_isinstance (by decide +kernel) (pa_cons (pv 0) (pa_cons (pe_bltn (v := .ty "bool") (by rfl) T.n_bool (by decide +kernel) rfl) pa_nil)))) (pe_one (pe_chain op_le op_le (pv 1) (pv 0) (pv 2))))))), ?_⟩
  rcases hx with ⟨n, rfl⟩ | ⟨b, rfl⟩ | rfl | ⟨t, rfl⟩ | ⟨a, xs, rfl, ha | ha⟩
  · walk_at "lw_go"
    refine go_iteD (fun c => ?_) (fun c => ?_)
    · walk_at "lw_go"
      have e : numV (.int n) lo hi = decide (n ≤ hi) := by
        unfold numV
        exact decide_eq_decide.mpr ⟨fun z => z.2, fun z => ⟨c, z⟩⟩
      rw [e] at k
      exact k
    · have e : numV (.int n) lo hi = false := decide_eq_false (fun z => c z.1)
      rw [e] at k
      exact k
  all_goals
    walk_at "lw_go"
    exact k
end
end Lw
set_option Elab.async false
set_option linter.all false
set_option maxRecDepth 100000
set_option maxHeartbeats 4000000
namespace Lw
open PySem L2
local macro_rules | `(tactic| walk_at "lw_hp") => `(tactic| (repeat (first | assumption | exact upd_same | (refine' upd_new (by assumption) ?_) | (refine' tup_off (by assumption) (by assumption) ?_) | (refine' lst_off (by assumption) (by assumption) (by assumption) ?_) | (refine' Same.get (by assumption) ?_) | (refine' Off.get (by assumption) (by assumption) ?_) | (refine' upd_oth (by assumption) ?_))))
abbrev s_is_single : Stmt := top 13
abbrev s_is_part : Stmt := top 12
abbrev s_has_shape : Stmt := top 14
abbrev s_is_place : Stmt := top 15
abbrev s_check_row : Stmt := top 16
abbrev s_check_program : Stmt := top 17
def kindsOf : List (Str × List Str) := [("set", ["name", "part"]), ("take", ["name"]), ("get", ["name", "file", "part"]), ("size", ["name", "file"]), ("add", ["file", "part"]), ("put", ["file", "part", "part"]), ("cut", ["file", "part"]), ("send", ["part"]), ("go", ["row"]), ("unless", ["name", "row"]), ("mark", [])]
def placesOk (K : PySem.W.Frag) (d : Addr) : Bool := kindsOf.all fun p => match dictIn K d p.1 with
  | some (some (.ref a)) => strsIn K a p.2
  | _ => false
theorem places_at {K : PySem.W.Frag} {d : Addr} (h : placesOk K d = true) {i : Nat} {p : Str × List Str} (hp : kindsOf[i]? = some p) : ∃ a, dictIn K d p.1 = some (some (.ref a)) ∧ ∀ H, SqT K H a (p.2.map V.str) := by
  have q := List.all_eq_true.mp h p (List.mem_of_getElem? hp)
  split at q
  · rename_i a e
    exact ⟨a, e, strsIn_sq q⟩
  · cases q
structure Own (K : PySem.W.Frag) (mg : Str → Option Value) (cI cC dP dL : Addr) : Prop where
  i : True
  c : True
  g_PLACES : mg "PLACES" = some (.ref dP)
  pl : placesOk K dP = true
def spSingle : Sp := fun vs H Q _ => ∃ (v : V) (nm : Int) (p : Part), vs = [v, .int nm] ∧ PartAt H p v ∧ (∀ o a b, p ≠ .op o a b) ∧ p.ok nm 1 ∧ Q (.bl true) H
def spIsPart (n : Nat) : Sp := fun vs H Q _ => ∃ (v : V) (nm : Int) (p : Part), vs = [v, .int nm, .int n] ∧ PartAt H p v ∧ p.ok nm n ∧ ∀ H', Same H H' → Q (.bl true) H'
section
variable {P : Program} {w : World} {K : PySem.W.Frag} {mg : Str → Option Value} {base : Heap} {f : Addr} {fd : FuncData} {cI cC dP dL : Addr}
theorem scs_is_single : FnScope ["part", "names"] ["part", "names"] (defScope s_is_single) := ⟨rfl, rfl, rfl, by decide +kernel, rfl, by decide +kernel, by decide +kernel⟩
theorem ok_single (F : Fun K "is_single" "is_single" s_is_single f fd) (T : Txt mg) (C_is_number : FnC P w K mg base 1 "is_number" ["thing", "low", "high"] spIsNum) : FnOk P w K mg base CX0 2 f fd ["part", "names"] spSingle := by
  refine F.ok scs_is_single (fun vs H Q E h => ?_) (fun cdv A outer s H vs Q E hr h => ?_)
  · obtain ⟨v, nm, p, rfl, _⟩ := h
    rfl
  obtain ⟨v, nm, p, rfl, hp, hno, hk, k⟩ := h
  have nd := scs_is_single.nd
  have hu := hu_of hr
  refine ⟨_, (pss_cons (ps_if (pt_cmpR op_eq (pe_ix (kIxT K) (pv 0) pe_int (fun _ _ => rfl)) pe_str (nomark _)) (pss_one (ps_ret (pe_callC C_is_number (hr.mono (by omega)) (by rfl) (pa_cons (pe_ix (kIxT K) (pv 0) pe_int (fun _ _ => rfl)) (pa_cons pe_int (pa_cons (pe_gint (by rfl) T.g_TOP) pa_nil)))))) pss_nil)
      (pss_one (ps_ret (pe_and (pe_cmpR op_eq (pe_ix (kIxT K) (pv 0) pe_int (fun _ _ => rfl)) pe_str (nomark _)) (pe_one (pe_callC C_is_number (hr.mono (by omega)) (by rfl) (pa_cons (pe_ix (kIxT K) (pv 0) pe_int (fun _ _ => rfl)) (pa_cons pe_int (pa_cons (pe_op op_sub (pv 1) pe_int) pa_nil))))))))), ?_⟩
  cases p with
  | num z =>
    obtain ⟨a, rfl, ha⟩ := hp
    with_reducible refine go_seq (go_ifS (go_test (go_op (go_op ?_))))
    with_reducible refine go_var rfl (go_c ?_)
    (with_reducible refine' go_ixT ?hp ?ha ?_); (case hp => walk_at "lw_hp"); (case ha => first | rfl | assumption)
    with_reducible refine go_c (go_eqS (go_qb (go_iteDT (by first | assumption | rfl | omega | (simp only [List.length_cons, List.length_nil, List.length_map]; omega)) (go_ret ?_))))
    with_reducible refine go_callC (go_cons (go_op (go_var rfl (go_c ?_))))
    (with_reducible refine' go_ixT ?hp ?ha ?_); (case hp => walk_at "lw_hp"); (case ha => first | rfl | assumption)
    with_reducible refine go_cons (go_c (go_cons (go_c (go_nil ?_))))
    exact num_go hk.1 hk.2 k
  | name z =>
    obtain ⟨a, rfl, ha⟩ := hp
    have hz : 0 ≤ z ∧ z < nm := hk
    with_reducible refine go_seq (go_ifS (go_test (go_op (go_op ?_))))
    with_reducible refine go_var rfl (go_c ?_)
    (with_reducible refine' go_ixT ?hp ?ha ?_); (case hp => walk_at "lw_hp"); (case ha => first | rfl | assumption)
    with_reducible refine go_c (go_eqS (go_qb (go_iteDF (by first | assumption | omega | decide | decide +kernel | (simp only [List.length_cons, List.length_nil, List.length_map]; omega)) (go_next ?_))))
    with_reducible refine go_ret (go_andV (go_op (go_op (go_var rfl ?_))))
    with_reducible refine go_c ?_
    (with_reducible refine' go_ixT ?hp ?ha ?_); (case hp => walk_at "lw_hp"); (case ha => first | rfl | assumption)
    with_reducible refine go_c (go_eqS (go_qb (go_iteDT (by first | assumption | rfl | omega | (simp only [List.length_cons, List.length_nil, List.length_map]; omega)) (go_callC ?_))))
    with_reducible refine go_cons (go_op (go_var rfl (go_c ?_)))
    (with_reducible refine' go_ixT ?hp ?ha ?_); (case hp => walk_at "lw_hp"); (case ha => first | rfl | assumption)
    with_reducible refine go_cons (go_c (go_cons (go_op (go_var rfl ?_))))
    with_reducible refine go_c (go_i0 (go_nil ?_))
    exact num_go hz.1 (by omega) k
  | op o x y => exact absurd rfl (hno o x y)
theorem scs_is_part : FnScope ["part", "names", "deep"] ["part", "names", "deep"] (defScope s_is_part) := ⟨rfl, rfl, rfl, by decide +kernel, rfl, by decide +kernel, by decide +kernel⟩
theorem ok_ispart {n : Nat} (F : Fun K "is_part" "is_part" s_is_part f fd) (T : Txt mg) (C_is_single : FnC P w K mg base 2 "is_single" ["part", "names"] spSingle) (C_is_part : FnC P w K mg base (n + 2) "is_part" ["part", "names", "deep"] (spIsPart n)) : FnOk P w K mg base CX0 (n + 3) f fd ["part", "names", "deep"] (spIsPart (n + 1)) := by
  refine F.ok scs_is_part (fun vs H Q E h => ?_) (fun cdv A outer s H vs Q E hr h => ?_)
  · obtain ⟨v, nm, p, rfl, _⟩ := h
    rfl
  obtain ⟨v, nm, p, rfl, hp, hk, k⟩ := h
  have nd := scs_is_part.nd
  have hu := hu_of hr
  refine ⟨_, (pss_cons (ps_if (PW.pt (pw_or (pt_cmpR op_eq (pv 2) pe_int (nomark _)) (pw_or1 (pt_not (pt_val (pe_callB (kIsinst K) (by rfl) T.n_isinstance (by decide +kernel) (pa_cons (pv 0) (pa_cons (pe_bltn (v := .ty "tuple") (by rfl) T.n_tuple (by decide +kernel) rfl) pa_nil)))))))) (pss_one (ps_ret pe_bl)) pss_nil)
      (pss_cons (ps_if (pt_cmpR op_eq (pe_callB (kLen K) (by rfl) T.n_len (by decide +kernel) (pa_cons (pv 0) pa_nil)) pe_int (nomark _)) (pss_one (ps_ret (pe_callC C_is_single (hr.mono (by omega)) (by rfl) (pa_cons (pv 0) (pa_cons (pv 1) pa_nil))))) pss_nil)
      (pss_cons (ps_if (PW.pt (pw_or (pt_cmpR op_ne (pe_callB (kLen K) (by rfl) T.n_len (by decide +kernel) (pa_cons (pv 0) pa_nil)) pe_int (nomark _)) (pw_or1 (pt_cmpR (kNotIn K) (pe_ix (kIxT K) (pv 0) pe_int (fun _ _ => rfl)) (pe_tup (pa_cons pe_str (pa_cons pe_str (pa_cons pe_str pa_nil)))) (by rfl))))) (pss_one (ps_ret pe_bl)) pss_nil)
      (pss_one (ps_ret (pe_and (pe_callC C_is_part (hr.mono (by omega)) (by rfl) (pa_cons (pe_ix (kIxT K) (pv 0) pe_int (fun _ _ => rfl)) (pa_cons (pv 1) (pa_cons (pe_op op_sub (pv 2) pe_int) pa_nil)))) (pe_one (pe_callC C_is_part (hr.mono (by omega)) (by rfl) (pa_cons (pe_ix (kIxT K) (pv 0) pe_int (fun _ _ => rfl)) (pa_cons (pv 1) (pa_cons (pe_op op_sub (pv 2) pe_int) pa_nil))))))))))), ?_⟩
  cases p with
  | num z =>
    have hp' := hp
    obtain ⟨a, rfl, ha⟩ := hp
    with_reducible refine go_seq (go_ifS (go_or (go_test (go_op ?_))))
    with_reducible refine go_var rfl (go_c (go_eqI (go_qb (go_iteDF (by first | assumption | omega | decide | decide +kernel | (simp only [List.length_cons, List.length_nil, List.length_map]; omega)) ?_))))
    with_reducible refine go_not (go_testB (go_cb (go_cons (go_var rfl ?_))))
    with_reducible refine go_cons (go_c (go_nil ?_))
    (with_reducible refine' go_is_tup_tuple ?hp ?_); (case hp => walk_at "lw_hp")
    with_reducible refine go_qb (go_iteNt (go_next (go_seq (go_ifS ?_))))
    with_reducible refine go_test (go_op (go_cb (go_cons (go_var rfl ?_))))
    with_reducible refine go_nil ?_
    (with_reducible refine' go_lenT ?hp ?_); (case hp => walk_at "lw_hp")
    with_reducible refine go_c (go_eqI (go_qb (go_iteDT (by first | assumption | rfl | omega | (simp only [List.length_cons, List.length_nil, List.length_map]; omega)) (go_ret ?_))))
    with_reducible refine go_callC (go_cons (go_var rfl (go_cons (go_var rfl ?_))))
    with_reducible refine go_nil ?_
    exact ⟨_, nm, .num z, rfl, hp', (fun _ _ _ e => by cases e), hk, k _ (Same.refl _)⟩
  | name z =>
    have hp' := hp
    obtain ⟨a, rfl, ha⟩ := hp
    with_reducible refine go_seq (go_ifS (go_or (go_test (go_op ?_))))
    with_reducible refine go_var rfl (go_c (go_eqI (go_qb (go_iteDF (by first | assumption | omega | decide | decide +kernel | (simp only [List.length_cons, List.length_nil, List.length_map]; omega)) ?_))))
    with_reducible refine go_not (go_testB (go_cb (go_cons (go_var rfl ?_))))
    with_reducible refine go_cons (go_c (go_nil ?_))
    (with_reducible refine' go_is_tup_tuple ?hp ?_); (case hp => walk_at "lw_hp")
    with_reducible refine go_qb (go_iteNt (go_next (go_seq (go_ifS ?_))))
    with_reducible refine go_test (go_op (go_cb (go_cons (go_var rfl ?_))))
    with_reducible refine go_nil ?_
    (with_reducible refine' go_lenT ?hp ?_); (case hp => walk_at "lw_hp")
    with_reducible refine go_c (go_eqI (go_qb (go_iteDT (by first | assumption | rfl | omega | (simp only [List.length_cons, List.length_nil, List.length_map]; omega)) (go_ret ?_))))
    with_reducible refine go_callC (go_cons (go_var rfl (go_cons (go_var rfl ?_))))
    with_reducible refine go_nil ?_
    exact ⟨_, nm, .name z, rfl, hp', (fun _ _ _ e => by cases e), hk, k _ (Same.refl _)⟩
  | op o x y =>
    obtain ⟨a, u, v', rfl, ha, hx, hy⟩ := hp
    have hw : inV (.str o.str) [.str "sum", .str "diff", .str "less"] = true := by cases o <;> decide +kernel
    with_reducible refine go_seq (go_ifS (go_or (go_test (go_op ?_))))
    with_reducible refine go_var rfl (go_c (go_eqI (go_qb (go_iteDF (by first | assumption | omega | decide | decide +kernel | (simp only [List.length_cons, List.length_nil, List.length_map]; omega)) ?_))))
    with_reducible refine go_not (go_testB (go_cb (go_cons (go_var rfl ?_))))
    with_reducible refine go_cons (go_c (go_nil ?_))
    (with_reducible refine' go_is_tup_tuple ?hp ?_); (case hp => walk_at "lw_hp")
    with_reducible refine go_qb (go_iteNt (go_next (go_seq (go_ifS ?_))))
    with_reducible refine go_test (go_op (go_cb (go_cons (go_var rfl ?_))))
    with_reducible refine go_nil ?_
    (with_reducible refine' go_lenT ?hp ?_); (case hp => walk_at "lw_hp")
    with_reducible refine go_c (go_eqI (go_qb (go_iteDF (by first | assumption | omega | decide | decide +kernel | (simp only [List.length_cons, List.length_nil, List.length_map]; omega)) (go_next ?_))))
    with_reducible refine go_seq (go_ifS (go_or (go_test (go_op ?_))))
    with_reducible refine go_cb (go_cons (go_var rfl (go_nil ?_)))
    (with_reducible refine' go_lenT ?hp ?_); (case hp => walk_at "lw_hp")
    with_reducible refine go_c (go_neI (go_qb (go_iteNT (by first | assumption | rfl | omega | (simp only [List.length_cons, List.length_nil, List.length_map]; omega)) (go_test ?_))))
    with_reducible refine go_op (go_op (go_var rfl (go_c ?_)))
    (with_reducible refine' go_ixT ?hp ?ha ?_); (case hp => walk_at "lw_hp"); (case ha => first | rfl | assumption)
    with_reducible refine go_tup (go_cons (go_c (go_cons (go_c ?_))))
    with_reducible refine go_cons (go_c (go_nil ?_))
    refine go_qtup (Nat.le_of_ble_eq_true rfl) (fun q hq => ?_)
    have S1 := same_new hq (.tup [.str "sum", .str "diff", .str "less"])
    (with_reducible refine' go_notInT ?hp ?ha ?hb ?_); (case hp => walk_at "lw_hp"); (case ha => rfl); (case hb => rfl)
    with_reducible refine go_qb ?_
    rw [hw]
    with_reducible refine go_iteNt (go_next (go_ret (go_andV (go_callC ?_))))
    with_reducible refine go_cons (go_op (go_var rfl (go_c ?_)))
    (with_reducible refine' go_ixT ?hp ?ha ?_); (case hp => walk_at "lw_hp"); (case ha => first | rfl | assumption)
    with_reducible refine go_cons (go_var rfl (go_cons (go_op (go_var rfl ?_))))
    with_reducible refine go_c (go_i0 (go_nil ?_))
    have en : ((n + 1 : Nat) : Int) - 1 = (n : Int) := by omega
    rw [en]
    refine ⟨_, nm, x, rfl, hx.mono S1.tk, hk.1, fun H1 s1 => ?_⟩
    have ha1 := s1 _ _ (S1 _ _ ha)
    with_reducible refine go_qb (go_iteT (go_callC (go_cons (go_op ?_))))
    with_reducible refine go_var rfl (go_c ?_)
    (with_reducible refine' go_ixT ?hp ?ha ?_); (case hp => walk_at "lw_hp"); (case ha => first | rfl | assumption)
    with_reducible refine go_cons (go_var rfl (go_cons (go_op (go_var rfl ?_))))
    with_reducible refine go_c (go_i0 (go_nil ?_))
    rw [en]
    exact ⟨_, nm, y, rfl, hy.mono (S1.trans s1).tk, hk.2, fun H2 s2 => k _ ((S1.trans s1).trans s2)⟩
theorem no_ispart : FnOk P w K mg base CX0 2 f fd ["part", "names", "deep"] (spIsPart 0) :=
  ⟨fun vs H Q E h => by obtain ⟨v, nm, p, rfl, _⟩ := h; rfl, fun A outer s H args us vs Q E _ _ _ _ h => by obtain ⟨v, nm, p, rfl, _, hk, _⟩ := h; exact hk.elim⟩
theorem c_ispart (F : Fun K "is_part" "is_part" s_is_part f fd) (b : Binds K fd ["part", "names", "deep"] []) (m : mg "is_part" = some (.ref f)) (T : Txt mg) (C_is_single : FnC P w K mg base 2 "is_single" ["part", "names"] spSingle) : ∀ n : Nat, FnC P w K mg base (n + 2) "is_part" ["part", "names", "deep"] (spIsPart n)
  | 0 => ⟨f, fd, no_ispart, m, F.kp, b⟩
  | n + 1 => ⟨f, fd, ok_ispart F T C_is_single (c_ispart F b m T C_is_single n), m, F.kp, b⟩
def Row.ix : Row → Nat
  | .set .. => 0 | .take .. => 1 | .get .. => 2 | .size .. => 3 | .add .. => 4 | .put .. => 5 | .cut .. => 6 | .send .. => 7 | .go .. => 8 | .unl .. => 9 | .mark => 10
def Row.kinds (r : Row) : Str × List Str := kindsOf.getD r.ix ("", [])
theorem Row.kinds_at (r : Row) : kindsOf[r.ix]? = some r.kinds := by cases r <;> rfl
theorem row_word {H : Hp} : ∀ {r : Row} {xs : List V}, RowXs H r xs → ∃ rest, xs = .str r.kinds.1 :: rest ∧ rest.length = r.kinds.2.length
  | .set .., _, ⟨v, e, _⟩ => ⟨_, e, rfl⟩
  | .take _, _, e => ⟨_, e, rfl⟩
  | .get .., _, ⟨v, e, _⟩ => ⟨_, e, rfl⟩
  | .size .., _, e => ⟨_, e, rfl⟩
  | .add .., _, ⟨v, e, _⟩ => ⟨_, e, rfl⟩
  | .put .., _, ⟨v, u, e, _⟩ => ⟨_, e, rfl⟩
  | .cut .., _, ⟨v, e, _⟩ => ⟨_, e, rfl⟩
  | .send _, _, ⟨v, e, _⟩ => ⟨_, e, rfl⟩
  | .go _, _, e => ⟨_, e, rfl⟩
  | .unl .., _, e => ⟨_, e, rfl⟩
  | .mark, _, e => ⟨_, e, rfl⟩
def spShape : Sp := fun vs H Q _ => ∃ (v : V) (r : Row), vs = [v] ∧ RowAt H r v ∧ Q (.bl true) H
theorem scs_has_shape : FnScope ["row"] ["row"] (defScope s_has_shape) := ⟨rfl, rfl, rfl, by decide +kernel, rfl, by decide +kernel, by decide +kernel⟩
theorem ok_shape (F : Fun K "has_shape" "has_shape" s_has_shape f fd) (T : Txt mg) (O : Own K mg cI cC dP dL) : FnOk P w K mg base CX0 1 f fd ["row"] spShape := by
  refine F.ok scs_has_shape (fun vs H Q E h => ?_) (fun cdv A outer s H vs Q E hr h => ?_)
  · obtain ⟨v, r, rfl, _⟩ := h
    rfl
  obtain ⟨v, r, rfl, ⟨a, xs, rfl, ha, hx⟩, k⟩ := h
  obtain ⟨rest, rfl, hl⟩ := row_word hx
  obtain ⟨b, hb, hq⟩ := places_at O.pl r.kinds_at
  have hat : atI (.str r.kinds.1 :: rest) 0 = some (.str r.kinds.1) := by show atI (_ :: rest) ((0 : Nat) : Int) = _; exact atI_nat rfl
  have nd := scs_has_shape.nd
  have hu := hu_of hr
  have Oi := O.i
  have Oc := O.c
  refine ⟨_, (pss_cons (ps_if (PW.pt (pw_or (pt_not (pt_val (pe_callB (kIsinst K) (by rfl) T.n_isinstance (by decide +kernel) (pa_cons (pv 0) (pa_cons (pe_bltn (v := .ty "tuple") (by rfl) T.n_tuple (by decide +kernel) rfl) pa_nil))))) (pw_or (pt_cmpR op_eq (pe_callB (kLen K) (by rfl) T.n_len (by decide +kernel) (pa_cons (pv 0) pa_nil)) pe_int (nomark _)) (pw_or1 (pt_not (pt_val (pe_callB (kIsinst K) (by rfl) T.n_isinstance (by decide +kernel) (pa_cons (pe_ix (kIxT K) (pv 0) pe_int (fun _ _ => rfl)) (pa_cons (pe_bltn (v := .ty "str") (by rfl) T.n_str (by decide +kernel) rfl) pa_nil))))))))) (pss_one (ps_ret pe_bl)) pss_nil)
      (pss_one (ps_ret (pe_and (pe_cmp (pc_dinK K (pe_ix (kIxT K) (pv 0) pe_int (fun _ _ => rfl)) (pe_gref (by rfl) O.g_PLACES)) rfl) (pe_one (pe_cmpR op_eq (pe_callB (kLen K) (by rfl) T.n_len (by decide +kernel) (pa_cons (pv 0) pa_nil)) (pe_op op_add pe_int (pe_callB (kLen K) (by rfl) T.n_len (by decide +kernel) (pa_cons (pe_dgetK K (pe_gref (by rfl) O.g_PLACES) (pe_ix (kIxT K) (pv 0) pe_int (fun _ _ => rfl)) (fun _ _ => rfl)) pa_nil))) (nomark _))))))), ?_⟩
  with_reducible refine go_seq (go_ifS (go_or (go_not (go_testB ?_))))
  with_reducible refine go_cb (go_cons (go_var rfl (go_cons (go_c ?_))))
  with_reducible refine go_nil ?_
  (with_reducible refine' go_is_tup_tuple ?hp ?_); (case hp => walk_at "lw_hp")
  with_reducible refine go_qb (go_iteNt (go_or (go_test (go_op ?_))))
  with_reducible refine go_cb (go_cons (go_var rfl (go_nil ?_)))
  (with_reducible refine' go_lenT ?hp ?_); (case hp => walk_at "lw_hp")
  with_reducible refine go_c (go_eqI (go_qb (go_iteDF (by first | assumption | omega | decide | decide +kernel | (simp only [List.length_cons, List.length_nil, List.length_map]; omega)) (go_not ?_))))
  with_reducible refine go_testB (go_cb (go_cons (go_op (go_var rfl ?_))))
  with_reducible refine go_c ?_
  (with_reducible refine' go_ixT ?hp ?ha ?_); (case hp => walk_at "lw_hp"); (case ha => first | rfl | assumption)
  with_reducible refine go_cons (go_c (go_nil (go_is_str_str (go_qb ?_))))
  with_reducible refine go_iteNt (go_next (go_ret (go_andV (go_dinK ?_))))
  with_reducible refine go_op (go_var rfl (go_c ?_))
  (with_reducible refine' go_ixT ?hp ?ha ?_); (case hp => walk_at "lw_hp"); (case ha => first | rfl | assumption)
  with_reducible refine go_c ?_
  refine go_qdiK hb ?_
  with_reducible refine go_qb ?_
  refine go_iteT ?_
  with_reducible refine go_op (go_cb (go_cons (go_var rfl (go_nil ?_))))
  (with_reducible refine' go_lenT ?hp ?_); (case hp => walk_at "lw_hp")
  with_reducible refine go_op (go_c (go_cb (go_cons (go_dgetK ?_))))
  with_reducible refine go_c (go_op (go_var rfl (go_c ?_)))
  (with_reducible refine' go_ixT ?hp ?ha ?_); (case hp => walk_at "lw_hp"); (case ha => first | rfl | assumption)
  refine go_qdgK (v := .ref b) hb rfl ?_
  with_reducible refine go_nil ?_
  refine go_lenTs (hq _) ?_
  with_reducible refine go_i0 (go_eqI ?_)
  rw [show decide (((V.str r.kinds.1 :: rest).length : Int) = 1 + ((r.kinds.2.map V.str).length : Int)) = true from decide_eq_true (by simp only [List.length_cons, List.length_map]; omega)]
  exact k
def PlaceIs (H : Hp) (nm fl many : Int) (kd : Str) (v : V) : Prop :=
  (kd = "name" ∧ ∃ n, v = .int n ∧ 0 ≤ n ∧ n < nm) ∨ (kd = "file" ∧ ∃ n, v = .int n ∧ 0 ≤ n ∧ n < fl) ∨ (kd = "row" ∧ ∃ n, v = .int n ∧ 0 ≤ n ∧ n ≤ many) ∨ (kd = "part" ∧ ∃ p, PartAt H p v ∧ p.ok nm 3)
def spPlace : Sp := fun vs H Q _ => ∃ (v : V) (kd : Str) (pa pb : Addr) (nm fl : Int) (rs : List V), vs = [v, .str kd, .ref pa] ∧ H pa = some (.tup [.int nm, .int fl, .ref pb]) ∧ H pb = some (.tup rs) ∧ PlaceIs H nm fl rs.length kd v ∧ ∀ H', Same H H' → Q (.bl true) H'
theorem scs_is_place : FnScope ["place", "kind", "program", "names", "files", "rows"] ["place", "kind", "program"] (defScope s_is_place) := ⟨rfl, rfl, rfl, by decide +kernel, rfl, by decide +kernel, by decide +kernel⟩
theorem ok_place (F : Fun K "is_place" "is_place" s_is_place f fd) (T : Txt mg) (C_is_number : FnC P w K mg base 1 "is_number" ["thing", "low", "high"] spIsNum) (C_is_part : FnC P w K mg base 5 "is_part" ["part", "names", "deep"] (spIsPart 3)) : FnOk P w K mg base CX0 6 f fd ["place", "kind", "program"] spPlace := by
  refine F.ok scs_is_place (fun vs H Q E h => ?_) (fun cdv A outer s H vs Q E hr h => ?_)
  · obtain ⟨v, kd, pa, pb, nm, fl, rs, rfl, _⟩ := h
    rfl
  obtain ⟨v, kd, pa, pb, nm, fl, rs, rfl, hpa, hpb, hk, k⟩ := h
  have nd := scs_is_place.nd
  have hu := hu_of hr
  refine ⟨_, (pss_cons (ps_asg (pv 2) (kPgT K (by rfl) (pgs_cons (pg_name (i := 3) nd rfl (Or.inl rfl)) (pgs_cons (pg_name (i := 4) nd rfl (Or.inl rfl)) (pgs_cons (pg_name (i := 5) nd rfl (Or.inl rfl)) pgs_nil)))))
      (pss_cons (ps_if (pt_cmpR op_eq (pv 1) pe_str (nomark _)) (pss_one (ps_ret (pe_callC C_is_number (hr.mono (by omega)) (by rfl) (pa_cons (pv 0) (pa_cons pe_int (pa_cons (pe_op op_sub (pv 3) pe_int) pa_nil)))))) pss_nil)
      (pss_cons (ps_if (pt_cmpR op_eq (pv 1) pe_str (nomark _)) (pss_one (ps_ret (pe_callC C_is_number (hr.mono (by omega)) (by rfl) (pa_cons (pv 0) (pa_cons pe_int (pa_cons (pe_op op_sub (pv 4) pe_int) pa_nil)))))) pss_nil)
      (pss_cons (ps_if (pt_cmpR op_eq (pv 1) pe_str (nomark _)) (pss_one (ps_ret (pe_callC C_is_number (hr.mono (by omega)) (by rfl) (pa_cons (pv 0) (pa_cons pe_int (pa_cons (pe_callB (kLen K) (by rfl) T.n_len (by decide +kernel) (pa_cons (pv 5) pa_nil)) pa_nil)))))) pss_nil)
      (pss_one (ps_ret (pe_callC C_is_part (hr.mono (by omega)) (by rfl) (pa_cons (pv 0) (pa_cons (pv 3) (pa_cons (pe_gint (by rfl) T.g_MOST_DEEP) pa_nil)))))))))), ?_⟩
  rcases hk with ⟨rfl, n, rfl, h0, h1⟩ | ⟨rfl, n, rfl, h0, h1⟩ | ⟨rfl, n, rfl, h0, h1⟩ | ⟨rfl, p, hp, hok⟩
  · with_reducible refine go_seq (go_asg (go_var rfl ?_))
    (with_reducible refine' go_gtup ?hp ?ha ?_); (case hp => walk_at "lw_hp"); (case ha => first | rfl | assumption)
    with_reducible refine go_gcons (go_gname (go_gcons (go_gname (go_gcons ?_))))
    with_reducible refine go_gname (go_gnil (go_seq (go_ifS (go_test ?_))))
    with_reducible refine go_op (go_var rfl (go_c (go_eqS (go_qb ?_))))
    with_reducible refine go_iteDT (by first | assumption | rfl | omega | (simp only [List.length_cons, List.length_nil, List.length_map]; omega)) (go_ret (go_callC (go_cons (go_var rfl ?_))))
    with_reducible refine go_cons (go_c (go_cons (go_op (go_var rfl ?_))))
    with_reducible refine go_c (go_i0 (go_nil ?_))
    exact num_go h0 (by omega) (k _ (Same.refl _))
  · with_reducible refine go_seq (go_asg (go_var rfl ?_))
    (with_reducible refine' go_gtup ?hp ?ha ?_); (case hp => walk_at "lw_hp"); (case ha => first | rfl | assumption)
    with_reducible refine go_gcons (go_gname (go_gcons (go_gname (go_gcons ?_))))
    with_reducible refine go_gname (go_gnil (go_seq (go_ifS (go_test ?_))))
    with_reducible refine go_op (go_var rfl (go_c (go_eqS (go_qb ?_))))
    with_reducible refine go_iteDF (by first | assumption | omega | decide | decide +kernel | (simp only [List.length_cons, List.length_nil, List.length_map]; omega)) (go_next (go_seq (go_ifS (go_test ?_))))
    with_reducible refine go_op (go_var rfl (go_c (go_eqS (go_qb ?_))))
    with_reducible refine go_iteDT (by first | assumption | rfl | omega | (simp only [List.length_cons, List.length_nil, List.length_map]; omega)) (go_ret (go_callC (go_cons (go_var rfl ?_))))
    with_reducible refine go_cons (go_c (go_cons (go_op (go_var rfl ?_))))
    with_reducible refine go_c (go_i0 (go_nil ?_))
    exact num_go h0 (by omega) (k _ (Same.refl _))
  · with_reducible refine go_seq (go_asg (go_var rfl ?_))
    (with_reducible refine' go_gtup ?hp ?ha ?_); (case hp => walk_at "lw_hp"); (case ha => first | rfl | assumption)
    with_reducible refine go_gcons (go_gname (go_gcons (go_gname (go_gcons ?_))))
    with_reducible refine go_gname (go_gnil (go_seq (go_ifS (go_test ?_))))
    with_reducible refine go_op (go_var rfl (go_c (go_eqS (go_qb ?_))))
    with_reducible refine go_iteDF (by first | assumption | omega | decide | decide +kernel | (simp only [List.length_cons, List.length_nil, List.length_map]; omega)) (go_next (go_seq (go_ifS (go_test ?_))))
    with_reducible refine go_op (go_var rfl (go_c (go_eqS (go_qb ?_))))
    with_reducible refine go_iteDF (by first | assumption | omega | decide | decide +kernel | (simp only [List.length_cons, List.length_nil, List.length_map]; omega)) (go_next (go_seq (go_ifS (go_test ?_))))
    with_reducible refine go_op (go_var rfl (go_c (go_eqS (go_qb ?_))))
    with_reducible refine go_iteDT (by first | assumption | rfl | omega | (simp only [List.length_cons, List.length_nil, List.length_map]; omega)) (go_ret (go_callC (go_cons (go_var rfl ?_))))
    with_reducible refine go_cons (go_c (go_cons (go_cb (go_cons ?_))))
    with_reducible refine go_var rfl (go_nil ?_)
    (with_reducible refine' go_lenT ?hp ?_); (case hp => walk_at "lw_hp")
    with_reducible refine go_nil ?_
    exact num_go h0 (by omega) (k _ (Same.refl _))
  · with_reducible refine go_seq (go_asg (go_var rfl ?_))
    (with_reducible refine' go_gtup ?hp ?ha ?_); (case hp => walk_at "lw_hp"); (case ha => first | rfl | assumption)
    with_reducible refine go_gcons (go_gname (go_gcons (go_gname (go_gcons ?_))))
    with_reducible refine go_gname (go_gnil (go_seq (go_ifS (go_test ?_))))
    with_reducible refine go_op (go_var rfl (go_c (go_eqS (go_qb ?_))))
    with_reducible refine go_iteDF (by first | assumption | omega | decide | decide +kernel | (simp only [List.length_cons, List.length_nil, List.length_map]; omega)) (go_next (go_seq (go_ifS (go_test ?_))))
    with_reducible refine go_op (go_var rfl (go_c (go_eqS (go_qb ?_))))
    with_reducible refine go_iteDF (by first | assumption | omega | decide | decide +kernel | (simp only [List.length_cons, List.length_nil, List.length_map]; omega)) (go_next (go_seq (go_ifS (go_test ?_))))
    with_reducible refine go_op (go_var rfl (go_c (go_eqS (go_qb ?_))))
    with_reducible refine go_iteDF (by first | assumption | omega | decide | decide +kernel | (simp only [List.length_cons, List.length_nil, List.length_map]; omega)) (go_next (go_ret (go_callC (go_cons ?_))))
    with_reducible refine go_var rfl (go_cons (go_var rfl (go_cons (go_c ?_))))
    with_reducible refine go_nil ?_
    exact ⟨_, nm, p, rfl, hp, hok, k⟩
theorem row_places {H : Hp} {nm fl many : Int} : ∀ {r : Row} {rest : List V}, RowXs H r (.str r.kinds.1 :: rest) → r.ok nm fl many → ∀ (i : Nat) (v y : V), rest[i]? = some v → (r.kinds.2.map V.str)[i]? = some y → ∃ kd, y = .str kd ∧ PlaceIs H nm fl many kd v
  | .set n p, _, ⟨v, e, hv⟩, ok, i, x, y, hx, hy => by
    cases e
    match i with
    | 0 => cases hx; cases hy; exact ⟨_, rfl, .inl ⟨rfl, n, rfl, ok.1, ok.2.1⟩⟩
    | 1 => cases hx; cases hy; exact ⟨_, rfl, .inr (.inr (.inr ⟨rfl, p, hv, ok.2.2⟩))⟩
    | i + 2 => cases hx
  | .take n, _, e, ok, i, x, y, hx, hy => by
    cases e
    match i with
    | 0 => cases hx; cases hy; exact ⟨_, rfl, .inl ⟨rfl, n, rfl, ok.1, ok.2⟩⟩
    | i + 1 => cases hx
  | .get n f p, _, ⟨v, e, hv⟩, ok, i, x, y, hx, hy => by
    cases e
    match i with
    | 0 => cases hx; cases hy; exact ⟨_, rfl, .inl ⟨rfl, n, rfl, ok.1, ok.2.1⟩⟩
    | 1 => cases hx; cases hy; exact ⟨_, rfl, .inr (.inl ⟨rfl, f, rfl, ok.2.2.1, ok.2.2.2.1⟩)⟩
    | 2 => cases hx; cases hy; exact ⟨_, rfl, .inr (.inr (.inr ⟨rfl, p, hv, ok.2.2.2.2⟩))⟩
    | i + 3 => cases hx
  | .size n f, _, e, ok, i, x, y, hx, hy => by
    cases e
    match i with
    | 0 => cases hx; cases hy; exact ⟨_, rfl, .inl ⟨rfl, n, rfl, ok.1, ok.2.1⟩⟩
    | 1 => cases hx; cases hy; exact ⟨_, rfl, .inr (.inl ⟨rfl, f, rfl, ok.2.2.1, ok.2.2.2⟩)⟩
    | i + 2 => cases hx
  | .add f p, _, ⟨v, e, hv⟩, ok, i, x, y, hx, hy => by
    cases e
    match i with
    | 0 => cases hx; cases hy; exact ⟨_, rfl, .inr (.inl ⟨rfl, f, rfl, ok.1, ok.2.1⟩)⟩
    | 1 => cases hx; cases hy; exact ⟨_, rfl, .inr (.inr (.inr ⟨rfl, p, hv, ok.2.2⟩))⟩
    | i + 2 => cases hx
  | .put f p q, _, ⟨v, u, e, hv, hu⟩, ok, i, x, y, hx, hy => by
    cases e
    match i with
    | 0 => cases hx; cases hy; exact ⟨_, rfl, .inr (.inl ⟨rfl, f, rfl, ok.1, ok.2.1⟩)⟩
    | 1 => cases hx; cases hy; exact ⟨_, rfl, .inr (.inr (.inr ⟨rfl, p, hv, ok.2.2.1⟩))⟩
    | 2 => cases hx; cases hy; exact ⟨_, rfl, .inr (.inr (.inr ⟨rfl, q, hu, ok.2.2.2⟩))⟩
    | i + 3 => cases hx
  | .cut f p, _, ⟨v, e, hv⟩, ok, i, x, y, hx, hy => by
    cases e
    match i with
    | 0 => cases hx; cases hy; exact ⟨_, rfl, .inr (.inl ⟨rfl, f, rfl, ok.1, ok.2.1⟩)⟩
    | 1 => cases hx; cases hy; exact ⟨_, rfl, .inr (.inr (.inr ⟨rfl, p, hv, ok.2.2⟩))⟩
    | i + 2 => cases hx
  | .send p, _, ⟨v, e, hv⟩, ok, i, x, y, hx, hy => by
    cases e
    match i with
    | 0 => cases hx; cases hy; exact ⟨_, rfl, .inr (.inr (.inr ⟨rfl, p, hv, ok⟩))⟩
    | i + 1 => cases hx
  | .go r, _, e, ok, i, x, y, hx, hy => by
    cases e
    match i with
    | 0 => cases hx; cases hy; exact ⟨_, rfl, .inr (.inr (.inl ⟨rfl, r, rfl, ok.1, ok.2⟩))⟩
    | i + 1 => cases hx
  | .unl n r, _, e, ok, i, x, y, hx, hy => by
    cases e
    match i with
    | 0 => cases hx; cases hy; exact ⟨_, rfl, .inl ⟨rfl, n, rfl, ok.1, ok.2.1⟩⟩
    | 1 => cases hx; cases hy; exact ⟨_, rfl, .inr (.inr (.inl ⟨rfl, r, rfl, ok.2.2.1, ok.2.2.2⟩))⟩
    | i + 2 => cases hx
  | .mark, _, e, ok, i, x, y, hx, hy => by
    cases e
    cases hx
theorem PlaceIs.mono {H H' : Hp} (t : TK H H') {nm fl many : Int} {kd : Str} {v : V} (h : PlaceIs H nm fl many kd v) : PlaceIs H' nm fl many kd v := by
  rcases h with h | h | h | ⟨e, p, hp, ok⟩
  · exact .inl h
  · exact .inr (.inl h)
  · exact .inr (.inr (.inl h))
  · exact .inr (.inr (.inr ⟨e, p, hp.mono t, ok⟩))
theorem sIx_pos {n d : Nat} {a : Int} (h : 0 ≤ a) : HT.sIx n d (some a) = min a.toNat n := by
  show (if a < 0 then _ else _) = _
  rw [if_neg (by omega)]
theorem cut_tail (x : V) (rest : List V) : cutV (x :: rest) (some 1) none = rest := by
  unfold cutV
  have e1 : HT.sIx (x :: rest).length 0 (some 1) = 1 := by
    rw [sIx_pos (by decide), List.length_cons]
    show min 1 (rest.length + 1) = 1
    omega
  have e2 : HT.sIx (x :: rest).length (x :: rest).length none = (x :: rest).length := rfl
  rw [e1, e2]
  show List.take (rest.length + 1 - 1) (List.drop 1 (x :: rest)) = rest
  rw [show rest.length + 1 - 1 = rest.length by omega, List.drop_one]
  exact List.take_length
def spCkRow : Sp := fun vs H Q _ => ∃ (n : Int) (v : V) (r : Row) (p : Prog) (pv : V), vs = [.int n, v, pv] ∧ 0 ≤ n ∧ n < 60 ∧ RowAt H r v ∧ ProgAt H p pv ∧ r.ok p.nm p.fl p.rows.length ∧ ∀ H', Same H H' → Q .non H'
theorem scs_check_row : FnScope ["number", "row", "program", "place", "kind"] ["number", "row", "program"] (defScope s_check_row) := ⟨rfl, rfl, rfl, by decide +kernel, rfl, by decide +kernel, by decide +kernel⟩
theorem ok_ckrow (F : Fun K "check_row" "check_row" s_check_row f fd) (T : Txt mg) (O : Own K mg cI cC dP dL) (C_has_shape : FnC P w K mg base 1 "has_shape" ["row"] spShape) (C_is_place : FnC P w K mg base 6 "is_place" ["place", "kind", "program"] spPlace) : FnOk P w K mg base CX0 7 f fd ["number", "row", "program"] spCkRow := by
  refine F.ok scs_check_row (fun vs H Q E h => ?_) (fun cdv A outer s H vs Q E hr h => ?_)
  · obtain ⟨n, v, r, p, pv, rfl, _⟩ := h
    rfl
  obtain ⟨n, v, r, p, pv, rfl, h0, h1, hR, hP, hok, k⟩ := h
  have hR' := hR
  obtain ⟨a, xs, rfl, ha, hx⟩ := hR
  obtain ⟨rest, rfl, hl⟩ := row_word hx
  obtain ⟨b, hb, hq⟩ := places_at O.pl r.kinds_at
  obtain ⟨pa, pb, rs, rfl, hpa, hpb, hRs⟩ := id hP
  have hat : atI (.str r.kinds.1 :: rest) 0 = some (.str r.kinds.1) := by show atI (_ :: rest) ((0 : Nat) : Int) = _; exact atI_nat rfl
  have nd := scs_check_row.nd
  have hu := hu_of hr
  have Oi := O.i
  have Oc := O.c
  refine ⟨_, (pss_cons (ps_if (pt_cmpR op_eq (pv 0) (pe_gint (by rfl) T.g_MOST_ROWS) (nomark _)) (pss_one ps_never) pss_nil)
      (pss_cons (ps_if (pt_not (pt_val (pe_callC C_has_shape (hr.mono (by omega)) (by rfl) (pa_cons (pv 1) pa_nil)))) (pss_one ps_never) pss_nil)
      (pss_one (ps_for PassesOwn.never rfl (kZipT K (by rfl) T.n_zip (pa_cons (pe_slice (kSlT K) (pv 1) (po_some pe_int) po_none) (pa_cons (pe_dgetK K (pe_gref (by rfl) O.g_PLACES) (pe_ix (kIxT K) (pv 1) pe_int (fun _ _ => rfl)) (fun _ _ => rfl)) pa_nil))) (kPgT K (by rfl) (pgs_cons (pg_name (i := 3) nd rfl (Or.inl rfl)) (pgs_cons (pg_name (i := 4) nd rfl (Or.inl rfl)) pgs_nil))) (pss_one (ps_if (pt_not (pt_val (pe_callC C_is_place (hr.mono (by omega)) (by rfl) (pa_cons (pv 3) (pa_cons (pv 4) (pa_cons (pv 2) pa_nil)))))) (pss_one ps_never) pss_nil)))))), ?_⟩
  with_reducible refine go_seq (go_ifS (go_test (go_op (go_var rfl ?_))))
  with_reducible refine go_c (go_eqI (go_qb (go_iteDF (by first | assumption | omega | decide | decide +kernel | (simp only [List.length_cons, List.length_nil, List.length_map]; omega)) (go_next ?_))))
  with_reducible refine go_seq (go_ifS (go_not (go_testB (go_callC ?_))))
  with_reducible refine go_cons (go_var rfl (go_nil ?_))
  refine ⟨_, r, rfl, hR', ?_⟩
  with_reducible refine go_qb (go_iteNt (go_next (go_for (go_zipT ?_))))
  with_reducible refine go_cons (go_sl (go_var rfl (go_part (go_c ?_))))
  with_reducible refine go_qI (go_nopart ?_)
  refine go_slT ha (by intro z; have z1 := z.1; rw [sIx_pos (by decide), List.length_cons] at z1; have z2 : min 1 (rest.length + 1) = 0 := z1; omega) (fun c hc => ?_)
  rw [cut_tail]
  have S1 := same_new hc (.tup rest)
  have hc1 : upd H c (.tup rest) c = some (.tup rest) := upd_same
  generalize upd H c (.tup rest) = H1 at *
  with_reducible refine go_cons (go_dgetK (go_c (go_op (go_var rfl ?_))))
  with_reducible refine go_c ?_
  (with_reducible refine' go_ixT ?hp ?ha ?_); (case hp => walk_at "lw_hp"); (case ha => first | rfl | assumption)
  refine go_qdgK (v := .ref b) hb rfl ?_
  with_reducible refine go_nil ?_
  refine go_qzipT (SqT.of hc1) (hq _) ?_
  refine fq_zipT rest (r.kinds.2.map V.str) (by rw [List.length_map]; exact hl) (fun i σ H' => ∃ v1 v2, σ = [some (.int n), some (.ref a), some (.ref pa), v1, v2] ∧ Same H1 H') ⟨none, none, rfl, Same.refl _⟩ ?_ ?_ ?_
  · rintro i σ H' _ ⟨v1, v2, rfl, s'⟩
    exact ⟨SqT.of (s' _ _ hc1), hq _⟩
  · rintro i x y σ H' t hx' hy' ht ⟨v1, v2, rfl, s'⟩
    have S2 := S1.trans (s'.trans (same_new ht (.tup [x, y])))
    obtain ⟨kd, rfl, hpl⟩ := row_places hx hok i x y hx' hy'
    (with_reducible refine' go_gtup ?hp ?ha ?_); (case hp => walk_at "lw_hp"); (case ha => first | rfl | assumption)
    with_reducible refine go_gcons (go_gname (go_gcons (go_gname (go_gnil ?_))))
    with_reducible refine go_ifS (go_not (go_testB (go_callC (go_cons ?_))))
    with_reducible refine go_var rfl (go_cons (go_var rfl (go_cons (go_var rfl ?_))))
    with_reducible refine go_nil ?_
    refine ⟨x, kd, pa, pb, p.nm, p.fl, rs, rfl, S2 _ _ hpa, S2 _ _ hpb, ?_, fun H2 s2 => ?_⟩
    · rw [← hRs.length]; exact hpl.mono S2.tk
    with_reducible refine go_qb (go_iteNt (go_next ?_))
    exact ⟨_, _, rfl, (s'.trans (same_new ht _)).trans s2⟩
  · rintro σ H' ⟨v1, v2, rfl, s'⟩
    skip
    exact k _ (S1.trans s')
def spCkProg : Sp := fun vs H Q _ => ∃ (pv : V) (p : Prog), vs = [pv] ∧ p.Ok ∧ ProgAt H p pv ∧ ∀ H', Same H H' → Q .non H'
theorem scs_check_program : FnScope ["program", "names", "files", "rows", "number", "row"] ["program"] (defScope s_check_program) := ⟨rfl, rfl, rfl, by decide +kernel, rfl, by decide +kernel, by decide +kernel⟩
theorem ok_ckprog (F : Fun K "check_program" "check_program" s_check_program f fd) (T : Txt mg) (C_is_number : FnC P w K mg base 1 "is_number" ["thing", "low", "high"] spIsNum) (C_check_row : FnC P w K mg base 7 "check_row" ["number", "row", "program"] spCkRow) : FnOk P w K mg base CX0 8 f fd ["program"] spCkProg := by
  refine F.ok scs_check_program (fun vs H Q E h => ?_) (fun cdv A outer s H vs Q E hr h => ?_)
  · obtain ⟨pv, p, rfl, _⟩ := h
    rfl
  obtain ⟨pv, p, rfl, hok, hP, k⟩ := h
  obtain ⟨pa, pb, rs, rfl, hpa, hpb, hRs⟩ := id hP
  have nd := scs_check_program.nd
  have hu := hu_of hr
  refine ⟨_, (pss_cons (ps_if (PW.pt (pw_or (pt_not (pt_val (pe_callB (kIsinst K) (by rfl) T.n_isinstance (by decide +kernel) (pa_cons (pv 0) (pa_cons (pe_bltn (v := .ty "tuple") (by rfl) T.n_tuple (by decide +kernel) rfl) pa_nil))))) (pw_or (pt_cmpR op_ne (pe_callB (kLen K) (by rfl) T.n_len (by decide +kernel) (pa_cons (pv 0) pa_nil)) pe_int (nomark _)) (pw_or1 (pt_not (pt_val (pe_callB (kIsinst K) (by rfl) T.n_isinstance (by decide +kernel) (pa_cons (pe_ix (kIxT K) (pv 0) pe_int (fun _ _ => rfl)) (pa_cons (pe_bltn (v := .ty "tuple") (by rfl) T.n_tuple (by decide +kernel) rfl) pa_nil))))))))) (pss_one ps_never) pss_nil)
      (pss_cons (ps_asg (pv 0) (kPgT K (by rfl) (pgs_cons (pg_name (i := 1) nd rfl (Or.inl rfl)) (pgs_cons (pg_name (i := 2) nd rfl (Or.inl rfl)) (pgs_cons (pg_name (i := 3) nd rfl (Or.inl rfl)) pgs_nil)))))
      (pss_cons (ps_if (pt_not (pt_val (pe_callC C_is_number (hr.mono (by omega)) (by rfl) (pa_cons (pv 1) (pa_cons pe_int (pa_cons (pe_gint (by rfl) T.g_MOST_NAMES) pa_nil)))))) (pss_one ps_never) pss_nil)
      (pss_cons (ps_if (pt_not (pt_val (pe_callC C_is_number (hr.mono (by omega)) (by rfl) (pa_cons (pv 2) (pa_cons pe_int (pa_cons (pe_gint (by rfl) T.g_MOST_FILES) pa_nil)))))) (pss_one ps_never) pss_nil)
      (pss_one (ps_for PassesOwn.never rfl (kEnumT K (by rfl) T.n_enumerate (pa_cons (pv 3) pa_nil)) (kPgT K (by rfl) (pgs_cons (pg_name (i := 4) nd rfl (Or.inl rfl)) (pgs_cons (pg_name (i := 5) nd rfl (Or.inl rfl)) pgs_nil))) (pss_one (ps_expr (pe_callC C_check_row (hr.mono (by omega)) (by rfl) (pa_cons (pv 4) (pa_cons (pv 5) (pa_cons (pv 0) pa_nil)))))))))))), ?_⟩
  with_reducible refine go_seq (go_ifS (go_or (go_not (go_testB ?_))))
  with_reducible refine go_cb (go_cons (go_var rfl (go_cons (go_c ?_))))
  with_reducible refine go_nil ?_
  (with_reducible refine' go_is_tup_tuple ?hp ?_); (case hp => walk_at "lw_hp")
  with_reducible refine go_qb (go_iteNt (go_or (go_test (go_op ?_))))
  with_reducible refine go_cb (go_cons (go_var rfl (go_nil ?_)))
  (with_reducible refine' go_lenT ?hp ?_); (case hp => walk_at "lw_hp")
  with_reducible refine go_c (go_neI (go_qb (go_iteNT (by first | assumption | rfl | omega | (simp only [List.length_cons, List.length_nil, List.length_map]; omega)) (go_not ?_))))
  with_reducible refine go_testB (go_cb (go_cons (go_op (go_var rfl ?_))))
  with_reducible refine go_c ?_
  (with_reducible refine' go_ixT ?hp ?ha ?_); (case hp => walk_at "lw_hp"); (case ha => first | rfl | assumption)
  with_reducible refine go_cons (go_c (go_nil ?_))
  (with_reducible refine' go_is_tup_tuple ?hp ?_); (case hp => walk_at "lw_hp")
  with_reducible refine go_qb (go_iteNt (go_next (go_seq (go_asg ?_))))
  with_reducible refine go_var rfl ?_
  (with_reducible refine' go_gtup ?hp ?ha ?_); (case hp => walk_at "lw_hp"); (case ha => first | rfl | assumption)
  with_reducible refine go_gcons (go_gname (go_gcons (go_gname (go_gcons ?_))))
  with_reducible refine go_gname (go_gnil (go_seq (go_ifS (go_not ?_))))
  with_reducible refine go_testB (go_callC (go_cons (go_var rfl (go_cons ?_))))
  with_reducible refine go_c (go_cons (go_c (go_nil ?_)))
  refine num_go hok.n1 hok.n2 ?_
  with_reducible refine go_qb (go_iteNt (go_next (go_seq (go_ifS ?_))))
  with_reducible refine go_not (go_testB (go_callC (go_cons (go_var rfl ?_))))
  with_reducible refine go_cons (go_c (go_cons (go_c (go_nil ?_))))
  refine num_go hok.f1 hok.f2 ?_
  with_reducible refine go_qb (go_iteNt (go_next (go_for (go_enumT ?_))))
  with_reducible refine go_cons (go_var rfl (go_nil ?_))
  refine go_qenumT hpb ?_
  refine fq_enumT rs (fun i σ H' => ∃ v1 v2, σ = [some (.ref pa), some (.int p.nm), some (.int p.fl), some (.ref pb), v1, v2] ∧ Same H H') ⟨none, none, rfl, Same.refl _⟩ ?_ ?_ ?_
  · rintro i σ H' _ ⟨v1, v2, rfl, s'⟩
    exact SqT.of (s' _ _ hpb)
  · rintro i x σ H' t hx' ht ⟨v1, v2, rfl, s'⟩
    have S2 := s'.trans (same_new ht (.tup [.int (i : Nat), x]))
    obtain ⟨r, hr1, hr2⟩ := hRs.take_succ hx'
    have hln := hok.ln
    have hi := (List.getElem?_eq_some_iff.mp hr1).1
    (with_reducible refine' go_gtup ?hp ?ha ?_); (case hp => walk_at "lw_hp"); (case ha => first | rfl | assumption)
    with_reducible refine go_gcons (go_gname (go_gcons (go_gname (go_gnil ?_))))
    with_reducible refine go_drop (go_callC (go_cons (go_var rfl (go_cons ?_))))
    with_reducible refine go_var rfl (go_cons (go_var rfl (go_nil ?_)))
    refine ⟨_, x, r, p, _, rfl, by omega, by omega, hr2.mono S2.tk, hP.mono S2.tk, hok.rw r (List.mem_of_getElem? hr1), fun H2 s2 => ?_⟩
    skip
    exact ⟨_, _, rfl, S2.trans s2⟩
  · rintro σ H' ⟨v1, v2, rfl, s'⟩
    skip
    exact k _ s'
end
end Lw
set_option Elab.async false
set_option linter.all false
set_option maxRecDepth 100000
set_option maxHeartbeats 4000000
namespace Lw
open PySem L2 TL
local macro_rules | `(tactic| walk_at "lw_hp") => `(tactic| (repeat (first | assumption | exact upd_same | (refine' upd_new (by assumption) ?_) | (refine' tup_off (by assumption) (by assumption) ?_) | (refine' lst_off (by assumption) (by assumption) (by assumption) ?_) | (refine' Same.get (by assumption) ?_) | (refine' Off.get (by assumption) (by assumption) ?_) | (refine' upd_oth (by assumption) ?_))))
abbrev s_part_text : Stmt := top 20
def spPT (n : Nat) : Sp := fun vs H Q _ => ∃ (v : V) (p : Part) (nm : Int), vs = [v] ∧ PartAt H p v ∧ p.ok nm n ∧ nm ≤ 8 ∧ n ≤ 3 ∧ Q (.str (partT p)) H
section
variable {P : Program} {w : World} {K : PySem.W.Frag} {mg : Str → Option Value} {base : Heap} {f : Addr} {fd : FuncData}
theorem scs_part_text : FnScope ["part", "word"] ["part"] (defScope s_part_text) := ⟨rfl, rfl, rfl, by decide +kernel, rfl, by decide +kernel, by decide +kernel⟩
theorem ok_ptext {n : Nat} (F : Fun K "part_text" "part_text" s_part_text f fd) (T : Txt mg) (C_part_text : FnC P w K mg base (n + 1) "part_text" ["part"] (spPT n)) : FnOk P w K mg base CX0 (n + 2) f fd ["part"] (spPT (n + 1)) := by
  refine F.ok scs_part_text (fun vs H Q E h => ?_) (fun cdv A outer s H vs Q E hr h => ?_)
  · obtain ⟨v, p, nm, rfl, _⟩ := h
    rfl
  obtain ⟨v, p, nm, rfl, hp, hk, hnm, hn3, k⟩ := h
  have nd := scs_part_text.nd
  have hu := hu_of hr
  refine ⟨_, (pss_cons (ps_set (i := 1) nd rfl (Or.inl rfl) (pe_ix (kIxT K) (pv 0) pe_int (fun _ _ => rfl)))
      (pss_cons (ps_if (pt_cmpR op_eq (pv 1) pe_str (nomark _)) (pss_one (ps_ret (pe_callTy cr_strI (by rfl) T.n_str (by decide +kernel) (pa_cons (pe_ix (kIxT K) (pv 0) pe_int (fun _ _ => rfl)) pa_nil)))) pss_nil)
      (pss_cons (ps_if (pt_cmpR op_eq (pv 1) pe_str (nomark _)) (pss_one (ps_ret (pe_fstr (pf_cons pe_str (pf_cons (pe_fv (pe_ix (kIxT K) (pv 0) pe_int (fun _ _ => rfl))) pf_nil))))) pss_nil)
      (pss_one (ps_ret (pe_fstr (pf_cons (pe_fv (pv 1)) (pf_cons pe_str (pf_cons (pe_fv (pe_callC C_part_text (hr.mono (by omega)) (by rfl) (pa_cons (pe_ix (kIxT K) (pv 0) pe_int (fun _ _ => rfl)) pa_nil))) (pf_cons pe_str (pf_cons (pe_fv (pe_callC C_part_text (hr.mono (by omega)) (by rfl) (pa_cons (pe_ix (kIxT K) (pv 0) pe_int (fun _ _ => rfl)) pa_nil))) pf_nil))))))))))), ?_⟩
  cases p with
  | num z =>
    obtain ⟨a, rfl, ha⟩ := hp
    with_reducible refine go_seq (go_asg (go_op (go_var rfl (go_c ?_))))
    (with_reducible refine' go_ixT ?hp ?ha ?_); (case hp => walk_at "lw_hp"); (case ha => first | rfl | assumption)
    with_reducible refine go_gname (go_seq (go_ifS (go_test (go_op ?_))))
    with_reducible refine go_var rfl (go_c (go_eqS (go_qb (go_iteDT (by first | assumption | rfl | omega | (simp only [List.length_cons, List.length_nil, List.length_map]; omega)) ?_))))
    with_reducible refine go_ret (go_cb (go_cons (go_op (go_var rfl ?_))))
    with_reducible refine go_c ?_
    (with_reducible refine' go_ixT ?hp ?ha ?_); (case hp => walk_at "lw_hp"); (case ha => first | rfl | assumption)
    with_reducible refine go_nil ?_
    rw [partT_num] at k
    exact go_strI (small_log hk.1 (by have := hk.2; omega)) k
  | name z =>
    obtain ⟨a, rfl, ha⟩ := hp
    have hz : 0 ≤ z ∧ z < nm := hk
    have l1 := (num_t (n := z) hz.1 (by omega)).len
    with_reducible refine go_seq (go_asg (go_op (go_var rfl (go_c ?_))))
    (with_reducible refine' go_ixT ?hp ?ha ?_); (case hp => walk_at "lw_hp"); (case ha => first | rfl | assumption)
    with_reducible refine go_gname (go_seq (go_ifS (go_test (go_op ?_))))
    with_reducible refine go_var rfl (go_c (go_eqS (go_qb (go_iteDF (by first | assumption | omega | decide | decide +kernel | (simp only [List.length_cons, List.length_nil, List.length_map]; omega)) ?_))))
    with_reducible refine go_next (go_seq (go_ifS (go_test (go_op ?_))))
    with_reducible refine go_var rfl (go_c (go_eqS (go_qb (go_iteDT (by first | assumption | rfl | omega | (simp only [List.length_cons, List.length_nil, List.length_map]; omega)) ?_))))
    with_reducible refine go_ret (go_fcons (go_c ?_))
    refine go_qfp (by rw [empty_str]; decide) ?_
    rw [empty_str]
    with_reducible refine go_fcons (go_fv (go_op (go_var rfl (go_c ?_))))
    (with_reducible refine' go_ixT ?hp ?ha ?_); (case hp => walk_at "lw_hp"); (case ha => first | rfl | assumption)
    refine go_fvI (small_log hz.1 (by omega)) ?_
    refine go_qfp (line_le (by rw [len_app, n_len]; have : (numT z).length ≤ 5 := l1; show 1 + (numT z).length ≤ _; omega)) ?_
    rw [partT_name] at k
    exact go_fnil (line_le (by rw [len_app, n_len]; have : (numT z).length ≤ 5 := l1; show 1 + (numT z).length ≤ _; omega)) k
  | op o x y =>
    obtain ⟨a, u, v, rfl, ha, hu', hv'⟩ := hp
    have hk' : x.ok nm n ∧ y.ok nm n := hk
    have l1 := partT_len hnm hk'.1
    have l2 := partT_len hnm hk'.2
    have l3 := op_len o
    have lp : 3 ^ n ≤ 9 := Nat.pow_le_pow_right (by decide) (show n ≤ 2 by omega)
    have ne1 : ¬ (o.str = Str.ofString "num") := by cases o <;> decide +kernel
    have ne2 : ¬ (o.str = Str.ofString "name") := by cases o <;> decide +kernel
    have ls : (Str.ofString " ").length = 1 := sp_len
    with_reducible refine go_seq (go_asg (go_op (go_var rfl (go_c ?_))))
    (with_reducible refine' go_ixT ?hp ?ha ?_); (case hp => walk_at "lw_hp"); (case ha => first | rfl | assumption)
    with_reducible refine go_gname (go_seq (go_ifS (go_test (go_op ?_))))
    with_reducible refine go_var rfl (go_c (go_eqS (go_qb (go_iteDF (by first | assumption | omega | decide | decide +kernel | (simp only [List.length_cons, List.length_nil, List.length_map]; omega)) ?_))))
    with_reducible refine go_next (go_seq (go_ifS (go_test (go_op ?_))))
    with_reducible refine go_var rfl (go_c (go_eqS (go_qb (go_iteDF (by first | assumption | omega | decide | decide +kernel | (simp only [List.length_cons, List.length_nil, List.length_map]; omega)) ?_))))
    with_reducible refine go_next (go_ret (go_fcons (go_fv (go_var rfl ?_))))
    refine go_fvS (line_le (by omega)) ?_
    refine go_qfp (line_le (by rw [empty_str]; omega)) ?_
    rw [empty_str]
    with_reducible refine go_fcons (go_c ?_)
    refine go_qfp (line_le (by rw [len_app]; omega)) ?_
    with_reducible refine go_fcons (go_fv (go_callC (go_cons (go_op ?_))))
    with_reducible refine go_var rfl (go_c ?_)
    (with_reducible refine' go_ixT ?hp ?ha ?_); (case hp => walk_at "lw_hp"); (case ha => first | rfl | assumption)
    with_reducible refine go_nil ?_
    refine ⟨u, x, nm, rfl, hu', hk'.1, hnm, by omega, ?_⟩
    refine go_fvS (line_le (by omega)) ?_
    refine go_qfp (line_le (by rw [len_app, len_app]; omega)) ?_
    with_reducible refine go_fcons (go_c ?_)
    refine go_qfp (line_le (by rw [len_app, len_app, len_app]; omega)) ?_
    with_reducible refine go_fcons (go_fv (go_callC (go_cons (go_op ?_))))
    with_reducible refine go_var rfl (go_c ?_)
    (with_reducible refine' go_ixT ?hp ?ha ?_); (case hp => walk_at "lw_hp"); (case ha => first | rfl | assumption)
    with_reducible refine go_nil ?_
    refine ⟨v, y, nm, rfl, hv', hk'.2, hnm, by omega, ?_⟩
    refine go_fvS (line_le (by omega)) ?_
    refine go_qfp (line_le (by rw [len_app, len_app, len_app, len_app]; omega)) ?_
    rw [partT_op] at k
    exact go_fnil (line_le (by rw [len_app, len_app, len_app, len_app]; omega)) k
theorem no_ptext : FnOk P w K mg base CX0 1 f fd ["part"] (spPT 0) :=
  ⟨fun vs H Q E h => by obtain ⟨v, p, nm, rfl, _⟩ := h; rfl, fun A outer s H args us vs Q E _ _ _ _ h => by obtain ⟨v, p, nm, rfl, _, h', _⟩ := h; exact h'.elim⟩
theorem c_ptext (F : Fun K "part_text" "part_text" s_part_text f fd) (b : Binds K fd ["part"] []) (m : mg "part_text" = some (.ref f)) (T : Txt mg) : ∀ n : Nat, FnC P w K mg base (n + 1) "part_text" ["part"] (spPT n)
  | 0 => ⟨f, fd, no_ptext, m, F.kp, b⟩
  | n + 1 => ⟨f, fd, ok_ptext F T (c_ptext F b m T n), m, F.kp, b⟩
end
end Lw
set_option Elab.async false
set_option linter.all false
set_option maxRecDepth 100000
set_option maxHeartbeats 4000000
namespace Lw
open PySem L2 TL
local macro_rules | `(tactic| walk_at "lw_hp") => `(tactic| (repeat (first | assumption | exact upd_same | (refine' upd_new (by assumption) ?_) | (refine' tup_off (by assumption) (by assumption) ?_) | (refine' lst_off (by assumption) (by assumption) (by assumption) ?_) | (refine' Same.get (by assumption) ?_) | (refine' Off.get (by assumption) (by assumption) ?_) | (refine' upd_oth (by assumption) ?_))))
inductive Pl where
  | name (n : Int) | numb (n : Int) | part (p : Part)
def Pl.text : Pl → Str
  | .name n => "n" ++ numT n
  | .numb n => numT n
  | .part p => partT p
def Pl.words : Pl → List Str
  | .name n => ["n" ++ numT n]
  | .numb n => [numT n]
  | .part p => pWords p
theorem Pl.text_w : ∀ x : Pl, x.text = joinW x.words
  | .name n => (joinW_one _).symm
  | .numb n => (joinW_one _).symm
  | .part p => rfl
theorem Pl.words_ne : ∀ x : Pl, x.words ≠ []
  | .name n => by simp [Pl.words]
  | .numb n => by simp [Pl.words]
  | .part p => pWords_ne p
def Row.pls : Row → List Pl
  | .set n p => [.name n, .part p]
  | .take n => [.name n]
  | .get n f p => [.name n, .numb f, .part p]
  | .size n f => [.name n, .numb f]
  | .add f p => [.numb f, .part p]
  | .put f p q => [.numb f, .part p, .part q]
  | .cut f p => [.numb f, .part p]
  | .send p => [.part p]
  | .go r => [.numb r]
  | .unl n r => [.name n, .numb r]
  | .mark => []
def rowT (r : Row) : Str := joinW (r.kinds.1 :: r.pls.map Pl.text)
def rowW (r : Row) : List Str := r.kinds.1 :: (r.pls.map Pl.words).flatten
theorem joinW_flat : ∀ (w : Str) (xs : List Pl), joinW (w :: xs.map Pl.text) = joinW (w :: (xs.map Pl.words).flatten)
  | w, [] => rfl
  | w, x :: xs => by
    have h1 : joinW (w :: x.text :: xs.map Pl.text) = w ++ sp1 ++ joinW (x.text :: xs.map Pl.text) := joinW_cons (by simp)
    have h2 : joinW (w :: (x.words ++ (xs.map Pl.words).flatten)) = w ++ sp1 ++ joinW (x.words ++ (xs.map Pl.words).flatten) := joinW_cons (by simp [Pl.words_ne])
    show joinW (w :: x.text :: xs.map Pl.text) = joinW (w :: (x.words ++ (xs.map Pl.words).flatten))
    rw [h1, h2, joinW_flat x.text xs]
    congr 1
    rw [Pl.text_w]
    by_cases c : (xs.map Pl.words).flatten = []
    · rw [c, List.append_nil, joinW_one]
    · rw [joinW_cons c, joinW_app x.words_ne c]
theorem rowT_w (r : Row) : rowT r = joinW (rowW r) := joinW_flat _ _
def PlAt (H : Hp) (nm : Int) (kd : Str) (v : V) : Pl → Prop
  | .name n => kd = "name" ∧ v = .int n ∧ 0 ≤ n ∧ n < nm
  | .numb n => (kd = "file" ∨ kd = "row") ∧ v = .int n ∧ 0 ≤ n ∧ n ≤ 60
  | .part p => kd = "part" ∧ PartAt H p v ∧ p.ok nm 3
theorem PlAt.len {H : Hp} {nm : Int} {kd : Str} {v : V} (hn : nm ≤ 8) : ∀ {x : Pl}, PlAt H nm kd v x → x.text.length ≤ 162
  | .name n, h => by
    have := (num_t (n := n) h.2.2.1 (by have := h.2.2.2; omega)).len
    show ("n" ++ numT n : Str).length ≤ _
    rw [len_app, n_len]; omega
  | .numb n, h => by
    have := (num_t (n := n) h.2.2.1 (by have := h.2.2.2; omega)).len
    show (numT n).length ≤ _
    omega
  | .part p, h => partT_len hn h.2.2
theorem row_pls {H : Hp} {nm fl many : Int} (hf : fl ≤ 4) (hm : many ≤ 60) {r : Row} {rest : List V} (hx : RowXs H r (.str r.kinds.1 :: rest)) (ok : r.ok nm fl many) (i : Nat) (v y : V) (h1 : rest[i]? = some v) (h2 : (r.kinds.2.map V.str)[i]? = some y) : ∃ x kd, r.pls[i]? = some x ∧ y = .str kd ∧ PlAt H nm kd v x := by
  cases r with
  | set n p =>
    obtain ⟨v', e, hv⟩ := hx
    cases e
    match i with
    | 0 => cases h1; cases h2; exact ⟨_, _, rfl, rfl, rfl, rfl, ok.1, ok.2.1⟩
    | 1 => cases h1; cases h2; exact ⟨_, _, rfl, rfl, rfl, hv, ok.2.2⟩
    | i + 2 => cases h1
  | take n =>
    cases hx
    match i with
    | 0 => cases h1; cases h2; exact ⟨_, _, rfl, rfl, rfl, rfl, ok.1, ok.2⟩
    | i + 1 => cases h1
  | get n f p =>
    obtain ⟨v', e, hv⟩ := hx
    cases e
    match i with
    | 0 => cases h1; cases h2; exact ⟨_, _, rfl, rfl, rfl, rfl, ok.1, ok.2.1⟩
    | 1 => cases h1; cases h2; exact ⟨_, _, rfl, rfl, .inl rfl, rfl, ok.2.2.1, by have := ok.2.2.2.1; omega⟩
    | 2 => cases h1; cases h2; exact ⟨_, _, rfl, rfl, rfl, hv, ok.2.2.2.2⟩
    | i + 3 => cases h1
  | size n f =>
    cases hx
    match i with
    | 0 => cases h1; cases h2; exact ⟨_, _, rfl, rfl, rfl, rfl, ok.1, ok.2.1⟩
    | 1 => cases h1; cases h2; exact ⟨_, _, rfl, rfl, .inl rfl, rfl, ok.2.2.1, by have := ok.2.2.2; omega⟩
    | i + 2 => cases h1
  | add f p =>
    obtain ⟨v', e, hv⟩ := hx
    cases e
    match i with
    | 0 => cases h1; cases h2; exact ⟨_, _, rfl, rfl, .inl rfl, rfl, ok.1, by have := ok.2.1; omega⟩
    | 1 => cases h1; cases h2; exact ⟨_, _, rfl, rfl, rfl, hv, ok.2.2⟩
    | i + 2 => cases h1
  | put f p q =>
    obtain ⟨v', u', e, hv, hu⟩ := hx
    cases e
    match i with
    | 0 => cases h1; cases h2; exact ⟨_, _, rfl, rfl, .inl rfl, rfl, ok.1, by have := ok.2.1; omega⟩
    | 1 => cases h1; cases h2; exact ⟨_, _, rfl, rfl, rfl, hv, ok.2.2.1⟩
    | 2 => cases h1; cases h2; exact ⟨_, _, rfl, rfl, rfl, hu, ok.2.2.2⟩
    | i + 3 => cases h1
  | cut f p =>
    obtain ⟨v', e, hv⟩ := hx
    cases e
    match i with
    | 0 => cases h1; cases h2; exact ⟨_, _, rfl, rfl, .inl rfl, rfl, ok.1, by have := ok.2.1; omega⟩
    | 1 => cases h1; cases h2; exact ⟨_, _, rfl, rfl, rfl, hv, ok.2.2⟩
    | i + 2 => cases h1
  | send p =>
    obtain ⟨v', e, hv⟩ := hx
    cases e
    match i with
    | 0 => cases h1; cases h2; exact ⟨_, _, rfl, rfl, rfl, hv, ok⟩
    | i + 1 => cases h1
  | go r =>
    cases hx
    match i with
    | 0 => cases h1; cases h2; exact ⟨_, _, rfl, rfl, .inr rfl, rfl, ok.1, by have := ok.2; omega⟩
    | i + 1 => cases h1
  | unl n r =>
    cases hx
    match i with
    | 0 => cases h1; cases h2; exact ⟨_, _, rfl, rfl, rfl, rfl, ok.1, ok.2.1⟩
    | 1 => cases h1; cases h2; exact ⟨_, _, rfl, rfl, .inr rfl, rfl, ok.2.2.1, by have := ok.2.2.2; omega⟩
    | i + 2 => cases h1
  | mark =>
    cases hx
    cases h1
abbrev s_place_text : Stmt := top 21
abbrev s_row_text : Stmt := top 22
def spPlT : Sp := fun vs H Q _ => ∃ (v : V) (kd : Str) (x : Pl) (nm : Int), vs = [v, .str kd] ∧ PlAt H nm kd v x ∧ nm ≤ 8 ∧ Q (.str x.text) H
section
variable {P : Program} {w : World} {K : PySem.W.Frag} {mg : Str → Option Value} {base : Heap} {f : Addr} {fd : FuncData} {cI cC dP dL : Addr}
theorem scs_place_text : FnScope ["place", "kind"] ["place", "kind"] (defScope s_place_text) := ⟨rfl, rfl, rfl, by decide +kernel, rfl, by decide +kernel, by decide +kernel⟩
theorem ok_pltext (F : Fun K "place_text" "place_text" s_place_text f fd) (T : Txt mg) (C_part_text : FnC P w K mg base 4 "part_text" ["part"] (spPT 3)) : FnOk P w K mg base CX0 5 f fd ["place", "kind"] spPlT := by
  refine F.ok scs_place_text (fun vs H Q E h => ?_) (fun cdv A outer s H vs Q E hr h => ?_)
  · obtain ⟨v, kd, x, nm, rfl, _⟩ := h
    rfl
  obtain ⟨v, kd, x, nm, rfl, hp, hn, k⟩ := h
  have nd := scs_place_text.nd
  have hu := hu_of hr
  refine ⟨_, (pss_cons (ps_if (pt_cmpR op_eq (pv 1) pe_str (nomark _)) (pss_one (ps_ret (pe_callC C_part_text (hr.mono (by omega)) (by rfl) (pa_cons (pv 0) pa_nil)))) pss_nil)
      (pss_cons (ps_if (pt_cmpR op_eq (pv 1) pe_str (nomark _)) (pss_one (ps_ret (pe_fstr (pf_cons pe_str (pf_cons (pe_fv (pv 0)) pf_nil))))) pss_nil)
      (pss_one (ps_ret (pe_callTy cr_strI (by rfl) T.n_str (by decide +kernel) (pa_cons (pv 0) pa_nil)))))), ?_⟩
  cases x with
  | part p =>
    obtain ⟨rfl, hp, hk⟩ := hp
    with_reducible refine go_seq (go_ifS (go_test (go_op (go_var rfl ?_))))
    with_reducible refine go_c (go_eqS (go_qb (go_iteDT (by first | assumption | rfl | omega | (simp only [List.length_cons, List.length_nil, List.length_map]; omega)) (go_ret ?_))))
    with_reducible refine go_callC (go_cons (go_var rfl (go_nil ?_)))
    exact ⟨v, p, nm, rfl, hp, hk, hn, by decide, k⟩
  | name n =>
    obtain ⟨rfl, rfl, n0, n1⟩ := hp
    have l1 := (num_t (n := n) n0 (by omega)).len
    with_reducible refine go_seq (go_ifS (go_test (go_op (go_var rfl ?_))))
    with_reducible refine go_c (go_eqS (go_qb (go_iteDF (by first | assumption | omega | decide | decide +kernel | (simp only [List.length_cons, List.length_nil, List.length_map]; omega)) (go_next ?_))))
    with_reducible refine go_seq (go_ifS (go_test (go_op (go_var rfl ?_))))
    with_reducible refine go_c (go_eqS (go_qb (go_iteDT (by first | assumption | rfl | omega | (simp only [List.length_cons, List.length_nil, List.length_map]; omega)) (go_ret ?_))))
    with_reducible refine go_fcons (go_c ?_)
    refine go_qfp (by rw [empty_str]; decide) ?_
    rw [empty_str]
    with_reducible refine go_fcons (go_fv (go_var rfl ?_))
    refine go_fvI (small_log n0 (by omega)) ?_
    refine go_qfp (line_le (by rw [len_app, n_len]; show 1 + (numT n).length ≤ _; omega)) ?_
    exact go_fnil (line_le (by rw [len_app, n_len]; show 1 + (numT n).length ≤ _; omega)) k
  | numb n =>
    obtain ⟨ek, rfl, n0, n1⟩ := hp
    rcases ek with rfl | rfl
    · with_reducible refine go_seq (go_ifS (go_test (go_op (go_var rfl ?_))))
      with_reducible refine go_c (go_eqS (go_qb (go_iteDF (by first | assumption | omega | decide | decide +kernel | (simp only [List.length_cons, List.length_nil, List.length_map]; omega)) (go_next ?_))))
      with_reducible refine go_seq (go_ifS (go_test (go_op (go_var rfl ?_))))
      with_reducible refine go_c (go_eqS (go_qb (go_iteDF (by first | assumption | omega | decide | decide +kernel | (simp only [List.length_cons, List.length_nil, List.length_map]; omega)) (go_next ?_))))
      with_reducible refine go_ret (go_cb (go_cons (go_var rfl (go_nil ?_))))
      exact go_strI (small_log n0 (by omega)) k
    · with_reducible refine go_seq (go_ifS (go_test (go_op (go_var rfl ?_))))
      with_reducible refine go_c (go_eqS (go_qb (go_iteDF (by first | assumption | omega | decide | decide +kernel | (simp only [List.length_cons, List.length_nil, List.length_map]; omega)) (go_next ?_))))
      with_reducible refine go_seq (go_ifS (go_test (go_op (go_var rfl ?_))))
      with_reducible refine go_c (go_eqS (go_qb (go_iteDF (by first | assumption | omega | decide | decide +kernel | (simp only [List.length_cons, List.length_nil, List.length_map]; omega)) (go_next ?_))))
      with_reducible refine go_ret (go_cb (go_cons (go_var rfl (go_nil ?_))))
      exact go_strI (small_log n0 (by omega)) k
def spRowT : Sp := fun vs H Q _ => ∃ (v : V) (r : Row) (nm fl many : Int), vs = [v] ∧ RowAt H r v ∧ r.ok nm fl many ∧ nm ≤ 8 ∧ fl ≤ 4 ∧ many ≤ 60 ∧ ∀ H', Same H H' → Q (.str (rowT r)) H'
theorem pls_len (r : Row) : r.pls.length = r.kinds.2.length := by cases r <;> rfl
theorem kinds_len (r : Row) : r.kinds.2.length ≤ 3 ∧ r.kinds.1.length ≤ 6 := by cases r <;> exact ⟨Nat.le_of_ble_eq_true rfl, Nat.le_of_ble_eq_true rfl⟩
theorem scs_row_text : FnScope ["row", "words", "place", "kind"] ["row"] (defScope s_row_text) := ⟨rfl, rfl, rfl, by decide +kernel, rfl, by decide +kernel, by decide +kernel⟩
theorem ok_rowt (F : Fun K "row_text" "row_text" s_row_text f fd) (T : Txt mg) (O : Own K mg cI cC dP dL) (C_place_text : FnC P w K mg base 5 "place_text" ["place", "kind"] spPlT) : FnOk P w K mg base CX0 6 f fd ["row"] spRowT := by
  refine F.ok scs_row_text (fun vs H Q E h => ?_) (fun cdv A outer s H vs Q E hr h => ?_)
  · obtain ⟨v, r, nm, fl, many, rfl, _⟩ := h
    rfl
  obtain ⟨v, r, nm, fl, many, rfl, hR, hok, h8, h4, h60, k⟩ := h
  obtain ⟨a, xs, rfl, ha, hx⟩ := hR
  obtain ⟨rest, rfl, hl⟩ := row_word hx
  obtain ⟨b, hb, hq⟩ := places_at O.pl r.kinds_at
  have hat : atI (.str r.kinds.1 :: rest) 0 = some (.str r.kinds.1) := by show atI (_ :: rest) ((0 : Nat) : Int) = _; exact atI_nat rfl
  obtain ⟨k3, k6⟩ := kinds_len r
  have pl3 := pls_len r
  have nd := scs_row_text.nd
  have hu := hu_of hr
  have Oi := O.i
  have Oc := O.c
  refine ⟨_, (pss_cons (ps_set (i := 1) nd rfl (Or.inl rfl) (pe_lst (pa_cons (pe_ix (kIxT K) (pv 0) pe_int (fun _ _ => rfl)) pa_nil)))
      (pss_cons (ps_for PassesOwn.never rfl (kZipT K (by rfl) T.n_zip (pa_cons (pe_slice (kSlT K) (pv 0) (po_some pe_int) po_none) (pa_cons (pe_dgetK K (pe_gref (by rfl) O.g_PLACES) (pe_ix (kIxT K) (pv 0) pe_int (fun _ _ => rfl)) (fun _ _ => rfl)) pa_nil))) (kPgT K (by rfl) (pgs_cons (pg_name (i := 2) nd rfl (Or.inl rfl)) (pgs_cons (pg_name (i := 3) nd rfl (Or.inl rfl)) pgs_nil))) (pss_one (ps_expr (pe_bm PySem.F.plainAttrs_list PySem.F.slot_list_append PySem.F.type_list_append mt_append (pv 1) (pa_cons (pe_callC C_place_text (hr.mono (by omega)) (by rfl) (pa_cons (pv 2) (pa_cons (pv 3) pa_nil))) pa_nil)))))
      (pss_one (ps_ret (kJoin K pe_str (pv 1)))))), ?_⟩
  with_reducible refine go_seq (go_asg (go_lst (go_cons (go_op ?_))))
  with_reducible refine go_var rfl (go_c ?_)
  (with_reducible refine' go_ixT ?hp ?ha ?_); (case hp => walk_at "lw_hp"); (case ha => first | rfl | assumption)
  with_reducible refine go_nil ?_
  refine go_qlst (Nat.le_of_ble_eq_true rfl) (fun wl hwl => ?_)
  have S0 := same_new hwl (.lst [.str r.kinds.1])
  have e0 : upd H wl (.lst [.str r.kinds.1]) wl = some (.lst [.str r.kinds.1]) := upd_same
  have ha0 := S0 _ _ ha
  generalize upd H wl (.lst [.str r.kinds.1]) = H0 at *
  with_reducible refine go_gname (go_seq (go_for (go_zipT (go_cons ?_))))
  with_reducible refine go_sl (go_var rfl (go_part (go_c (go_qI ?_))))
  with_reducible refine go_nopart ?_
  refine go_slT ha0 (by intro z; have z1 := z.1; rw [sIx_pos (by decide), List.length_cons] at z1; have z2 : min 1 (rest.length + 1) = 0 := z1; omega) (fun c hc => ?_)
  rw [cut_tail]
  have S1 := S0.trans (same_new hc (.tup rest))
  have hc1 : upd H0 c (.tup rest) c = some (.tup rest) := upd_same
  have e1 : upd H0 c (.tup rest) wl = some (.lst [.str r.kinds.1]) := upd_new hc e0
  generalize upd H0 c (.tup rest) = H1 at *
  with_reducible refine go_cons (go_dgetK (go_c (go_op (go_var rfl ?_))))
  with_reducible refine go_c ?_
  (with_reducible refine' go_ixT ?hp ?ha ?_); (case hp => walk_at "lw_hp"); (case ha => first | rfl | assumption)
  refine go_qdgK (v := .ref b) hb rfl ?_
  with_reducible refine go_nil ?_
  refine go_qzipT (SqT.of hc1) (hq _) ?_
  refine fq_zipT rest (r.kinds.2.map V.str) (by rw [List.length_map]; exact hl) (fun i σ H' => ∃ v1 v2, σ = [some (.ref a), some (.ref wl), v1, v2] ∧ Same H H' ∧ H' c = some (.tup rest) ∧ H' wl = some (.lst ((r.kinds.1 :: (r.pls.take i).map Pl.text).map V.str)) ∧ (((r.pls.take i).map Pl.text).map (·.length)).sum ≤ 162 * i) ⟨none, none, rfl, S1, hc1, e1, Nat.zero_le _⟩ ?_ ?_ ?_
  · rintro i σ H' _ ⟨v1, v2, rfl, s', hc', _⟩
    exact ⟨SqT.of hc', hq _⟩
  · rintro i x y σ H' t hx' hy' ht ⟨v1, v2, rfl, s', hc', hw', hs'⟩
    have S2 := same_new ht (.tup [x, y])
    have hi : i < rest.length := (List.getElem?_eq_some_iff.mp hx').1
    obtain ⟨z, kd, hz, rfl, hpl⟩ := row_pls h4 h60 hx hok i x y hx' hy'
    have hpl2 : PlAt (upd H' t (.tup [x, .str kd])) nm kd x z := by
      cases z with
      | part p => exact ⟨hpl.1, hpl.2.1.mono (s'.trans S2).tk, hpl.2.2⟩
      | name n => exact hpl
      | numb n => exact hpl
    have ll := hpl.len h8
    have wl2 := S2 _ _ hw'
    have hc2 := S2 _ _ hc'
    have ncw : c ≠ wl := ne_of hc2 wl2 (by intro z; cases z)
    (with_reducible refine' go_gtup ?hp ?ha ?_); (case hp => walk_at "lw_hp"); (case ha => first | rfl | assumption)
    with_reducible refine go_gcons (go_gname (go_gcons (go_gname (go_gnil ?_))))
    with_reducible refine go_drop (go_bm (go_var rfl ?_))
    (with_reducible refine' go_qbm ?hp ?_); (case hp => walk_at "lw_hp")
    with_reducible refine go_cons (go_callC (go_cons (go_var rfl (go_cons ?_))))
    with_reducible refine go_var rfl (go_nil ?_)
    refine ⟨x, kd, z, nm, rfl, hpl2, h8, ?_⟩
    with_reducible refine go_nil ?_
    refine go_append wl2 (small_line (by simp; omega)) ?_
    have et : (r.pls.take (i + 1)).map Pl.text = (r.pls.take i).map Pl.text ++ [z.text] := by rw [List.take_succ, hz, List.map_append]; rfl
    exact ⟨_, _, rfl, same_upd hwl (s'.trans S2), upd_oth ncw hc2, by rw [upd_same, et, ← List.cons_append, List.map_append]; rfl, by rw [et, List.map_append, List.sum_append]; show _ + (z.text.length + 0) ≤ _; omega⟩
  · rintro σ H' ⟨v1, v2, rfl, s', hc', hw', hs'⟩
    rw [List.take_of_length_le (by omega)] at hw' hs'
    with_reducible refine go_ret (go_m1 (go_c (go_qm1 (go_var rfl ?_))))
    refine go_joinS hw' ?_ (k _ s')
    rw [List.map_cons, List.sum_cons, List.length_cons, List.length_map, show (Str.ofString " ").length = 1 from sp_len, pl3]
    omega
end
end Lw
set_option Elab.async false
set_option linter.all false
set_option maxRecDepth 100000
set_option maxHeartbeats 4000000
namespace Lw
open PySem L2 TL
local macro_rules | `(tactic| walk_at "lw_hp") => `(tactic| (repeat (first | assumption | exact upd_same | (refine' upd_new (by assumption) ?_) | (refine' tup_off (by assumption) (by assumption) ?_) | (refine' lst_off (by assumption) (by assumption) (by assumption) ?_) | (refine' Same.get (by assumption) ?_) | (refine' Off.get (by assumption) (by assumption) ?_) | (refine' upd_oth (by assumption) ?_))))
def Pl.ok (nm : Int) : Pl → Prop
  | .name n => 0 ≤ n ∧ n < nm
  | .numb n => 0 ≤ n ∧ n ≤ 60
  | .part p => p.ok nm 3
theorem Pl.len {nm : Int} (hn : nm ≤ 8) : ∀ {x : Pl}, x.ok nm → x.text.length ≤ 162
  | .name n, h => by
    have h' : 0 ≤ n ∧ n < nm := h
    have := (num_t (n := n) h'.1 (by omega)).len
    show ("n" ++ numT n : Str).length ≤ _
    rw [len_app, n_len]; omega
  | .numb n, h => by
    have h' : 0 ≤ n ∧ n ≤ 60 := h
    have := (num_t (n := n) h'.1 (by omega)).len
    show (numT n).length ≤ _
    omega
  | .part p, h => partT_len hn h
theorem pls_ok {nm fl many : Int} (hf : fl ≤ 4) (hm : many ≤ 60) {r : Row} (ok : r.ok nm fl many) : ∀ x ∈ r.pls, x.ok nm := by
  intro x hx
  cases r with
  | set n p => rcases List.mem_cons.mp hx with rfl | hx; exact ⟨ok.1, ok.2.1⟩; cases List.mem_singleton.mp hx; exact ok.2.2
  | take n => cases List.mem_singleton.mp hx; exact ok
  | get n f p =>
    rcases List.mem_cons.mp hx with rfl | hx
    · exact ⟨ok.1, ok.2.1⟩
    rcases List.mem_cons.mp hx with rfl | hx
    · exact ⟨ok.2.2.1, by have := ok.2.2.2.1; omega⟩
    cases List.mem_singleton.mp hx; exact ok.2.2.2.2
  | size n f =>
    rcases List.mem_cons.mp hx with rfl | hx
    · exact ⟨ok.1, ok.2.1⟩
    cases List.mem_singleton.mp hx; exact ⟨ok.2.2.1, by have := ok.2.2.2; omega⟩
  | add f p =>
    rcases List.mem_cons.mp hx with rfl | hx
    · exact ⟨ok.1, by have := ok.2.1; omega⟩
    cases List.mem_singleton.mp hx; exact ok.2.2
  | put f p q =>
    rcases List.mem_cons.mp hx with rfl | hx
    · exact ⟨ok.1, by have := ok.2.1; omega⟩
    rcases List.mem_cons.mp hx with rfl | hx
    · exact ok.2.2.1
    cases List.mem_singleton.mp hx; exact ok.2.2.2
  | cut f p =>
    rcases List.mem_cons.mp hx with rfl | hx
    · exact ⟨ok.1, by have := ok.2.1; omega⟩
    cases List.mem_singleton.mp hx; exact ok.2.2
  | send p => cases List.mem_singleton.mp hx; exact ok
  | go r => cases List.mem_singleton.mp hx; exact ⟨ok.1, by have := ok.2; omega⟩
  | unl n r =>
    rcases List.mem_cons.mp hx with rfl | hx
    · exact ⟨ok.1, ok.2.1⟩
    cases List.mem_singleton.mp hx; exact ⟨ok.2.2.1, by have := ok.2.2.2; omega⟩
  | mark => cases hx
theorem joinW_len : ∀ ws : List Str, (joinW ws).length ≤ (ws.map (·.length)).sum + ws.length
  | [] => by show (Txt.join sp1 []).length ≤ _; rw [join_eq]; exact Nat.zero_le _
  | [x] => by rw [joinW_one]; simp
  | x :: y :: ws => by
    have := joinW_len (y :: ws)
    rw [joinW_cons (by simp), len_app, len_app, sp_len, List.map_cons, List.sum_cons, List.length_cons]
    omega
theorem sum_le {l : List Str} {c : Nat} (h : ∀ x ∈ l, x.length ≤ c) : (l.map (·.length)).sum ≤ c * l.length := by
  induction l with
  | nil => exact Nat.zero_le _
  | cons x l ih =>
    have h1 := h x List.mem_cons_self
    have h2 := ih fun y hy => h y (List.mem_cons_of_mem _ hy)
    rw [List.map_cons, List.sum_cons, List.length_cons, Nat.mul_succ]
    omega
theorem rowT_len {nm fl many : Int} (hn : nm ≤ 8) (hf : fl ≤ 4) (hm : many ≤ 60) {r : Row} (ok : r.ok nm fl many) : (rowT r).length ≤ 600 := by
  have h1 := joinW_len (r.kinds.1 :: r.pls.map Pl.text)
  obtain ⟨k3, k6⟩ := kinds_len r
  have pl3 := pls_len r
  have h2 := sum_le (l := r.pls.map Pl.text) (c := 162) (fun x hx => by
    obtain ⟨y, hy, rfl⟩ := List.mem_map.mp hx
    exact Pl.len hn (pls_ok hf hm ok y hy))
  rw [List.map_cons, List.sum_cons, List.length_cons, List.length_map] at h1
  rw [List.length_map] at h2
  show (joinW _).length ≤ _
  omega
def headT (p : Prog) : Str := "work " ++ numT p.nm ++ " " ++ numT p.fl
def progT (p : Prog) : Str := Txt.join nl1 (headT p :: p.rows.map rowT)
abbrev s_written : Stmt := top 23
def spWritten : Sp := fun vs H Q _ => ∃ (pv : V) (p : Prog), vs = [pv] ∧ p.Ok ∧ ProgAt H p pv ∧ ∀ H', Same H H' → Q (.str (progT p)) H'
section
variable {P : Program} {w : World} {K : PySem.W.Frag} {mg : Str → Option Value} {base : Heap} {f : Addr} {fd : FuncData}
theorem scs_written : FnScope ["program", "names", "files", "rows", "row"] ["program"] (defScope s_written) := ⟨rfl, rfl, rfl, by decide +kernel, rfl, by decide +kernel, by decide +kernel⟩
theorem ok_written (F : Fun K "written" "written" s_written f fd) (T : Txt mg) (C_check_program : FnC P w K mg base 8 "check_program" ["program"] spCkProg) (C_row_text : FnC P w K mg base 6 "row_text" ["row"] spRowT) : FnOk P w K mg base CX0 9 f fd ["program"] spWritten := by
  refine F.ok scs_written (fun vs H Q E h => ?_) (fun cdv A outer s H vs Q E hr h => ?_)
  · obtain ⟨v, p, rfl, _⟩ := h
    rfl
  obtain ⟨v, p, rfl, hok, hP, k⟩ := h
  obtain ⟨pa, pb, rs, rfl, hpa, hpb, hRs⟩ := id hP
  have nd := scs_written.nd
  have hu := hu_of hr
  have l1 := (num_t (n := p.nm) (by have := hok.n1; omega) (by have := hok.n2; omega)).len
  have l2 := (num_t (n := p.fl) (by have := hok.f1; omega) (by have := hok.f2; omega)).len
  have lw : (Str.ofString "work ").length = 5 := by decide
  have ls : (Str.ofString " ").length = 1 := sp_len
  have ln : (Str.ofString "\n").length = 1 := by decide
  refine ⟨_, (pss_cons (ps_expr (pe_callC C_check_program (hr.mono (by omega)) (by rfl) (pa_cons (pv 0) pa_nil)))
      (pss_cons (ps_asg (pv 0) (kPgT K (by rfl) (pgs_cons (pg_name (i := 1) nd rfl (Or.inl rfl)) (pgs_cons (pg_name (i := 2) nd rfl (Or.inl rfl)) (pgs_cons (pg_name (i := 3) nd rfl (Or.inl rfl)) pgs_nil)))))
      (pss_one (ps_ret (kJoin K pe_str (pe_op op_cat (pe_lst (pa_cons (pe_fstr (pf_cons pe_str (pf_cons (pe_fv (pv 1)) (pf_cons pe_str (pf_cons (pe_fv (pv 2)) pf_nil))))) pa_nil)) (pe_lc rfl nd (kPiT K (pv 3)) (blkOk_by (own := [("row", 4)]) (by show blkC ["program", "names", "files", "rows", "row"] (defScope s_written) _ _ = true; decide +kernel)) (fun _ _ _ _ _ => (pg_name (i := 4) nd rfl (Or.inl rfl))) (fun _ _ _ _ _ => pts_nil) (fun _ _ _ _ _ => (pe_callC C_row_text (hr.mono (by omega)) (by rfl) (pa_cons (pv 4) pa_nil)))))))))), ?_⟩
  with_reducible refine go_seq (go_drop (go_callC (go_cons (go_var rfl ?_))))
  with_reducible refine go_nil ?_
  refine ⟨_, p, rfl, hok, hP, fun H1 S1 => ?_⟩
  have hpa1 := S1 _ _ hpa
  have hpb1 := S1 _ _ hpb
  with_reducible refine go_seq (go_asg (go_var rfl ?_))
  (with_reducible refine' go_gtup ?hp ?ha ?_); (case hp => walk_at "lw_hp"); (case ha => first | rfl | assumption)
  with_reducible refine go_gcons (go_gname (go_gcons (go_gname (go_gcons ?_))))
  with_reducible refine go_gname (go_gnil (go_ret (go_m1 (go_c ?_))))
  with_reducible refine go_qm1 (go_op (go_lst (go_cons (go_fcons ?_))))
  with_reducible refine go_c ?_
  refine go_qfp (line_le (by rw [empty_str]; omega)) ?_
  rw [empty_str]
  with_reducible refine go_fcons (go_fv (go_var rfl ?_))
  refine go_fvI (small_log (by have := hok.n1; omega) (by have := hok.n2; omega)) ?_
  refine go_qfp (line_le (by rw [len_app]; show _ + (numT p.nm).length ≤ _; omega)) ?_
  with_reducible refine go_fcons (go_c ?_)
  refine go_qfp (line_le (by rw [len_app, len_app]; show _ + (numT p.nm).length + _ ≤ _; omega)) ?_
  with_reducible refine go_fcons (go_fv (go_var rfl ?_))
  refine go_fvI (small_log (by have := hok.f1; omega) (by have := hok.f2; omega)) ?_
  refine go_qfp (line_le (by rw [len_app, len_app, len_app]; show _ + (numT p.nm).length + _ + (numT p.fl).length ≤ _; omega)) ?_
  refine go_fnil (line_le (by rw [len_app, len_app, len_app]; show _ + (numT p.nm).length + _ + (numT p.fl).length ≤ _; omega)) ?_
  with_reducible refine go_nil ?_
  refine go_qlst (Nat.le_of_ble_eq_true rfl) (fun hl hhl => ?_)
  have S2 := S1.trans (same_new hhl (.lst [.str (headT p)]))
  have e2 : upd H1 hl (.lst [.str (headT p)]) hl = some (.lst [.str (headT p)]) := upd_same
  have hpb2 := (same_new hhl (.lst [.str (headT p)])) _ _ hpb1
  have hm : upd H1 hl (.lst [.str (Str.ofString "work " ++ Str.ofString (toString p.nm) ++ Str.ofString " " ++ Str.ofString (toString p.fl))]) = upd H1 hl (.lst [.str (headT p)]) := rfl
  rw [hm]
  generalize upd H1 hl (.lst [.str (headT p)]) = H2 at *
  with_reducible refine go_lc (go_iT (go_var rfl ?_))
  (with_reducible refine' go_qiT ?hp ?_); (case hp => walk_at "lw_hp")
  refine lq_tup rs (fun L hL => ?_)
  refine ⟨fun i H' => Same H2 H' ∧ H' L = some (.lst (((p.rows.take i).map rowT).map V.str)), ⟨same_new hL _, upd_same⟩, ?_, ?_, ?_⟩
  · rintro i H' _ ⟨sm, _⟩
    exact SqT.of (sm _ _ hpb2)
  · rintro i x H' hx ⟨sm, hd⟩
    obtain ⟨r, hr1, hr2⟩ := hRs.take_succ hx
    have hln := hok.ln
    have hi := (List.getElem?_eq_some_iff.mp hr1).1
    refine go_gname ⟨rfl, ?_⟩
    with_reducible refine go_yes (go_iteT (go_callC (go_cons (go_var rfl ?_))))
    with_reducible refine go_nil ?_
    refine ⟨x, r, p.nm, p.fl, p.rows.length, rfl, hr2.mono (S2.trans sm).tk, hok.rw r (List.mem_of_getElem? hr1), hok.n2, hok.f2, by omega, fun H3 S3 => ?_⟩
    have et : (p.rows.take (i + 1)).map rowT = (p.rows.take i).map rowT ++ [rowT r] := by rw [List.take_succ, hr1, List.map_append]; rfl
    refine go_lcA (S3 _ _ hd) (small_line (by simp; omega)) ?_
    exact ⟨same_upd hL (sm.trans S3), by rw [upd_same, et, List.map_append]; rfl⟩
  rintro H3 ⟨sm, hd⟩
  rw [← hRs.length, List.take_length] at hd
  have hln := hok.ln
  skip
  refine go_cat (sm _ _ e2) hd (small_le (by simp; omega)) (fun ca hca => ?_)
  have e4 : upd H3 ca (.lst ([V.str (headT p)] ++ (p.rows.map rowT).map V.str)) ca = some (.lst ((headT p :: p.rows.map rowT).map V.str)) := upd_same
  skip
  refine go_joinS e4 ?_ (k _ ((S2.trans sm).trans (same_new hca _)))
  have hs := sum_le (l := p.rows.map rowT) (c := 600) (fun x hx => by
    obtain ⟨y, hy, rfl⟩ := List.mem_map.mp hx
    exact rowT_len hok.n2 hok.f2 (by omega) (hok.rw y hy))
  have hh : (headT p).length ≤ 20 := by
    show (Str.ofString "work " ++ numT p.nm ++ Str.ofString " " ++ numT p.fl : Str).length ≤ 20
    rw [len_app, len_app, len_app]; omega
  rw [List.length_map] at hs
  rw [List.map_cons, List.sum_cons, List.length_cons, List.length_map, ln]
  omega
end
end Lw
set_option Elab.async false
set_option linter.all false
set_option maxRecDepth 100000
set_option maxHeartbeats 4000000
namespace Lw
open PySem L2 TL
local macro_rules | `(tactic| walk_at "lw_hp") => `(tactic| (repeat (first | assumption | exact upd_same | (refine' upd_new (by assumption) ?_) | (refine' tup_off (by assumption) (by assumption) ?_) | (refine' lst_off (by assumption) (by assumption) (by assumption) ?_) | (refine' Same.get (by assumption) ?_) | (refine' Off.get (by assumption) (by assumption) ?_) | (refine' upd_oth (by assumption) ?_))))
abbrev s_read_number : Stmt := top 24
abbrev s_read_name : Stmt := top 25
abbrev s_read_single : Stmt := top 26
def spRNum : Sp := fun vs H Q _ => ∃ (w : Str) (n : Int), vs = [.str w] ∧ NumT n w ∧ Q (.int n) H
section
variable {P : Program} {w : World} {K : PySem.W.Frag} {mg : Str → Option Value} {base : Heap} {f : Addr} {fd : FuncData}
theorem scs_read_number : FnScope ["word"] ["word"] (defScope s_read_number) := ⟨rfl, rfl, rfl, by decide +kernel, rfl, by decide +kernel, by decide +kernel⟩
theorem ok_rnum (F : Fun K "read_number" "read_number" s_read_number f fd) (T : Txt mg) : FnOk P w K mg base CX0 1 f fd ["word"] spRNum := by
  refine F.ok scs_read_number (fun vs H Q E h => ?_) (fun cdv A outer s H vs Q E hr h => ?_)
  · obtain ⟨w, n, rfl, _⟩ := h
    rfl
  obtain ⟨w, n, rfl, N, k⟩ := h
  have nd := scs_read_number.nd
  have hu := hu_of hr
  have l5 := N.len
  refine ⟨_, (pss_cons (ps_if (PW.pt (pw_or (pt_cmpR op_gt (pe_callB call_len_str (by rfl) T.n_len (by decide +kernel) (pa_cons (pv 0) pa_nil)) (pe_gint (by rfl) T.g_MOST_FIGURES) (nomark _)) (pw_or (pt_not (pt_val (kAscii (pv 0)))) (pw_or1 (pt_not (pt_val (kDigit (pv 0)))))))) (pss_one (ps_ret pe_non)) pss_nil)
      (pss_cons (ps_if (PW.pt (pw_and (pt_cmpR op_gt (pe_callB call_len_str (by rfl) T.n_len (by decide +kernel) (pa_cons (pv 0) pa_nil)) pe_int (nomark _)) (pw_and1 (pt_cmpR op_eq (pe_ix ix_str (pv 0) pe_int (fun _ _ => rfl)) pe_str (nomark _))))) (pss_one (ps_ret pe_non)) pss_nil)
      (pss_one (ps_ret (pe_callTy cr_intS (by rfl) T.n_int (by decide +kernel) (pa_cons (pv 0) pa_nil)))))), ?_⟩
  with_reducible refine go_seq (go_ifS (go_or (go_test (go_op ?_))))
  with_reducible refine go_cb (go_cons (go_var rfl (go_nil ?_)))
  refine ⟨w, rfl, line_le (by omega), ?_⟩
  have ha := N.asc
  have hd := N.dig
  with_reducible refine go_c (go_i0 (go_qb (go_iteDF (by first | assumption | omega | decide | decide +kernel | (simp only [List.length_cons, List.length_nil, List.length_map]; omega)) (go_or ?_))))
  with_reducible refine go_not (go_testB (go_m0 (go_var rfl (go_qm0 ?_))))
  with_reducible refine go_ascii (go_qb ?_)
  rw [ha]
  with_reducible refine go_iteNt (go_not (go_testB (go_m0 (go_var rfl ?_))))
  with_reducible refine go_qm0 (go_digit (go_qb ?_))
  rw [hd]
  with_reducible refine go_iteNt (go_next (go_seq (go_ifS (go_and ?_))))
  with_reducible refine go_test (go_op (go_cb (go_cons (go_var rfl ?_))))
  with_reducible refine go_nil ?_
  refine ⟨w, rfl, line_le (by omega), ?_⟩
  with_reducible refine go_c (go_i0 (go_qb ?_))
  refine go_iteD (fun c => ?_) (fun c => ?_)
  · have hz : w.cps.getD 0 0 ≠ 48 := N.zero.resolve_left (by omega)
    have h0 : 0 < w.cps.toList.length := by rw [Array.length_toList]; exact N.pos
    have at0 : atI w.cps.toList 0 = some (w.cps.getD 0 0) := by
      show atI w.cps.toList ((0 : Nat) : Int) = _
      refine atI_nat ?_
      have h1 : 0 < w.cps.size := N.pos
      simp [Array.getD, h1]
    have ne0 : ¬ ((⟨#[w.cps.getD 0 0]⟩ : Str) = Str.ofString "0") := fun e => hz (by
      have : (⟨#[w.cps.getD 0 0]⟩ : Str).cps.toList = (Str.ofString "0").cps.toList := by rw [e]
      have h2 : (Str.ofString "0").cps.toList = [48] := by decide +kernel
      rw [h2] at this
      simpa using this)
    with_reducible refine go_test (go_op (go_op (go_var rfl (go_c ?_))))
    refine go_ixS (line_le (by omega)) at0 ?_
    with_reducible refine go_c (go_eqS (go_qb (go_iteDF (by first | assumption | omega | decide | decide +kernel | (simp only [List.length_cons, List.length_nil, List.length_map]; omega)) (go_next ?_))))
    with_reducible refine go_ret (go_cb (go_cons (go_var rfl (go_nil ?_))))
    exact go_intS N.int (by omega) k
  · with_reducible refine go_iteF (go_next (go_ret (go_cb (go_cons ?_))))
    with_reducible refine go_var rfl (go_nil ?_)
    exact go_intS N.int (by omega) k
def spRName : Sp := fun vs H Q _ => ∃ (w : Str), vs = [.str w] ∧ ((∃ u n, w = "n" ++ u ∧ NumT n u ∧ Q (.int n) H) ∨ ∃ n, NumT n w ∧ Q .non H)
theorem scs_read_name : FnScope ["word"] ["word"] (defScope s_read_name) := ⟨rfl, rfl, rfl, by decide +kernel, rfl, by decide +kernel, by decide +kernel⟩
theorem ok_rname (F : Fun K "read_name" "read_name" s_read_name f fd) (T : Txt mg) (C_read_number : FnC P w K mg base 1 "read_number" ["word"] spRNum) : FnOk P w K mg base CX0 2 f fd ["word"] spRName := by
  refine F.ok scs_read_name (fun vs H Q E h => ?_) (fun cdv A outer s H vs Q E hr h => ?_)
  · obtain ⟨w, rfl, _⟩ := h
    rfl
  obtain ⟨w, rfl, h⟩ := h
  have nd := scs_read_name.nd
  have hu := hu_of hr
  refine ⟨_, (pss_cons (ps_if (pt_not (pt_val (kStarts (pv 0) pe_str))) (pss_one (ps_ret pe_non)) pss_nil)
      (pss_one (ps_ret (pe_callC C_read_number (hr.mono (by omega)) (by rfl) (pa_cons (pe_slice sl_str (pv 0) (po_some pe_int) po_none) pa_nil))))), ?_⟩
  rcases h with ⟨u, n, rfl, N, k⟩ | ⟨n, N, k⟩
  · have l5 := N.len
    with_reducible refine go_seq (go_ifS (go_not (go_testB (go_m1 ?_))))
    with_reducible refine go_var rfl (go_qm1 (go_c (go_starts (go_qb ?_))))
    rw [starts_n]
    with_reducible refine go_iteNt (go_next (go_ret (go_callC (go_cons ?_))))
    with_reducible refine go_sl (go_var rfl (go_part (go_c (go_qI ?_))))
    with_reducible refine go_nopart ?_
    refine go_slS (line_le (by rw [len_app, n_len]; omega)) ?_
    rw [cut_n]
    with_reducible refine go_nil ?_
    exact ⟨u, n, rfl, N, k⟩
  · with_reducible refine go_seq (go_ifS (go_not (go_testB (go_m1 ?_))))
    with_reducible refine go_var rfl (go_qm1 (go_c (go_starts (go_qb ?_))))
    rw [starts_num N]
    with_reducible refine go_iteNf (go_ret (go_c ?_))
    exact k
def spRSingle : Sp := fun vs H Q _ => ∃ (w : Str) (p : Part), vs = [.str w] ∧ ((∃ u n, w = "n" ++ u ∧ NumT n u ∧ p = .name n) ∨ ∃ n, NumT n w ∧ p = .num n) ∧ ∀ v H', Same H H' → PartAt H' p v → Q v H'
theorem scs_read_single : FnScope ["word", "name", "number"] ["word"] (defScope s_read_single) := ⟨rfl, rfl, rfl, by decide +kernel, rfl, by decide +kernel, by decide +kernel⟩
theorem ok_rsingle (F : Fun K "read_single" "read_single" s_read_single f fd) (T : Txt mg) (C_read_number : FnC P w K mg base 1 "read_number" ["word"] spRNum) (C_read_name : FnC P w K mg base 2 "read_name" ["word"] spRName) : FnOk P w K mg base CX0 3 f fd ["word"] spRSingle := by
  refine F.ok scs_read_single (fun vs H Q E h => ?_) (fun cdv A outer s H vs Q E hr h => ?_)
  · obtain ⟨w, p, rfl, _⟩ := h
    rfl
  obtain ⟨w, p, rfl, h, k⟩ := h
  have nd := scs_read_single.nd
  have hu := hu_of hr
  refine ⟨_, (pss_cons (ps_set (i := 1) nd rfl (Or.inl rfl) (pe_callC C_read_name (hr.mono (by omega)) (by rfl) (pa_cons (pv 0) pa_nil)))
      (pss_cons (ps_if (pt_cmpR o_notN (pv 1) pe_non (nomark _)) (pss_one (ps_ret (pe_tup (pa_cons pe_str (pa_cons (pv 1) pa_nil))))) pss_nil)
      (pss_cons (ps_set (i := 2) nd rfl (Or.inl rfl) (pe_callC C_read_number (hr.mono (by omega)) (by rfl) (pa_cons (pv 0) pa_nil)))
      (pss_cons (ps_if (pt_cmpR o_notN (pv 2) pe_non (nomark _)) (pss_one (ps_ret (pe_tup (pa_cons pe_str (pa_cons (pv 2) pa_nil))))) pss_nil)
      (pss_one (ps_ret pe_non)))))), ?_⟩
  rcases h with ⟨u, n, rfl, N, rfl⟩ | ⟨n, N, rfl⟩
  · with_reducible refine go_seq (go_asg (go_callC (go_cons (go_var rfl ?_))))
    with_reducible refine go_nil ?_
    refine ⟨_, rfl, .inl ⟨u, n, rfl, N, ?_⟩⟩
    with_reducible refine go_gname (go_seq (go_ifS (go_test (go_op ?_))))
    with_reducible refine go_var rfl (go_c (go_notN_int (go_qb (go_iteT ?_))))
    with_reducible refine go_ret (go_tup (go_cons (go_c (go_cons ?_))))
    with_reducible refine go_var rfl (go_nil ?_)
    refine go_qtup (Nat.le_of_ble_eq_true rfl) (fun t ht => ?_)
    exact k _ _ (same_new ht _) ⟨t, rfl, upd_same⟩
  · with_reducible refine go_seq (go_asg (go_callC (go_cons (go_var rfl ?_))))
    with_reducible refine go_nil ?_
    refine ⟨_, rfl, .inr ⟨n, N, ?_⟩⟩
    with_reducible refine go_gname (go_seq (go_ifS (go_test (go_op ?_))))
    with_reducible refine go_var rfl (go_c (go_notN_non (go_qb (go_iteF ?_))))
    with_reducible refine go_next (go_seq (go_asg (go_callC (go_cons ?_))))
    with_reducible refine go_var rfl (go_nil ?_)
    refine ⟨w, n, rfl, N, ?_⟩
    with_reducible refine go_gname (go_seq (go_ifS (go_test (go_op ?_))))
    with_reducible refine go_var rfl (go_c (go_notN_int (go_qb (go_iteT ?_))))
    with_reducible refine go_ret (go_tup (go_cons (go_c (go_cons ?_))))
    with_reducible refine go_var rfl (go_nil ?_)
    refine go_qtup (Nat.le_of_ble_eq_true rfl) (fun t ht => ?_)
    exact k _ _ (same_new ht _) ⟨t, rfl, upd_same⟩
end
end Lw
set_option Elab.async false
set_option linter.all false
set_option maxRecDepth 100000
set_option maxHeartbeats 4000000
namespace Lw
open PySem L2 TL
local macro_rules | `(tactic| walk_at "lw_hp") => `(tactic| (repeat (first | assumption | exact upd_same | (refine' upd_new (by assumption) ?_) | (refine' tup_off (by assumption) (by assumption) ?_) | (refine' lst_off (by assumption) (by assumption) (by assumption) ?_) | (refine' Same.get (by assumption) ?_) | (refine' Off.get (by assumption) (by assumption) ?_) | (refine' upd_oth (by assumption) ?_))))
inductive PsAt (H : Hp) : List Part → List V → Prop
  | nil : PsAt H [] []
  | cons {p : Part} {v : V} {ps : List Part} {vs : List V} : PartAt H p v → PsAt H ps vs → PsAt H (p :: ps) (v :: vs)
theorem PsAt.mono {H H' : Hp} (t : TK H H') {ps : List Part} {vs : List V} (h : PsAt H ps vs) : PsAt H' ps vs := by
  induction h with
  | nil => exact .nil
  | cons h _ ih => exact .cons (h.mono t) ih
theorem PsAt.length {H : Hp} {ps : List Part} {vs : List V} (h : PsAt H ps vs) : ps.length = vs.length := by
  induction h with
  | nil => rfl
  | cons _ _ ih => simp [ih]
def Tk.ok : Tk → Prop
  | .op _ => True
  | .name n => 0 ≤ n ∧ n ≤ 10006
  | .num n => 0 ≤ n ∧ n ≤ 10006
theorem step_none {ts : List Tk} {ps : List Part} : ∀ {t : Tk} {st : List Part}, runT (t :: ts) st = some ps → ∃ st', stepT t st = some st' ∧ runT ts st' = some ps := fun {t st} h => by
  unfold runT at h
  cases e : stepT t st with
  | none => rw [e] at h; cases h
  | some st' => rw [e] at h; exact ⟨st', rfl, h⟩
theorem tk_not {t : Tk} (ok : t.ok) (h : ∀ o, t ≠ .op o) : ¬ (t.str = "sum") ∧ ¬ (t.str = "diff") ∧ ¬ (t.str = "less") := by
  have hs : ∀ {w : Str} {c : Nat} {r : List Nat}, tl w = c :: r → (c < 48 ∨ 57 < c) → c ≠ 110 → ¬ (t.str = w) := fun {w c r} e1 e2 e3 z => by
    cases t with
    | op o => exact h o rfl
    | name n =>
      have : tl (("n" : Str) ++ numT n) = c :: r := by rw [show (("n" : Str) ++ numT n) = w from z]; exact e1
      rw [tl_append, tl_n] at this
      injection this with a b
      exact e3 a.symm
    | num n =>
      have hn : tl (numT n) = c :: r := by rw [show numT n = w from z]; exact e1
      have := (num_t ok.1 ok.2).all c (by show c ∈ tl (numT n); rw [hn]; exact List.mem_cons_self)
      omega
  exact ⟨hs (c := 115) (r := [117, 109]) (by decide +kernel) (by omega) (by omega), hs (c := 100) (r := [105, 102, 102]) (by decide +kernel) (by omega) (by omega), hs (c := 108) (r := [101, 115, 115]) (by decide +kernel) (by omega) (by omega)⟩
theorem go_popR {H : Hp} {Q : VK} {p : Addr} {u : V} {us : List V} (h : H p = some (.lst (u :: us).reverse)) (q : Q u (upd H p (.lst us.reverse))) : rPop (.ref p) [] H Q := by
  refine go_pop (y := u) h (by rw [List.reverse_cons]; simp) ?_
  rw [List.reverse_cons, List.dropLast_concat]
  exact q
theorem go_inT3 {K : PySem.W.Frag} {H : Hp} {Q : VK} {p : Addr} {xs : List V} {x : V} (h : H p = some (.tup xs)) (fx : flatV x = true) (fs : xs.all flatV = true) (q : Q (.bl (inV x xs)) H) : rIn K false x (.ref p) H Q := ⟨p, xs, rfl, .inr (SqT.of h), fx, fs, q⟩
theorem in3_op (o : Op3) : inV (.str (Tk.op o).str) [V.str (Str.ofString "sum"), V.str (Str.ofString "diff"), V.str (Str.ofString "less")] = true := by cases o <;> decide +kernel
theorem in3_no {x : Str} (q1 : ¬ x = "sum") (q2 : ¬ x = "diff") (q3 : ¬ x = "less") : inV (.str x) [V.str (Str.ofString "sum"), V.str (Str.ofString "diff"), V.str (Str.ofString "less")] = false := by
  simp [inV, eqV, Ne.symm q1, Ne.symm q2, Ne.symm q3]
theorem at_last {us : List V} {v : V} : atI (us.reverse ++ [v]) (-1) = some v := by
  have h : ixN (us.reverse ++ [v]).length (-1) = some us.length := by unfold ixN; simp; omega
  unfold atI
  rw [h]
  simp
abbrev s_read_parts : Stmt := top 27
def spRParts : Sp := fun vs H Q _ => ∃ (wl : Addr) (ts : List Tk) (ps : List Part), vs = [.ref wl] ∧ H wl = some (.lst ((ts.map Tk.str).map V.str)) ∧ (∀ t ∈ ts, t.ok) ∧ ts.length ≤ 100 ∧ runT ts.reverse [] = some ps ∧
  ∀ (l : Addr) (us : List V) (H' : Hp), Same H H' → H l = none → H' l = some (.lst us) → PsAt H' ps us → Q (.ref l) H'
section
variable {P : Program} {w : World} {K : PySem.W.Frag} {mg : Str → Option Value} {base : Heap} {f : Addr} {fd : FuncData}
theorem scs_read_parts : FnScope ["words", "parts", "word", "one", "other"] ["words"] (defScope s_read_parts) := ⟨rfl, rfl, rfl, by decide +kernel, rfl, by decide +kernel, by decide +kernel⟩
theorem ok_rparts (F : Fun K "read_parts" "read_parts" s_read_parts f fd) (T : Txt mg) (C_read_single : FnC P w K mg base 3 "read_single" ["word"] spRSingle) : FnOk P w K mg base CX0 4 f fd ["words"] spRParts := by
  refine F.ok scs_read_parts (fun vs H Q E h => ?_) (fun cdv A outer s H vs Q E hr h => ?_)
  · obtain ⟨wl, ts, ps, rfl, _⟩ := h
    rfl
  obtain ⟨wl, ts, ps, rfl, hw, hok, hl, hrun, k⟩ := h
  have nd := scs_read_parts.nd
  have hu := hu_of hr
  refine ⟨_, (pss_cons (ps_set (i := 1) nd rfl (Or.inl rfl) (pe_lst pa_nil))
      (pss_cons (ps_for PassesOwn.never rfl (kPiRev K (by rfl) T.n_reversed (pa_cons (pv 0) pa_nil)) (pg_name (i := 2) nd rfl (Or.inl rfl)) (pss_one (ps_if (pt_cmpR (kIn K) (pv 2) (pe_tup (pa_cons pe_str (pa_cons pe_str (pa_cons pe_str pa_nil)))) (by rfl)) (pss_cons (ps_if (pt_cmpR op_lt (pe_callB (kLen K) (by rfl) T.n_len (by decide +kernel) (pa_cons (pv 1) pa_nil)) pe_int (nomark _)) (pss_one (ps_ret pe_non)) pss_nil)
      (pss_cons (ps_set (i := 3) nd rfl (Or.inl rfl) (pe_bm0 PySem.F.plainAttrs_list PySem.F.slot_list_pop PySem.F.type_list_pop mt_pop (pv 1)))
      (pss_cons (ps_set (i := 4) nd rfl (Or.inl rfl) (pe_bm0 PySem.F.plainAttrs_list PySem.F.slot_list_pop PySem.F.type_list_pop mt_pop (pv 1)))
      (pss_one (ps_expr (pe_bm PySem.F.plainAttrs_list PySem.F.slot_list_append PySem.F.type_list_append mt_append (pv 1) (pa_cons (pe_tup (pa_cons (pv 2) (pa_cons (pv 3) (pa_cons (pv 4) pa_nil)))) pa_nil))))))) (pss_cons (ps_expr (pe_bm PySem.F.plainAttrs_list PySem.F.slot_list_append PySem.F.type_list_append mt_append (pv 1) (pa_cons (pe_callC C_read_single (hr.mono (by omega)) (by rfl) (pa_cons (pv 2) pa_nil)) pa_nil)))
      (pss_one (ps_if (pt_cmpR o_isN (pe_ix (kIxL K) (pv 1) (pe_un un_neg pe_int) (fun _ _ => rfl)) pe_non (nomark _)) (pss_one (ps_ret pe_non)) pss_nil))))))
      (pss_one (ps_ret (kRev K (pv 1) (po_some (pe_un un_neg pe_int))))))), ?_⟩
  with_reducible refine go_seq (go_asg (go_lst (go_nil ?_)))
  refine go_qlst (Nat.le_of_ble_eq_true rfl) (fun pl hpl => ?_)
  have S0 := same_new hpl (.lst [])
  have e0 : upd H pl (.lst []) pl = some (.lst []) := upd_same
  have hw0 := S0 _ _ hw
  generalize upd H pl (.lst []) = H0 at *
  with_reducible refine go_gname (go_seq (go_for (go_rvL (go_cons ?_))))
  with_reducible refine go_var rfl (go_nil ?_)
  refine go_qrvL hw0 ?_
  refine fq_revL (fun i σ H' => ∃ v2 v3 v4 st us, σ = [some (.ref wl), some (.ref pl), v2, v3, v4] ∧ Same H H' ∧ H' pl = some (.lst us.reverse) ∧ PsAt H' st us ∧ st.length ≤ i ∧ runT (ts.reverse.drop i) st = some ps) ⟨none, none, none, [], [], rfl, S0, e0, .nil, Nat.le_refl _, hrun⟩ ?_ ?_ ?_
  · rintro i σ H' _ ⟨v2, v3, v4, st, us, rfl, sm, _⟩
    exact SqL.of (sm _ _ hw)
  · rintro i x σ H' hx ⟨v2, v3, v4, st, us, rfl, sm, hp', hps, hli, hrn⟩
    obtain ⟨t, rfl, ht⟩ : ∃ t : Tk, x = .str t.str ∧ ts.reverse[i]? = some t := by
      rw [← List.map_reverse, ← List.map_reverse, List.getElem?_map, List.getElem?_map] at hx
      cases e : ts.reverse[i]? with
      | none => rw [e] at hx; cases hx
      | some t => rw [e] at hx; exact ⟨t, (Option.some.inj hx).symm, rfl⟩
    have hdr : ts.reverse.drop i = t :: ts.reverse.drop (i + 1) := by
      obtain ⟨h1, h2⟩ := List.getElem?_eq_some_iff.mp ht
      rw [List.drop_eq_getElem_cons h1, h2]
    rw [hdr] at hrn
    obtain ⟨st', hst, hrn'⟩ := step_none hrn
    have hi : i < ts.reverse.length := (List.getElem?_eq_some_iff.mp ht).1
    rw [List.length_reverse] at hi
    have htk := hok t (List.mem_reverse.mp (List.mem_of_getElem? ht))
    cases t with
    | op o =>
      obtain ⟨a, b, r, rfl⟩ : ∃ a b r, st = a :: b :: r := by
        match st, hst with
        | [], h => cases h
        | [_], h => cases h
        | a :: b :: r, _ => exact ⟨a, b, r, rfl⟩
      cases hst
      cases hps with
      | cons ha hps => cases hps with
      | cons hb hps =>
      rename_i ua ub ur
      with_reducible refine go_gname (go_ifS (go_test (go_op (go_var rfl ?_))))
      with_reducible refine go_tup (go_cons (go_c (go_cons (go_c ?_))))
      with_reducible refine go_cons (go_c (go_nil ?_))
      refine go_qtup (Nat.le_of_ble_eq_true rfl) (fun t1 ht1 => ?_)
      have S1 := same_new ht1 (.tup [V.str (Str.ofString "sum"), V.str (Str.ofString "diff"), V.str (Str.ofString "less")])
      refine go_inT3 upd_same rfl rfl ?_
      have sm1 := sm.trans S1
      have hp1 := S1 _ _ hp'
      have ha1 := ha.mono S1.tk
      have hb1 := hb.mono S1.tk
      have hr1 := hps.mono S1.tk
      rw [in3_op]
      generalize upd H' t1 (.tup [V.str (Str.ofString "sum"), V.str (Str.ofString "diff"), V.str (Str.ofString "less")]) = H1 at *
      have hlen : (ua :: ub :: ur).reverse.length = ur.length + 2 := by simp
      have hl2 := hps.length
      with_reducible refine go_qb (go_iteT (go_seq (go_ifS (go_test ?_))))
      with_reducible refine go_op (go_cb (go_cons (go_var rfl (go_nil ?_))))
      (with_reducible refine' go_lenL ?hp ?_); (case hp => walk_at "lw_hp")
      with_reducible refine go_c (go_i0 (go_qb (go_iteDF (by first | assumption | omega | decide | decide +kernel | (simp only [List.length_cons, List.length_nil, List.length_map]; omega)) (go_next ?_))))
      with_reducible refine go_seq (go_asg (go_bm0 (go_var rfl ?_)))
      (with_reducible refine' go_qbm0 ?hp ?_); (case hp => walk_at "lw_hp")
      refine go_popR hp1 ?_
      have t2 : TK H1 (upd H1 pl (.lst (ub :: ur).reverse)) := TK.updL hp1
      have e2 : upd H1 pl (.lst (ub :: ur).reverse) pl = some (.lst (ub :: ur).reverse) := upd_same
      have sm2 : Same H (upd H1 pl (.lst (ub :: ur).reverse)) := same_upd hpl sm1
      generalize upd H1 pl (.lst (ub :: ur).reverse) = H2 at *
      with_reducible refine go_gname (go_seq (go_asg (go_bm0 (go_var rfl ?_))))
      (with_reducible refine' go_qbm0 ?hp ?_); (case hp => walk_at "lw_hp")
      refine go_popR e2 ?_
      have t3 : TK H2 (upd H2 pl (.lst ur.reverse)) := TK.updL e2
      have e3 : upd H2 pl (.lst ur.reverse) pl = some (.lst ur.reverse) := upd_same
      have sm3 : Same H (upd H2 pl (.lst ur.reverse)) := same_upd hpl sm2
      generalize upd H2 pl (.lst ur.reverse) = H3 at *
      with_reducible refine go_gname (go_drop (go_bm (go_var rfl ?_)))
      (with_reducible refine' go_qbm ?hp ?_); (case hp => walk_at "lw_hp")
      with_reducible refine go_cons (go_tup (go_cons (go_var rfl (go_cons ?_))))
      with_reducible refine go_var rfl (go_cons (go_var rfl (go_nil ?_)))
      refine go_qtup (Nat.le_of_ble_eq_true rfl) (fun tt htt => ?_)
      have S4 := same_new htt (.tup [.str (Tk.op o).str, ua, ub])
      have g4 : upd H3 tt (.tup [.str (Tk.op o).str, ua, ub]) tt = some (.tup [.str (Tk.op o).str, ua, ub]) := upd_same
      have e4 := S4 _ _ e3
      have sm4 := sm3.trans S4
      have tk4 := (t2.trans t3).trans S4.tk
      generalize upd H3 tt (.tup [.str (Tk.op o).str, ua, ub]) = H4 at *
      with_reducible refine go_nil ?_
      refine go_append e4 (small_line (by rw [List.length_reverse]; simp at hli; omega)) ?_
      have t5 : TK H4 (upd H4 pl (.lst (ur.reverse ++ [.ref tt]))) := TK.updL e4
      have tk5 := tk4.trans t5
      exact ⟨_, _, _, .op o a b :: r, .ref tt :: ur, rfl, same_upd hpl sm4, by rw [upd_same, List.reverse_cons], .cons ⟨tt, ua, ub, rfl, t5.get g4, ha1.mono tk5, hb1.mono tk5⟩ (hr1.mono tk5), by simp at hli ⊢; omega, hrn'⟩
    | name n =>
      obtain ⟨q1, q2, q3⟩ := tk_not htk (fun o z => by cases z)
      cases hst
      with_reducible refine go_gname (go_ifS (go_test (go_op (go_var rfl ?_))))
      with_reducible refine go_tup (go_cons (go_c (go_cons (go_c ?_))))
      with_reducible refine go_cons (go_c (go_nil ?_))
      refine go_qtup (Nat.le_of_ble_eq_true rfl) (fun t1 ht1 => ?_)
      have S1 := same_new ht1 (.tup [V.str (Str.ofString "sum"), V.str (Str.ofString "diff"), V.str (Str.ofString "less")])
      refine go_inT3 upd_same rfl rfl ?_
      have sm1 := sm.trans S1
      have hp1 := S1 _ _ hp'
      have hr1 := hps.mono S1.tk
      rw [in3_no q1 q2 q3]
      generalize upd H' t1 (.tup [V.str (Str.ofString "sum"), V.str (Str.ofString "diff"), V.str (Str.ofString "less")]) = H1 at *
      with_reducible refine go_qb (go_iteF (go_seq (go_drop (go_bm ?_))))
      with_reducible refine go_var rfl ?_
      (with_reducible refine' go_qbm ?hp ?_); (case hp => walk_at "lw_hp")
      with_reducible refine go_cons (go_callC (go_cons (go_var rfl (go_nil ?_))))
      refine ⟨_, .name n, rfl, .inl ⟨numT n, n, rfl, num_t htk.1 htk.2, rfl⟩, fun v H2 S2 hv => ?_⟩
      have hp2 := S2 _ _ hp1
      obtain ⟨va, rfl⟩ : ∃ va, v = .ref va := ⟨hv.choose, hv.choose_spec.1⟩
      have hl2 := hps.length
      with_reducible refine go_nil ?_
      refine go_append hp2 (small_line (by rw [List.length_reverse]; omega)) ?_
      have t3 : TK H2 (upd H2 pl (.lst (us.reverse ++ [.ref va]))) := TK.updL hp2
      have e3 : upd H2 pl (.lst (us.reverse ++ [.ref va])) pl = some (.lst (us.reverse ++ [.ref va])) := upd_same
      have sm3 : Same H (upd H2 pl (.lst (us.reverse ++ [.ref va]))) := same_upd hpl (sm1.trans S2)
      generalize upd H2 pl (.lst (us.reverse ++ [.ref va])) = H3 at *
      have al := at_last (us := us) (v := .ref va)
      with_reducible refine go_ifS (go_test (go_op (go_op (go_var rfl ?_))))
      with_reducible refine go_un (go_c (go_u ?_))
      (with_reducible refine' go_ixL ?hp ?ha ?_); (case hp => walk_at "lw_hp"); (case ha => first | rfl | assumption)
      with_reducible refine go_c (go_isN_ref (go_qb (go_iteF (go_next ?_))))
      exact ⟨_, _, _, _ :: st, _ :: us, rfl, sm3, by rw [e3, List.reverse_cons], .cons (hv.mono t3) ((hr1.mono S2.tk).mono t3), by rw [List.length_cons]; omega, hrn'⟩
    | num n =>
      obtain ⟨q1, q2, q3⟩ := tk_not htk (fun o z => by cases z)
      cases hst
      with_reducible refine go_gname (go_ifS (go_test (go_op (go_var rfl ?_))))
      with_reducible refine go_tup (go_cons (go_c (go_cons (go_c ?_))))
      with_reducible refine go_cons (go_c (go_nil ?_))
      refine go_qtup (Nat.le_of_ble_eq_true rfl) (fun t1 ht1 => ?_)
      have S1 := same_new ht1 (.tup [V.str (Str.ofString "sum"), V.str (Str.ofString "diff"), V.str (Str.ofString "less")])
      refine go_inT3 upd_same rfl rfl ?_
      have sm1 := sm.trans S1
      have hp1 := S1 _ _ hp'
      have hr1 := hps.mono S1.tk
      rw [in3_no q1 q2 q3]
      generalize upd H' t1 (.tup [V.str (Str.ofString "sum"), V.str (Str.ofString "diff"), V.str (Str.ofString "less")]) = H1 at *
      with_reducible refine go_qb (go_iteF (go_seq (go_drop (go_bm ?_))))
      with_reducible refine go_var rfl ?_
      (with_reducible refine' go_qbm ?hp ?_); (case hp => walk_at "lw_hp")
      with_reducible refine go_cons (go_callC (go_cons (go_var rfl (go_nil ?_))))
      refine ⟨_, .num n, rfl, .inr ⟨n, num_t htk.1 htk.2, rfl⟩, fun v H2 S2 hv => ?_⟩
      have hp2 := S2 _ _ hp1
      obtain ⟨va, rfl⟩ : ∃ va, v = .ref va := ⟨hv.choose, hv.choose_spec.1⟩
      have hl2 := hps.length
      with_reducible refine go_nil ?_
      refine go_append hp2 (small_line (by rw [List.length_reverse]; omega)) ?_
      have t3 : TK H2 (upd H2 pl (.lst (us.reverse ++ [.ref va]))) := TK.updL hp2
      have e3 : upd H2 pl (.lst (us.reverse ++ [.ref va])) pl = some (.lst (us.reverse ++ [.ref va])) := upd_same
      have sm3 : Same H (upd H2 pl (.lst (us.reverse ++ [.ref va]))) := same_upd hpl (sm1.trans S2)
      generalize upd H2 pl (.lst (us.reverse ++ [.ref va])) = H3 at *
      have al := at_last (us := us) (v := .ref va)
      with_reducible refine go_ifS (go_test (go_op (go_op (go_var rfl ?_))))
      with_reducible refine go_un (go_c (go_u ?_))
      (with_reducible refine' go_ixL ?hp ?ha ?_); (case hp => walk_at "lw_hp"); (case ha => first | rfl | assumption)
      with_reducible refine go_c (go_isN_ref (go_qb (go_iteF (go_next ?_))))
      exact ⟨_, _, _, _ :: st, _ :: us, rfl, sm3, by rw [e3, List.reverse_cons], .cons (hv.mono t3) ((hr1.mono S2.tk).mono t3), by rw [List.length_cons]; omega, hrn'⟩
  · rintro σ H' ⟨v2, v3, v4, st, us, rfl, sm, hp', hps, hli, hrn⟩
    rw [List.drop_of_length_le (by simp)] at hrn
    cases hrn
    with_reducible refine go_ret ?_
    refine go_rev ?_
    with_reducible refine go_var rfl (go_part (go_un (go_c (go_u ?_))))
    with_reducible refine go_qI ?_
    refine ⟨rfl, go_rrev hp' (fun l hl' => ?_)⟩
    rw [List.reverse_reverse]
    have S9 := same_new hl' (.lst us)
    exact k l us _ (sm.trans S9) (sm.free hl') upd_same (hps.mono S9.tk)
end
end Lw
set_option Elab.async false
set_option linter.all false
set_option maxRecDepth 100000
set_option maxHeartbeats 4000000
namespace Lw
open PySem L2 TL
local macro_rules | `(tactic| walk_at "lw_hp") => `(tactic| (repeat (first | assumption | exact upd_same | (refine' upd_new (by assumption) ?_) | (refine' tup_off (by assumption) (by assumption) ?_) | (refine' lst_off (by assumption) (by assumption) (by assumption) ?_) | (refine' Same.get (by assumption) ?_) | (refine' Off.get (by assumption) (by assumption) ?_) | (refine' upd_oth (by assumption) ?_))))
def Row.hd : Row → List Pl
  | .set n _ => [.name n]
  | .take n => [.name n]
  | .get n f _ => [.name n, .numb f]
  | .size n f => [.name n, .numb f]
  | .add f _ => [.numb f]
  | .put f _ _ => [.numb f]
  | .cut f _ => [.numb f]
  | .send _ => []
  | .go r => [.numb r]
  | .unl n r => [.name n, .numb r]
  | .mark => []
def Row.ps : Row → List Part
  | .set _ p => [p]
  | .get _ _ p => [p]
  | .add _ p => [p]
  | .put _ p q => [p, q]
  | .cut _ p => [p]
  | .send p => [p]
  | _ => []
theorem pls_split (r : Row) : r.pls = r.hd ++ r.ps.map Pl.part := by cases r <;> rfl
def Pl.val : Pl → V
  | .name n => .int n
  | .numb n => .int n
  | .part _ => .non
def isP (s : Str) : Bool := decide (s = "part")
theorem kinds_hd (r : Row) : (r.kinds.2.filter fun s => !isP s).length = r.hd.length ∧ r.kinds.2.length = r.hd.length + r.ps.length := by cases r <;> exact ⟨rfl, rfl⟩
theorem row_back {H : Hp} {r : Row} {us : List V} (h : PsAt H r.ps us) : RowXs H r (.str r.kinds.1 :: (r.hd.map Pl.val ++ us)) := by
  cases r with
  | set n p => cases h with | cons h1 h2 => cases h2; exact ⟨_, rfl, h1⟩
  | take n => cases h; rfl
  | get n f p => cases h with | cons h1 h2 => cases h2; exact ⟨_, rfl, h1⟩
  | size n f => cases h; rfl
  | add f p => cases h with | cons h1 h2 => cases h2; exact ⟨_, rfl, h1⟩
  | put f p q => cases h with | cons h1 h2 => cases h2 with | cons h2 h3 => cases h3; exact ⟨_, _, rfl, h1, h2⟩
  | cut f p => cases h with | cons h1 h2 => cases h2; exact ⟨_, rfl, h1⟩
  | send p => cases h with | cons h1 h2 => cases h2; exact ⟨_, rfl, h1⟩
  | go r => cases h; rfl
  | unl n r => cases h; rfl
  | mark => cases h; rfl
theorem hd_kind (r : Row) (i : Nat) (x : Pl) (y : V) (h1 : r.hd[i]? = some x) (h2 : ((r.kinds.2.filter fun s => !isP s).map V.str)[i]? = some y) : (∃ n, x = .name n ∧ y = .str "name") ∨ ∃ n kd, x = .numb n ∧ y = .str kd ∧ ¬ (kd = "name") := by
  have n1 : ¬ (("file" : Str) = "name") := by decide +kernel
  have n2 : ¬ (("row" : Str) = "name") := by decide +kernel
  cases r with
  | set n p => match i with | 0 => cases h1; cases h2; exact .inl ⟨_, rfl, rfl⟩ | i + 1 => cases h1
  | take n => match i with | 0 => cases h1; cases h2; exact .inl ⟨_, rfl, rfl⟩ | i + 1 => cases h1
  | get n f p => match i with | 0 => cases h1; cases h2; exact .inl ⟨_, rfl, rfl⟩ | 1 => cases h1; cases h2; exact .inr ⟨_, _, rfl, rfl, n1⟩ | i + 2 => cases h1
  | size n f => match i with | 0 => cases h1; cases h2; exact .inl ⟨_, rfl, rfl⟩ | 1 => cases h1; cases h2; exact .inr ⟨_, _, rfl, rfl, n1⟩ | i + 2 => cases h1
  | add f p => match i with | 0 => cases h1; cases h2; exact .inr ⟨_, _, rfl, rfl, n1⟩ | i + 1 => cases h1
  | put f p q => match i with | 0 => cases h1; cases h2; exact .inr ⟨_, _, rfl, rfl, n1⟩ | i + 1 => cases h1
  | cut f p => match i with | 0 => cases h1; cases h2; exact .inr ⟨_, _, rfl, rfl, n1⟩ | i + 1 => cases h1
  | send p => cases h1
  | go r => match i with | 0 => cases h1; cases h2; exact .inr ⟨_, _, rfl, rfl, n2⟩ | i + 1 => cases h1
  | unl n r => match i with | 0 => cases h1; cases h2; exact .inl ⟨_, rfl, rfl⟩ | 1 => cases h1; cases h2; exact .inr ⟨_, _, rfl, rfl, n2⟩ | i + 2 => cases h1
  | mark => cases h1
theorem val_flat (r : Row) : (r.hd.map Pl.val).all flatV = true ∧ inV .non (r.hd.map Pl.val) = false := by cases r <;> exact ⟨rfl, rfl⟩
theorem row_parts {nm fl many : Int} {r : Row} (ok : r.ok nm fl many) : (∀ p ∈ r.ps, p.ok nm 3) ∧ r.ps.length ≤ 2 := by
  cases r with
  | set n p => exact ⟨fun q hq => by cases List.mem_singleton.mp hq; exact ok.2.2, Nat.le_of_ble_eq_true rfl⟩
  | take n => exact ⟨fun q hq => by (cases hq), Nat.le_of_ble_eq_true rfl⟩
  | get n f p => exact ⟨fun q hq => by cases List.mem_singleton.mp hq; exact ok.2.2.2.2, Nat.le_of_ble_eq_true rfl⟩
  | size n f => exact ⟨fun q hq => by (cases hq), Nat.le_of_ble_eq_true rfl⟩
  | add f p => exact ⟨fun q hq => by cases List.mem_singleton.mp hq; exact ok.2.2, Nat.le_of_ble_eq_true rfl⟩
  | put f p q => exact ⟨fun z hz => by rcases List.mem_cons.mp hz with rfl | hz; exact ok.2.2.1; cases List.mem_singleton.mp hz; exact ok.2.2.2, Nat.le_of_ble_eq_true rfl⟩
  | cut f p => exact ⟨fun q hq => by cases List.mem_singleton.mp hq; exact ok.2.2, Nat.le_of_ble_eq_true rfl⟩
  | send p => exact ⟨fun q hq => by cases List.mem_singleton.mp hq; exact ok, Nat.le_of_ble_eq_true rfl⟩
  | go r => exact ⟨fun q hq => by (cases hq), Nat.le_of_ble_eq_true rfl⟩
  | unl n r => exact ⟨fun q hq => by (cases hq), Nat.le_of_ble_eq_true rfl⟩
  | mark => exact ⟨fun q hq => by (cases hq), Nat.le_of_ble_eq_true rfl⟩
theorem flat_len {ps : List Part} (h : ∀ p ∈ ps, (pToks p).length ≤ 8) : ((ps.map pToks).flatten).length ≤ 8 * ps.length := by
  induction ps with
  | nil => exact Nat.zero_le _
  | cons p ps ih =>
    have h1 := h p List.mem_cons_self
    have h2 := ih fun q hq => h q (List.mem_cons_of_mem _ hq)
    rw [List.map_cons, List.flatten_cons, List.length_append, List.length_cons, Nat.mul_succ]
    omega
theorem hd_words (r : Row) : (r.pls.map Pl.words).flatten = r.hd.map Pl.text ++ (r.ps.map pWords).flatten := by
  rw [pls_split, List.map_append, List.flatten_append]
  congr 1
  · cases r <;> rfl
  · rw [List.map_map]; rfl
theorem toks_words : ∀ ps : List Part, ((ps.map pToks).flatten).map Tk.str = (ps.map pWords).flatten
  | [] => rfl
  | p :: ps => by rw [List.map_cons, List.map_cons, List.flatten_cons, List.flatten_cons, List.map_append, pToks_w, toks_words ps]
theorem pToks_ok {nm : Int} (hn : nm ≤ 8) : ∀ {d : Nat} {p : Part}, p.ok nm d → (∀ t ∈ pToks p, t.ok) ∧ (pToks p).length + 1 ≤ 2 ^ d
  | 0, _, h => h.elim
  | d + 1, .num n, h => ⟨fun t ht => by cases List.mem_singleton.mp ht; exact h, by show 2 ≤ 2 ^ (d + 1); have := Nat.one_le_two_pow (n := d); rw [Nat.pow_succ]; omega⟩
  | d + 1, .name k, h => ⟨fun t ht => by cases List.mem_singleton.mp ht; have h' : 0 ≤ k ∧ k < nm := h; exact ⟨h'.1, by omega⟩, by show 2 ≤ 2 ^ (d + 1); have := Nat.one_le_two_pow (n := d); rw [Nat.pow_succ]; omega⟩
  | d + 1, .op o a b, h => by
    obtain ⟨a1, a2⟩ := pToks_ok hn (d := d) (p := a) h.1
    obtain ⟨b1, b2⟩ := pToks_ok hn (d := d) (p := b) h.2
    refine ⟨fun t ht => ?_, ?_⟩
    · rcases List.mem_cons.mp ht with rfl | ht
      · trivial
      · rcases List.mem_append.mp ht with h1 | h1
        · exact a1 t h1
        · exact b1 t h1
    · show (pToks a ++ pToks b).length + 1 + 1 ≤ _
      rw [List.length_append, Nat.pow_succ]
      omega
abbrev s_read_row : Stmt := top 28
def spRRow : Sp := fun vs H Q _ => ∃ (wl : Addr) (r : Row) (nm fl many : Int), vs = [.ref wl] ∧ H wl = some (.lst ((rowW r).map V.str)) ∧ r.ok nm fl many ∧ nm ≤ 8 ∧ fl ≤ 4 ∧ many ≤ 60 ∧ ∀ v H', Same H H' → RowAt H' r v → Q v H'
section
variable {P : Program} {w : World} {K : PySem.W.Frag} {mg : Str → Option Value} {base : Heap} {f : Addr} {fd : FuncData} {cI cC dP dL : Addr}
theorem scs_read_row : FnScope ["words", "kinds", "ahead", "places", "parts", "word", "kind"] ["words"] (defScope s_read_row) := ⟨rfl, rfl, rfl, by decide +kernel, rfl, by decide +kernel, by decide +kernel⟩
theorem ok_rrow (F : Fun K "read_row" "read_row" s_read_row f fd) (T : Txt mg) (O : Own K mg cI cC dP dL) (C_read_number : FnC P w K mg base 1 "read_number" ["word"] spRNum) (C_read_name : FnC P w K mg base 2 "read_name" ["word"] spRName) (C_read_parts : FnC P w K mg base 4 "read_parts" ["words"] spRParts) : FnOk P w K mg base CX0 5 f fd ["words"] spRRow := by
  refine F.ok scs_read_row (fun vs H Q E h => ?_) (fun cdv A outer s H vs Q E hr h => ?_)
  · obtain ⟨wl, r, nm, fl, many, rfl, _⟩ := h
    rfl
  obtain ⟨wl, r, nm, fl, many, rfl, hw, hok, h8, h4, h60, k⟩ := h
  obtain ⟨b, hb, hq⟩ := places_at O.pl r.kinds_at
  have hw' : H wl = some (.lst (.str r.kinds.1 :: ((r.pls.map Pl.words).flatten).map V.str)) := hw
  have hat : atI (V.str r.kinds.1 :: ((r.pls.map Pl.words).flatten).map V.str) 0 = some (.str r.kinds.1) := by show atI (_ :: _) ((0 : Nat) : Int) = _; exact atI_nat rfl
  have nd := scs_read_row.nd
  have hu := hu_of hr
  have Oi := O.i
  have Oc := O.c
  refine ⟨_, (pss_cons (ps_if (pt_cmp (pc_dninK K (pe_ix (kIxL K) (pv 0) pe_int (fun _ _ => rfl)) (pe_gref (by rfl) O.g_PLACES))) (pss_one (ps_ret pe_non)) pss_nil)
      (pss_cons (ps_set (i := 1) nd rfl (Or.inl rfl) (pe_dgetK K (pe_gref (by rfl) O.g_PLACES) (pe_ix (kIxL K) (pv 0) pe_int (fun _ _ => rfl)) (fun _ _ => rfl)))
      (pss_cons (ps_setLc (i := 2) rfl nd rfl rfl (sw_true rfl rfl rfl rfl) (kPiT K (pv 1)) (blkOk_by (own := [("kind", 6)]) (by show blkC ["words", "kinds", "ahead", "places", "parts", "word", "kind"] (defScope s_read_row) _ _ = true; decide +kernel)) (fun _ _ _ _ _ => (pg_name (i := 6) nd rfl (Or.inl rfl))) (fun _ _ _ _ _ => (pts_one (pt_cmpR op_ne (pv 6) pe_str (nomark _)))) (fun _ _ _ _ _ => (pv 6)))
      (pss_cons (ps_set (i := 3) nd rfl (Or.inl rfl) (pe_lst pa_nil))
      (pss_cons (ps_for PassesOwn.never rfl (pi_zip (by rfl) T.n_zip (pa_cons (pe_slice (kSlL K) (pv 0) (po_some pe_int) po_none) (pa_cons (pv 2) pa_nil))) (kPgT K (by rfl) (pgs_cons (pg_name (i := 5) nd rfl (Or.inl rfl)) (pgs_cons (pg_name (i := 6) nd rfl (Or.inl rfl)) pgs_nil))) (pss_one (ps_expr (pe_bm PySem.F.plainAttrs_list PySem.F.slot_list_append PySem.F.type_list_append mt_append (pv 3) (pa_cons (pe_ifExp (pt_cmpR op_eq (pv 6) pe_str (nomark _)) (pe_callC C_read_name (hr.mono (by omega)) (by rfl) (pa_cons (pv 5) pa_nil)) (pe_callC C_read_number (hr.mono (by omega)) (by rfl) (pa_cons (pv 5) pa_nil))) pa_nil)))))
      (pss_cons (ps_set (i := 4) nd rfl (Or.inl rfl) (pe_callC C_read_parts (hr.mono (by omega)) (by rfl) (pa_cons (pe_slice (kSlL K) (pv 0) (po_some (pe_op op_add pe_int (pe_callB (kLen K) (by rfl) T.n_len (by decide +kernel) (pa_cons (pv 2) pa_nil)))) po_none) pa_nil)))
      (pss_cons (ps_if (PW.pt (pw_or (pt_cmpR o_isN (pv 4) pe_non (nomark _)) (pw_or (pt_cmpR (kIn K) pe_non (pv 3) (by rfl)) (pw_or1 (pt_cmpR op_ne (pe_op op_add (pe_callB (kLen K) (by rfl) T.n_len (by decide +kernel) (pa_cons (pv 3) pa_nil)) (pe_callB (kLen K) (by rfl) T.n_len (by decide +kernel) (pa_cons (pv 4) pa_nil))) (pe_callB (kLen K) (by rfl) T.n_len (by decide +kernel) (pa_cons (pv 1) pa_nil)) (nomark _)))))) (pss_one (ps_ret pe_non)) pss_nil)
      (pss_one (ps_ret (pe_tup (pa_cons (pe_ix (kIxL K) (pv 0) pe_int (fun _ _ => rfl)) (kStar K (pv 3) (kStar K (pv 4) pa_nil))))))))))))), ?_⟩
  with_reducible refine go_seq (go_ifS (go_testB (go_dninK (go_op ?_))))
  with_reducible refine go_var rfl (go_c ?_)
  (with_reducible refine' go_ixL ?hp ?ha ?_); (case hp => walk_at "lw_hp"); (case ha => first | rfl | assumption)
  with_reducible refine go_c ?_
  refine go_qdniK hb ?_
  rw [show (!(some (Value.ref b)).isSome) = false from rfl]
  with_reducible refine go_qb (go_iteF (go_next (go_seq (go_asg ?_))))
  with_reducible refine go_dgetK (go_c (go_op (go_var rfl (go_c ?_))))
  (with_reducible refine' go_ixL ?hp ?ha ?_); (case hp => walk_at "lw_hp"); (case ha => first | rfl | assumption)
  refine go_qdgK (v := .ref b) hb rfl ?_
  with_reducible refine go_gname (go_seq (go_asg (go_lc (go_iT ?_))))
  with_reducible refine go_var rfl ?_
  refine ⟨b, rfl, ⟨_, hq _⟩, ?_⟩
  refine lq_tup (r.kinds.2.map V.str) (fun L hL => ?_)
  refine ⟨fun i H' => Same H H' ∧ H' L = some (.lst (((r.kinds.2.take i).filter fun s => !isP s).map V.str)), ⟨same_new hL _, upd_same⟩, ?_, ?_, ?_⟩
  · rintro i H' _ ⟨sm, _⟩
    exact hq _
  · rintro i x H' hx ⟨sm, hd⟩
    obtain ⟨s, rfl, hs⟩ : ∃ s : Str, x = .str s ∧ r.kinds.2[i]? = some s := by
      rw [List.getElem?_map] at hx
      cases e : r.kinds.2[i]? with
      | none => rw [e] at hx; cases hx
      | some s => rw [e] at hx; exact ⟨s, (Option.some.inj hx).symm, rfl⟩
    have k3 := (kinds_len r).1
    have et : (r.kinds.2.take (i + 1)).filter (fun s => !isP s) = (r.kinds.2.take i).filter (fun s => !isP s) ++ if isP s = true then [] else [s] := by
      rw [List.take_succ, hs, List.filter_append]
      congr 1
      cases c : isP s with
      | true => simp [c]
      | false => simp [c]
    have lf : ((r.kinds.2.take i).filter fun s => !isP s).length ≤ 3 := Nat.le_trans (List.length_filter_le _ _) (by rw [List.length_take]; omega)
    refine go_gname ⟨rfl, ?_⟩
    with_reducible refine go_test (go_op (go_var rfl (go_c (go_neS ?_))))
    with_reducible refine go_qb ?_
    refine go_iteN (fun c => ?_) (fun c => ?_)
    · with_reducible refine go_var rfl ?_
      have c' : isP s = false := decide_eq_false c
      rw [c', if_neg (by decide)] at et
      refine go_lcA hd (small_line (by rw [List.length_map]; omega)) ?_
      exact ⟨same_upd hL sm, by rw [upd_same, et, List.map_append]; rfl⟩
    · skip
      have c' : isP s = true := decide_eq_true c
      rw [c', if_pos rfl, List.append_nil] at et
      exact ⟨sm, by rw [et]; exact hd⟩
  rintro H1 ⟨S1, hd1⟩
  rw [List.length_map, List.take_length] at hd1
  obtain ⟨kh, kl⟩ := kinds_hd r
  generalize hah : r.kinds.2.filter (fun s => !isP s) = ah at *
  with_reducible refine go_gname (go_seq (go_asg (go_lst (go_nil ?_))))
  refine go_qlst (Nat.le_of_ble_eq_true rfl) (fun pc hpc => ?_)
  have S2 := same_new hpc (.lst [])
  have e2 : upd H1 pc (.lst []) pc = some (.lst []) := upd_same
  have hd2 := S2 _ _ hd1
  have hw2 := (S1.trans S2) _ _ hw'
  have sm2 := S1.trans S2
  have fpc : H pc = none := S1.free hpc
  have npL : pc ≠ L := (ne_of_none hd1 hpc).symm
  generalize upd H1 pc (.lst []) = H2 at *
  with_reducible refine go_gname (go_seq (go_for ?_))
  have hws : (r.pls.map Pl.words).flatten = r.hd.map Pl.text ++ (r.ps.map pWords).flatten := hd_words r
  refine go_zipL ?_
  with_reducible refine go_cons (go_sl (go_var rfl (go_part (go_c ?_))))
  with_reducible refine go_qI (go_nopart ?_)
  refine go_slL hw2 (fun c hc => ?_)
  rw [cut_from (by decide), show List.drop (1 : Int).toNat (V.str r.kinds.1 :: ((r.pls.map Pl.words).flatten).map V.str) = ((r.pls.map Pl.words).flatten).map V.str from rfl]
  have S3 := same_new hc (.lst (((r.pls.map Pl.words).flatten).map V.str))
  have e3 : upd H2 c (.lst (((r.pls.map Pl.words).flatten).map V.str)) c = some (.lst (((r.pls.map Pl.words).flatten).map V.str)) := upd_same
  have hd3 := S3 _ _ hd2
  have p3 := S3 _ _ e2
  have sm3 := sm2.trans S3
  have npc : pc ≠ c := ne_of_none e2 hc
  generalize upd H2 c (.lst (((r.pls.map Pl.words).flatten).map V.str)) = H3 at *
  with_reducible refine go_cons (go_var rfl (go_nil ?_))
  refine go_qzipL (SqL.of e3) (SqL.of hd3) ?_
  have hok2 := pls_ok h4 h60 hok
  have hdl : r.hd.length ≤ 3 := by have := (kinds_len r).1; omega
  refine fq_zipS (((r.pls.map Pl.words).flatten).map V.str) (ah.map V.str) (by rw [List.length_map, List.length_map, hws, List.length_append, List.length_map]; omega) (fun i σ H' => ∃ v5 v6, σ = [some (.ref wl), some (.ref b), some (.ref L), some (.ref pc), none, v5, v6] ∧ Same H H' ∧ H' c = some (.lst (((r.pls.map Pl.words).flatten).map V.str)) ∧ H' L = some (.lst (ah.map V.str)) ∧ H' pc = some (.lst ((r.hd.take i).map Pl.val))) ⟨_, _, rfl, sm3, e3, hd3, p3⟩ ?_ ?_ ?_
  · rintro i σ H' _ ⟨v5, v6, rfl, sm, q1, q2, q3⟩
    exact ⟨SqL.of q1, SqL.of q2⟩
  · rintro i x y σ H' t hx hy ht ⟨v5, v6, rfl, sm, q1, q2, q3⟩
    have S4 := same_new ht (.tup [x, y])
    have hi : i < ah.length := by have := (List.getElem?_eq_some_iff.mp hy).1; simpa using this
    have hi2 : i < r.hd.length := by omega
    obtain ⟨z, hz⟩ : ∃ z, r.hd[i]? = some z := ⟨_, List.getElem?_eq_getElem hi2⟩
    obtain rfl : x = .str z.text := by
      rw [hws, List.map_append, List.getElem?_append_left (by simp; omega), List.getElem?_map, List.getElem?_map, hz] at hx
      exact (Option.some.inj hx).symm
    have et : (r.hd.take (i + 1)).map Pl.val = (r.hd.take i).map Pl.val ++ [z.val] := by rw [List.take_succ, hz, List.map_append]; rfl
    have zok := hok2 z (by rw [pls_split]; exact List.mem_append_left _ (List.mem_of_getElem? hz))
    have p4 := S4 _ _ q3
    have c4 := S4 _ _ q1
    have L4 := S4 _ _ q2
    rcases hd_kind r i z y hz (by rw [hah]; exact hy) with ⟨n, rfl, rfl⟩ | ⟨n, kd, rfl, rfl, nk⟩
    · have zo : 0 ≤ n ∧ n < nm := zok
      (with_reducible refine' go_gtup ?hp ?ha ?_); (case hp => walk_at "lw_hp"); (case ha => first | rfl | assumption)
      with_reducible refine go_gcons (go_gname (go_gcons (go_gname (go_gnil ?_))))
      with_reducible refine go_drop (go_bm (go_var rfl ?_))
      (with_reducible refine' go_qbm ?hp ?_); (case hp => walk_at "lw_hp")
      with_reducible refine go_cons (go_if (go_test (go_op (go_var rfl ?_))))
      with_reducible refine go_c (go_eqS (go_qb (go_iteDT (by first | assumption | rfl | omega | (simp only [List.length_cons, List.length_nil, List.length_map]; omega)) (go_callC ?_))))
      with_reducible refine go_cons (go_var rfl (go_nil ?_))
      refine ⟨_, rfl, .inl ⟨numT n, n, rfl, num_t zo.1 (by omega), ?_⟩⟩
      with_reducible refine go_nil ?_
      refine go_append p4 (small_line (by simp; omega)) ?_
      exact ⟨_, _, rfl, same_upd fpc (sm.trans S4), upd_oth npc.symm c4, upd_oth npL.symm L4, by rw [upd_same, et]; rfl⟩
    · have zo : 0 ≤ n ∧ n ≤ 60 := zok
      (with_reducible refine' go_gtup ?hp ?ha ?_); (case hp => walk_at "lw_hp"); (case ha => first | rfl | assumption)
      with_reducible refine go_gcons (go_gname (go_gcons (go_gname (go_gnil ?_))))
      with_reducible refine go_drop (go_bm (go_var rfl ?_))
      (with_reducible refine' go_qbm ?hp ?_); (case hp => walk_at "lw_hp")
      with_reducible refine go_cons (go_if (go_test (go_op (go_var rfl ?_))))
      with_reducible refine go_c (go_eqS (go_qb (go_iteDF (by first | assumption | omega | decide | decide +kernel | (simp only [List.length_cons, List.length_nil, List.length_map]; omega)) (go_callC ?_))))
      with_reducible refine go_cons (go_var rfl (go_nil ?_))
      refine ⟨_, n, rfl, num_t zo.1 (by omega), ?_⟩
      with_reducible refine go_nil ?_
      refine go_append p4 (small_line (by simp; omega)) ?_
      exact ⟨_, _, rfl, same_upd fpc (sm.trans S4), upd_oth npc.symm c4, upd_oth npL.symm L4, by rw [upd_same, et]; rfl⟩
  · rintro σ H' ⟨v5, v6, rfl, sm, q1, q2, q3⟩
    rw [List.length_map, kh, List.take_length] at q3
    have hw7 := sm _ _ hw'
    with_reducible refine go_seq (go_asg (go_callC (go_cons (go_sl ?_))))
    with_reducible refine go_var rfl (go_part (go_op (go_c (go_cb ?_))))
    with_reducible refine go_cons (go_var rfl (go_nil ?_))
    (with_reducible refine' go_lenL ?hp ?_); (case hp => walk_at "lw_hp")
    with_reducible refine go_i0 (go_qI (go_nopart ?_))
    refine go_slL hw7 (fun e he => ?_)
    have hdrop : cutV (V.str r.kinds.1 :: ((r.pls.map Pl.words).flatten).map V.str) (some (1 + ((ah.map V.str).length : Int))) none = (((r.ps.map pToks).flatten).map Tk.str).map V.str := by
      rw [cut_from (by omega), toks_words, hws, List.length_map, show (1 + (ah.length : Int)).toNat = r.hd.length + 1 by omega, List.drop_succ_cons, List.map_append, List.drop_append_of_le_length (by simp)]
      simp
    rw [hdrop]
    have S8 := same_new he (.lst ((((r.ps.map pToks).flatten).map Tk.str).map V.str))
    have e8 : upd H' e (.lst ((((r.ps.map pToks).flatten).map Tk.str).map V.str)) e = some (.lst ((((r.ps.map pToks).flatten).map Tk.str).map V.str)) := upd_same
    have sm8 := sm.trans S8
    have p8 := S8 _ _ q3
    have w8 := S8 _ _ hw7
    generalize upd H' e (.lst ((((r.ps.map pToks).flatten).map Tk.str).map V.str)) = H8 at *
    with_reducible refine go_nil ?_
    refine ⟨e, (r.ps.map pToks).flatten, r.ps, rfl, e8, ?_, ?_, ?_, fun l us H9 S9 fl9 hl9 hps => ?_⟩
    · intro t ht
      obtain ⟨l, hl, ht'⟩ := List.mem_flatten.mp ht
      obtain ⟨q, hq', rfl⟩ := List.mem_map.mp hl
      exact (pToks_ok h8 ((row_parts hok).1 q hq')).1 t ht'
    · have h1 := flat_len (ps := r.ps) (fun q hq' => by have := (pToks_ok h8 ((row_parts hok).1 q hq')).2; omega)
      have := (row_parts hok).2
      omega
    · have := run_list r.ps [] []
      rw [List.append_nil, List.append_nil] at this
      exact this
    have p9 := S9 _ _ p8
    have w9 := S9 _ _ w8
    have lps := hps.length
    with_reducible refine go_gname (go_seq (go_ifS (go_or (go_test ?_))))
    with_reducible refine go_op (go_var rfl (go_c (go_isN_ref (go_qb ?_))))
    with_reducible refine go_iteF (go_or (go_test (go_op (go_c ?_))))
    with_reducible refine go_var rfl ?_
    refine ⟨pc, _, rfl, .inl (SqL.of p9), rfl, (val_flat r).1, ?_⟩
    rw [(val_flat r).2]
    have l1 : (r.hd.map Pl.val).length = r.hd.length := List.length_map _
    have l2 : (r.kinds.2.map V.str).length = r.kinds.2.length := List.length_map _
    with_reducible refine go_qb (go_iteBF (by first | assumption | decide +kernel) (go_test (go_op (go_op ?_))))
    with_reducible refine go_cb (go_cons (go_var rfl (go_nil ?_)))
    (with_reducible refine' go_lenL ?hp ?_); (case hp => walk_at "lw_hp")
    with_reducible refine go_cb (go_cons (go_var rfl (go_nil ?_)))
    (with_reducible refine' go_lenL ?hp ?_); (case hp => walk_at "lw_hp")
    with_reducible refine go_i0 (go_cb (go_cons (go_var rfl (go_nil ?_))))
    refine ⟨b, _, rfl, .inr (hq _), ?_⟩
    with_reducible refine go_neI (go_qb (go_iteNT (by first | assumption | rfl | omega | (simp only [List.length_cons, List.length_nil, List.length_map]; omega)) (go_next (go_ret ?_))))
    with_reducible refine go_tup (go_cons (go_op (go_var rfl (go_c ?_))))
    (with_reducible refine' go_ixL ?hp ?ha ?_); (case hp => walk_at "lw_hp"); (case ha => first | rfl | assumption)
    with_reducible refine go_star (go_var rfl ?_)
    refine go_qstar p9 ?_
    with_reducible refine go_star (go_var rfl ?_)
    refine go_qstar hl9 ?_
    with_reducible refine go_nil ?_
    refine go_qtup (small_le (by have h3 := (kinds_len r).1; rw [List.length_cons, List.length_append, List.length_append, l1]; simp only [List.length_nil]; omega)) (fun tt htt => ?_)
    rw [List.append_nil]
    have S10 := same_new htt (.tup (.str r.kinds.1 :: (r.hd.map Pl.val ++ us)))
    exact k _ _ ((sm8.trans S9).trans S10) ⟨tt, _, rfl, upd_same, row_back (hps.mono S10.tk)⟩
end
end Lw
set_option Elab.async false
set_option linter.all false
set_option maxRecDepth 100000
set_option maxHeartbeats 4000000
namespace Lw
open PySem L2 TL
local macro_rules | `(tactic| walk_at "lw_hp") => `(tactic| (repeat (first | assumption | exact upd_same | (refine' upd_new (by assumption) ?_) | (refine' tup_off (by assumption) (by assumption) ?_) | (refine' lst_off (by assumption) (by assumption) (by assumption) ?_) | (refine' Same.get (by assumption) ?_) | (refine' Off.get (by assumption) (by assumption) ?_) | (refine' upd_oth (by assumption) ?_))))
abbrev s_read_head : Stmt := top 29
def headW (p : Prog) : List Str := ["work", numT p.nm, numT p.fl]
def spRHead : Sp := fun vs H Q _ => ∃ (wl : Addr) (p : Prog), vs = [.ref wl] ∧ H wl = some (.lst ((headW p).map V.str)) ∧ p.Ok ∧ ∀ a H', Same H H' → H' a = some (.tup [.int p.nm, .int p.fl]) → Q (.ref a) H'
section
variable {P : Program} {w : World} {K : PySem.W.Frag} {mg : Str → Option Value} {base : Heap} {f : Addr} {fd : FuncData}
theorem scs_read_head : FnScope ["words", "names", "files"] ["words"] (defScope s_read_head) := ⟨rfl, rfl, rfl, by decide +kernel, rfl, by decide +kernel, by decide +kernel⟩
theorem ok_rhead (F : Fun K "read_head" "read_head" s_read_head f fd) (T : Txt mg) (C_read_number : FnC P w K mg base 1 "read_number" ["word"] spRNum) : FnOk P w K mg base CX0 2 f fd ["words"] spRHead := by
  refine F.ok scs_read_head (fun vs H Q E h => ?_) (fun cdv A outer s H vs Q E hr h => ?_)
  · obtain ⟨wl, p, rfl, _⟩ := h
    rfl
  obtain ⟨wl, p, rfl, hw, hok, k⟩ := h
  have nd := scs_read_head.nd
  have hu := hu_of hr
  have hw' : H wl = some (.lst [.str "work", .str (numT p.nm), .str (numT p.fl)]) := hw
  refine ⟨_, (pss_cons (ps_if (PW.pt (pw_or (pt_cmpR op_ne (pe_callB (kLen K) (by rfl) T.n_len (by decide +kernel) (pa_cons (pv 0) pa_nil)) pe_int (nomark _)) (pw_or1 (pt_cmpR op_ne (pe_ix (kIxL K) (pv 0) pe_int (fun _ _ => rfl)) pe_str (nomark _))))) (pss_one (ps_ret pe_non)) pss_nil)
      (pss_cons (ps_set (i := 1) nd rfl (Or.inl rfl) (pe_callC C_read_number (hr.mono (by omega)) (by rfl) (pa_cons (pe_ix (kIxL K) (pv 0) pe_int (fun _ _ => rfl)) pa_nil)))
      (pss_cons (ps_set (i := 2) nd rfl (Or.inl rfl) (pe_callC C_read_number (hr.mono (by omega)) (by rfl) (pa_cons (pe_ix (kIxL K) (pv 0) pe_int (fun _ _ => rfl)) pa_nil)))
      (pss_cons (ps_if (PW.pt (pw_or (pt_cmpR o_isN (pv 1) pe_non (nomark _)) (pw_or1 (pt_cmpR o_isN (pv 2) pe_non (nomark _))))) (pss_one (ps_ret pe_non)) pss_nil)
      (pss_one (ps_ret (pe_tup (pa_cons (pv 1) (pa_cons (pv 2) pa_nil))))))))), ?_⟩
  with_reducible refine go_seq (go_ifS (go_or (go_test (go_op ?_))))
  with_reducible refine go_cb (go_cons (go_var rfl (go_nil ?_)))
  (with_reducible refine' go_lenL ?hp ?_); (case hp => walk_at "lw_hp")
  with_reducible refine go_c (go_neI (go_qb (go_iteNT (by first | assumption | rfl | omega | (simp only [List.length_cons, List.length_nil, List.length_map]; omega)) (go_test ?_))))
  with_reducible refine go_op (go_op (go_var rfl (go_c ?_)))
  (with_reducible refine' go_ixL ?hp ?ha ?_); (case hp => walk_at "lw_hp"); (case ha => first | rfl | assumption)
  with_reducible refine go_c (go_neS (go_qb (go_iteNT (by first | assumption | rfl | omega | (simp only [List.length_cons, List.length_nil, List.length_map]; omega)) (go_next ?_))))
  with_reducible refine go_seq (go_asg (go_callC (go_cons (go_op ?_))))
  with_reducible refine go_var rfl (go_c ?_)
  (with_reducible refine' go_ixL ?hp ?ha ?_); (case hp => walk_at "lw_hp"); (case ha => first | rfl | assumption)
  with_reducible refine go_nil ?_
  refine ⟨_, p.nm, rfl, num_t (by have := hok.n1; omega) (by have := hok.n2; omega), ?_⟩
  with_reducible refine go_gname (go_seq (go_asg (go_callC (go_cons ?_))))
  with_reducible refine go_op (go_var rfl (go_c ?_))
  (with_reducible refine' go_ixL ?hp ?ha ?_); (case hp => walk_at "lw_hp"); (case ha => first | rfl | assumption)
  with_reducible refine go_nil ?_
  refine ⟨_, p.fl, rfl, num_t (by have := hok.f1; omega) (by have := hok.f2; omega), ?_⟩
  with_reducible refine go_gname (go_seq (go_ifS (go_or (go_test ?_))))
  with_reducible refine go_op (go_var rfl (go_c (go_isN_int (go_qb ?_))))
  with_reducible refine go_iteF (go_test (go_op (go_var rfl (go_c ?_))))
  with_reducible refine go_isN_int (go_qb (go_iteF (go_next (go_ret ?_))))
  with_reducible refine go_tup (go_cons (go_var rfl (go_cons (go_var rfl ?_))))
  with_reducible refine go_nil ?_
  refine go_qtup (Nat.le_of_ble_eq_true rfl) (fun t ht => ?_)
  exact k _ _ (same_new ht _) upd_same
end
end Lw
set_option Elab.async false
set_option linter.all false
set_option maxRecDepth 100000
set_option maxHeartbeats 4000000
namespace Lw
open PySem L2 TL
def Clean (w : Str) : Prop := ∀ c ∈ tl w, 48 ≤ c
theorem Clean.app {a b : Str} (h : Clean a) (h' : Clean b) : Clean (a ++ b) := fun c hc => by
  rw [tl_append] at hc
  exact (List.mem_append.mp hc).elim (h c) (h' c)
theorem clean_num {n : Int} (h0 : 0 ≤ n) (h1 : n ≤ 10006) : Clean (numT n) := fun c hc => ((num_t h0 h1).all c hc).1
theorem clean_n : Clean "n" := fun c hc => by rw [tl_n] at hc; cases List.mem_singleton.mp hc; decide
theorem clean_op (o : Op3) : Clean o.str := by
  have h : ∀ o : Op3, (o.str.cps.all fun c => decide (48 ≤ c)) = true := fun o => by cases o <;> decide +kernel
  intro c hc
  have := Array.all_eq_true_iff_forall_mem.mp (h o) c (by simpa using hc)
  simpa using this
theorem clean_word (r : Row) : Clean r.kinds.1 := by
  have h : (kindsOf.all fun p => p.1.cps.all fun c => decide (48 ≤ c)) = true := by decide +kernel
  intro c hc
  have h1 := List.all_eq_true.mp h _ (List.mem_of_getElem? r.kinds_at)
  have := Array.all_eq_true_iff_forall_mem.mp h1 c (by simpa using hc)
  simpa using this
theorem clean_part {nm : Int} (hn : nm ≤ 8) : ∀ {d : Nat} {p : Part}, p.ok nm d → ∀ w ∈ pWords p, Clean w
  | 0, _, h, _, _ => h.elim
  | d + 1, .num n, h, w, hw => by cases List.mem_singleton.mp hw; exact clean_num h.1 h.2
  | d + 1, .name k, h, w, hw => by
    have h' : 0 ≤ k ∧ k < nm := h
    cases List.mem_singleton.mp hw
    exact clean_n.app (clean_num h'.1 (by omega))
  | d + 1, .op o a b, h, w, hw => by
    rcases List.mem_cons.mp hw with rfl | hw
    · exact clean_op o
    · rcases List.mem_append.mp hw with h1 | h1
      · exact clean_part hn (d := d) h.1 w h1
      · exact clean_part hn (d := d) h.2 w h1
theorem clean_pl {nm : Int} (hn : nm ≤ 8) : ∀ {x : Pl}, x.ok nm → ∀ w ∈ x.words, Clean w
  | .name n, h, w, hw => by
    have h' : 0 ≤ n ∧ n < nm := h
    cases List.mem_singleton.mp hw
    exact clean_n.app (clean_num h'.1 (by omega))
  | .numb n, h, w, hw => by
    have h' : 0 ≤ n ∧ n ≤ 60 := h
    cases List.mem_singleton.mp hw
    exact clean_num h'.1 (by omega)
  | .part p, h, w, hw => clean_part hn h w hw
theorem clean_row {nm fl many : Int} (hn : nm ≤ 8) (hf : fl ≤ 4) (hm : many ≤ 60) {r : Row} (ok : r.ok nm fl many) : ∀ w ∈ rowW r, Clean w := fun w hw => by
  rcases List.mem_cons.mp hw with rfl | hw
  · exact clean_word r
  · obtain ⟨l, hl, hw⟩ := List.mem_flatten.mp hw
    obtain ⟨x, hx, rfl⟩ := List.mem_map.mp hl
    exact clean_pl hn (pls_ok hf hm ok x hx) w hw
theorem split_words {ws : List Str} (hne : ws ≠ []) (h : ∀ w ∈ ws, Clean w) : Txt.split (joinW ws) sp1 = ws := by
  unfold joinW
  refine split_join (s := 32) (S := []) (by decide +kernel) (by decide +kernel) hne fun w hw hc => ?_
  have := h w hw 32 hc
  omega
theorem joinW_free {c : Nat} (h1 : c ≠ 32) (h2 : c < 48) : ∀ {ws : List Str}, (∀ w ∈ ws, Clean w) → c ∉ tl (joinW ws)
  | [], _, hc => by
    have : tl (joinW []) = [] := by unfold joinW; rw [join_eq]; rfl
    rw [this] at hc; cases hc
  | [x], h, hc => by rw [joinW_one] at hc; have := h x List.mem_cons_self c hc; omega
  | x :: y :: ws, h, hc => by
    rw [joinW_cons (by simp), tl_append, tl_append] at hc
    have hsp : tl sp1 = [32] := by decide +kernel
    rcases List.mem_append.mp hc with h3 | h3
    · rcases List.mem_append.mp h3 with h4 | h4
      · have := h x List.mem_cons_self c h4; omega
      · rw [hsp] at h4; cases List.mem_singleton.mp h4; exact h1 rfl
    · exact joinW_free h1 h2 (ws := y :: ws) (fun w hw => h w (List.mem_cons_of_mem _ hw)) h3
theorem split_lines {ts : List Str} (hne : ts ≠ []) (h : ∀ t ∈ ts, 10 ∉ tl t) : Txt.split (Txt.join nl1 ts) nl1 = ts := split_join (s := 10) (S := []) (by decide +kernel) (by decide +kernel) hne h
theorem headT_w (p : Prog) : headT p = joinW (headW p) := by
  have e : ("work " : Str) = "work" ++ sp1 := ext_tl (by rw [tl_append]; decide +kernel)
  unfold headT headW
  rw [joinW_cons (by simp), joinW_cons (by simp), joinW_one, e, ← str_assoc, ← str_assoc]
  rfl
end Lw
set_option Elab.async false
set_option linter.all false
set_option maxRecDepth 100000
set_option maxHeartbeats 4000000
namespace Lw
open PySem L2 TL
local macro_rules | `(tactic| walk_at "lw_hp") => `(tactic| (repeat (first | assumption | exact upd_same | (refine' upd_new (by assumption) ?_) | (refine' tup_off (by assumption) (by assumption) ?_) | (refine' lst_off (by assumption) (by assumption) (by assumption) ?_) | (refine' Same.get (by assumption) ?_) | (refine' Off.get (by assumption) (by assumption) ?_) | (refine' upd_oth (by assumption) ?_))))
theorem join_cons (sp : Str) {x : Str} {ws : List Str} (h : ws ≠ []) : Txt.join sp (x :: ws) = x ++ sp ++ Txt.join sp ws := by
  rw [join_eq, join_eq]
  cases ws with
  | nil => exact absurd rfl h
  | cons y ys => rfl
theorem join_len (sp : Str) : ∀ ts : List Str, (Txt.join sp ts).length ≤ (ts.map (·.length)).sum + ts.length * sp.length
  | [] => by rw [join_eq]; exact Nat.zero_le _
  | [x] => by
    rw [join_eq]
    show x.length ≤ _
    simp
  | x :: y :: ts => by
    have := join_len sp (y :: ts)
    rw [join_cons sp (by simp), len_app, len_app, List.map_cons, List.sum_cons, List.length_cons, Nat.succ_mul]
    omega
theorem at_end {us : List V} {v : V} : atI (us ++ [v]) (-1) = some v := by
  have h : ixN (us ++ [v]).length (-1) = some us.length := by unfold ixN; simp; omega
  unfold atI
  rw [h]
  simp
theorem clean_work : Clean "work" := fun c hc => by
  have h : (("work" : Str).cps.all fun c => decide (48 ≤ c)) = true := by decide +kernel
  have := Array.all_eq_true_iff_forall_mem.mp h c (by simpa using hc)
  simpa using this
theorem headW_clean {p : Prog} (hok : p.Ok) : ∀ w ∈ headW p, Clean w := fun w hw => by
  rcases List.mem_cons.mp hw with rfl | hw
  · exact clean_work
  rcases List.mem_cons.mp hw with rfl | hw
  · exact clean_num (by have := hok.n1; omega) (by have := hok.n2; omega)
  cases List.mem_singleton.mp hw
  exact clean_num (by have := hok.f1; omega) (by have := hok.f2; omega)
theorem headT_len {p : Prog} (hok : p.Ok) : (headT p).length ≤ 20 := by
  have l1 := (num_t (n := p.nm) (by have := hok.n1; omega) (by have := hok.n2; omega)).len
  have l2 := (num_t (n := p.fl) (by have := hok.f1; omega) (by have := hok.f2; omega)).len
  have lw : (Str.ofString "work ").length = 5 := by decide
  have ls : (Str.ofString " ").length = 1 := sp_len
  show (Str.ofString "work " ++ numT p.nm ++ Str.ofString " " ++ numT p.fl : Str).length ≤ 20
  rw [len_app, len_app, len_app]; omega
def lines (p : Prog) : List Str := headT p :: p.rows.map rowT
theorem lines_sum {p : Prog} (hok : p.Ok) : ((lines p).map (·.length)).sum + (lines p).length * nl1.length ≤ 40000 := by
  have hs := sum_le (l := p.rows.map rowT) (c := 600) (fun x hx => by
    obtain ⟨y, hy, rfl⟩ := List.mem_map.mp hx
    exact rowT_len hok.n2 hok.f2 (by have := hok.ln; omega) (hok.rw y hy))
  have hh := headT_len hok
  have hln := hok.ln
  have ln : nl1.length = 1 := by decide
  rw [List.length_map] at hs
  unfold lines
  rw [List.map_cons, List.sum_cons, List.length_cons, List.length_map, ln]
  omega
theorem progT_len {p : Prog} (hok : p.Ok) : (progT p).length ≤ 40000 := Nat.le_trans (join_len _ _) (lines_sum hok)
theorem lines_split {p : Prog} (hok : p.Ok) : Txt.split (progT p) nl1 = lines p := by
  refine split_lines (by simp) (fun t ht => ?_)
  rcases List.mem_cons.mp ht with rfl | ht
  · rw [headT_w]
    exact joinW_free (by decide) (by decide) (headW_clean hok)
  · obtain ⟨r, hr, rfl⟩ := List.mem_map.mp ht
    rw [rowT_w]
    exact joinW_free (by decide) (by decide) (clean_row hok.n2 hok.f2 (by have := hok.ln; omega) (hok.rw r hr))
inductive FAt (H : Hp) (p : Prog) : Nat → List V → Prop
  | none : FAt H p 0 []
  | some {a : Addr} {j : Nat} {rs : List V} : H a = some (.tup [.int p.nm, .int p.fl]) → RowsAt H (p.rows.take j) rs → FAt H p (j + 1) (.ref a :: rs)
theorem FAt.tk {H H' : Hp} {p : Prog} {i : Nat} {fs : List V} (h : FAt H p i fs) (t : TK H H') : FAt H' p i fs := by
  cases h with
  | none => exact .none
  | some a b => exact .some (t.get a) (b.mono t)
theorem FAt.le {H : Hp} {p : Prog} {i : Nat} {fs : List V} (h : FAt H p i fs) : fs.length ≤ p.rows.length + 1 := by
  cases h with
  | none => exact Nat.zero_le _
  | some a b => have := b.length; rw [List.length_take] at this; simp; omega
abbrev s_read : Stmt := top 30
def spRead : Sp := fun vs H Q _ => ∃ p : Prog, vs = [.str (progT p)] ∧ p.Ok ∧ ∀ v H', Same H H' → ProgAt H' p v → Q v H'
section
variable {P : Program} {w : World} {K : PySem.W.Frag} {mg : Str → Option Value} {base : Heap} {f : Addr} {fd : FuncData}
theorem scs_read : FnScope ["text", "found", "program", "number", "line", "words", "names", "files"] ["text"] (defScope s_read) := ⟨rfl, rfl, rfl, by decide +kernel, rfl, by decide +kernel, by decide +kernel⟩
theorem ok_read (F : Fun K "read" "read" s_read f fd) (T : Txt mg) (C_check_program : FnC P w K mg base 8 "check_program" ["program"] spCkProg) (C_read_head : FnC P w K mg base 2 "read_head" ["words"] spRHead) (C_read_row : FnC P w K mg base 5 "read_row" ["words"] spRRow) : FnOk P w K mg base CX0 9 f fd ["text"] spRead := by
  refine F.ok scs_read (fun vs H Q E h => ?_) (fun cdv A outer s H vs Q E hr h => ?_)
  · obtain ⟨p, rfl, _⟩ := h
    rfl
  obtain ⟨p, rfl, hok, k⟩ := h
  have nd := scs_read.nd
  have hu := hu_of hr
  refine ⟨_, (pss_cons (ps_if (pt_not (pt_val (pe_callB (kIsinst K) (by rfl) T.n_isinstance (by decide +kernel) (pa_cons (pv 0) (pa_cons (pe_bltn (v := .ty "str") (by rfl) T.n_str (by decide +kernel) rfl) pa_nil))))) (pss_one ps_never) pss_nil)
      (pss_cons (ps_set (i := 1) nd rfl (Or.inl rfl) (pe_lst pa_nil))
      (pss_cons (ps_for PassesOwn.never rfl (pi_enum (by rfl) T.n_enumerate (pa_cons (kSplit (pv 0) pe_str) pa_nil)) (kPgT K (by rfl) (pgs_cons (pg_name (i := 3) nd rfl (Or.inl rfl)) (pgs_cons (pg_name (i := 4) nd rfl (Or.inl rfl)) pgs_nil))) (pss_cons (ps_set (i := 5) nd rfl (Or.inl rfl) (kSplit (pv 4) pe_str))
      (pss_cons (ps_expr (pe_bm PySem.F.plainAttrs_list PySem.F.slot_list_append PySem.F.type_list_append mt_append (pv 1) (pa_cons (pe_ifExp (pt_cmpR op_eq (pv 3) pe_int (nomark _)) (pe_callC C_read_head (hr.mono (by omega)) (by rfl) (pa_cons (pv 5) pa_nil)) (pe_callC C_read_row (hr.mono (by omega)) (by rfl) (pa_cons (pv 5) pa_nil))) pa_nil)))
      (pss_one (ps_if (pt_cmpR o_isN (pe_ix (kIxL K) (pv 1) (pe_un un_neg pe_int) (fun _ _ => rfl)) pe_non (nomark _)) (pss_one ps_never) pss_nil)))))
      (pss_cons (ps_asg (pe_ix (kIxL K) (pv 1) pe_int (fun _ _ => rfl)) (kPgT K (by rfl) (pgs_cons (pg_name (i := 6) nd rfl (Or.inl rfl)) (pgs_cons (pg_name (i := 7) nd rfl (Or.inl rfl)) pgs_nil))))
      (pss_cons (ps_set (i := 2) nd rfl (Or.inl rfl) (pe_tup (pa_cons (pv 6) (pa_cons (pv 7) (pa_cons (pe_callTy (kTuple K) (by rfl) T.n_tuple (by decide +kernel) (pa_cons (pe_slice (kSlL K) (pv 1) (po_some pe_int) po_none) pa_nil)) pa_nil)))))
      (pss_cons (ps_expr (pe_callC C_check_program (hr.mono (by omega)) (by rfl) (pa_cons (pv 2) pa_nil)))
      (pss_one (ps_ret (pv 2))))))))), ?_⟩
  with_reducible refine go_seq (go_ifS (go_not (go_testB (go_cb ?_))))
  with_reducible refine go_cons (go_var rfl (go_cons (go_c (go_nil ?_))))
  with_reducible refine go_is_str_str (go_qb (go_iteNt (go_next (go_seq ?_))))
  with_reducible refine go_asg (go_lst (go_nil ?_))
  refine go_qlst (Nat.le_of_ble_eq_true rfl) (fun fl hfl => ?_)
  have S1 := same_new hfl (.lst [])
  have e1 : upd H fl (.lst []) fl = some (.lst []) := upd_same
  generalize upd H fl (.lst []) = H1 at *
  with_reducible refine go_gname (go_seq (go_for (go_enum (go_cons ?_))))
  with_reducible refine go_m1 (go_var rfl (go_qm1 (go_c ?_)))
  refine go_split (by decide) (line_le (by have := progT_len hok; omega)) (fun ll hll => ?_)
  have es : (Txt.split (progT p) (Str.ofString "\n")).map V.str = (lines p).map V.str := congrArg _ (lines_split hok)
  rw [es]
  have S2 := same_new hll (.lst ((lines p).map V.str))
  have e2 := S2 _ _ e1
  have l2 : upd H1 ll (.lst ((lines p).map V.str)) ll = some (.lst ((lines p).map V.str)) := upd_same
  have nfl : fl ≠ ll := ne_of_none e1 hll
  have sm2 := S1.trans S2
  generalize upd H1 ll (.lst ((lines p).map V.str)) = H2 at *
  with_reducible refine go_nil ?_
  (with_reducible refine' go_qenum ?hp ?_); (case hp => walk_at "lw_hp")
  have hln := hok.ln
  refine fq_enum ((lines p).map V.str) (fun i σ H' => ∃ v3 v4 v5 fs, σ = [some (.str (progT p)), some (.ref fl), none, v3, v4, v5, none, none] ∧ Same H H' ∧ H' ll = some (.lst ((lines p).map V.str)) ∧ H' fl = some (.lst fs) ∧ FAt H' p i fs) ⟨_, _, _, _, rfl, sm2, l2, e2, .none⟩ ?_ ?_ ?_
  · rintro i σ H' _ ⟨v3, v4, v5, fs, rfl, sm, q1, q2, q3⟩
    exact SqL.of q1
  · rintro i x σ H' t hx ht ⟨v3, v4, v5, fs, rfl, sm, q1, q2, q3⟩
    have S4 := same_new ht (.tup [.int (i : Nat), x])
    have le := q3.le
    cases q3 with
    | none =>
      cases hx
      (with_reducible refine' go_gtup ?hp ?ha ?_); (case hp => walk_at "lw_hp"); (case ha => first | rfl | assumption)
      with_reducible refine go_gcons (go_gname (go_gcons (go_gname (go_gnil ?_))))
      with_reducible refine go_seq (go_asg (go_m1 (go_var rfl (go_qm1 ?_))))
      with_reducible refine go_c ?_
      have ew : (Txt.split (headT p) (Str.ofString " ")).map V.str = (headW p).map V.str := by rw [headT_w]; exact congrArg _ (split_words (by unfold headW; simp) (headW_clean hok))
      refine go_split (by decide) (line_le (by have := headT_len hok; omega)) (fun wl hwl => ?_)
      rw [ew]
      have S5 := same_new hwl (.lst ((headW p).map V.str))
      have w5 : upd (upd H' t (.tup [.int ((0 : Nat) : Int), .str (headT p)])) wl (.lst ((headW p).map V.str)) wl = some (.lst ((headW p).map V.str)) := upd_same
      have S45 := S4.trans S5
      clear S4 S5
      generalize upd (upd H' t (.tup [.int ((0 : Nat) : Int), .str (headT p)])) wl (.lst ((headW p).map V.str)) = H5 at *
      have q5 := S45 _ _ q2
      have l5 := S45 _ _ q1
      with_reducible refine go_gname (go_seq (go_drop (go_bm (go_var rfl ?_))))
      (with_reducible refine' go_qbm ?hp ?_); (case hp => walk_at "lw_hp")
      with_reducible refine go_cons (go_if (go_test (go_op (go_var rfl ?_))))
      with_reducible refine go_c (go_eqI (go_qb (go_iteDT (by first | assumption | rfl | omega | (simp only [List.length_cons, List.length_nil, List.length_map]; omega)) (go_callC ?_))))
      with_reducible refine go_cons (go_var rfl (go_nil ?_))
      refine ⟨wl, p, rfl, w5, hok, fun a H6 S6 h6 => ?_⟩
      have q6 := S6 _ _ q5
      have l6 := S6 _ _ l5
      with_reducible refine go_nil ?_
      refine go_append q6 (small_line (by simp)) ?_
      have q7 : upd H6 fl (.lst ([] ++ [.ref a])) fl = some (.lst ([] ++ [.ref a])) := upd_same
      have ix : atI ([] ++ [V.ref a]) (-1) = some (.ref a) := at_end
      have t7 : TK H6 (upd H6 fl (.lst ([] ++ [.ref a]))) := .updL q6
      have l7 : upd H6 fl (.lst ([] ++ [.ref a])) ll = some (.lst ((lines p).map V.str)) := upd_oth nfl.symm l6
      have s7 := same_upd (o := .lst ([] ++ [.ref a])) hfl ((sm.trans S45).trans S6)
      generalize upd H6 fl (.lst ([] ++ [.ref a])) = H7 at *
      with_reducible refine go_ifS (go_test (go_op (go_op (go_var rfl ?_))))
      with_reducible refine go_un (go_c (go_u ?_))
      (with_reducible refine' go_ixL ?hp ?ha ?_); (case hp => walk_at "lw_hp"); (case ha => first | rfl | assumption)
      with_reducible refine go_c (go_isN_ref (go_qb (go_iteF (go_next ?_))))
      exact ⟨_, _, _, _, rfl, s7, l7, q7, .some (t7.get h6) .nil⟩
    | @some a j rs ha hrs =>
      obtain ⟨r, hr, rfl⟩ : ∃ r, p.rows[j]? = some r ∧ x = .str (rowT r) := by
        have hx' : ((p.rows.map rowT).map V.str)[j]? = some x := hx
        rw [List.getElem?_map, List.getElem?_map] at hx'
        cases e : p.rows[j]? with
        | none => rw [e] at hx'; cases hx'
        | some r => rw [e] at hx'; exact ⟨r, rfl, (Option.some.inj hx').symm⟩
      (with_reducible refine' go_gtup ?hp ?ha ?_); (case hp => walk_at "lw_hp"); (case ha => first | rfl | assumption)
      with_reducible refine go_gcons (go_gname (go_gcons (go_gname (go_gnil ?_))))
      with_reducible refine go_seq (go_asg (go_m1 (go_var rfl (go_qm1 ?_))))
      with_reducible refine go_c ?_
      have rok := hok.rw r (List.mem_of_getElem? hr)
      have ew : (Txt.split (rowT r) (Str.ofString " ")).map V.str = (rowW r).map V.str := by rw [rowT_w]; exact congrArg _ (split_words (by unfold rowW; simp) (clean_row hok.n2 hok.f2 (by omega) rok))
      refine go_split (by decide) (line_le (by have := rowT_len hok.n2 hok.f2 (by omega) rok; omega)) (fun wl hwl => ?_)
      rw [ew]
      have S5 := same_new hwl (.lst ((rowW r).map V.str))
      have w5 : upd (upd H' t (.tup [.int ((j + 1 : Nat) : Int), .str (rowT r)])) wl (.lst ((rowW r).map V.str)) wl = some (.lst ((rowW r).map V.str)) := upd_same
      have S45 := S4.trans S5
      clear S4 S5
      generalize upd (upd H' t (.tup [.int ((j + 1 : Nat) : Int), .str (rowT r)])) wl (.lst ((rowW r).map V.str)) = H5 at *
      have q5 := S45 _ _ q2
      have l5 := S45 _ _ q1
      with_reducible refine go_gname (go_seq (go_drop (go_bm (go_var rfl ?_))))
      (with_reducible refine' go_qbm ?hp ?_); (case hp => walk_at "lw_hp")
      with_reducible refine go_cons (go_if (go_test (go_op (go_var rfl ?_))))
      with_reducible refine go_c (go_eqI (go_qb (go_iteDF (by first | assumption | omega | decide | decide +kernel | (simp only [List.length_cons, List.length_nil, List.length_map]; omega)) (go_callC ?_))))
      with_reducible refine go_cons (go_var rfl (go_nil ?_))
      refine ⟨wl, r, _, _, _, rfl, w5, rok, hok.n2, hok.f2, by omega, fun v H6 S6 h6 => ?_⟩
      have q6 := S6 _ _ q5
      have l6 := S6 _ _ l5
      have t6 := (S45.trans S6).tk
      obtain ⟨b, xs, rfl, hb, hxs⟩ := h6
      with_reducible refine go_nil ?_
      refine go_append q6 (small_line (by omega)) ?_
      have q7 : upd H6 fl (.lst (.ref a :: rs ++ [.ref b])) fl = some (.lst (.ref a :: rs ++ [.ref b])) := upd_same
      have ix : atI (V.ref a :: rs ++ [V.ref b]) (-1) = some (.ref b) := at_end
      have t7 : TK H6 (upd H6 fl (.lst (.ref a :: rs ++ [.ref b]))) := .updL q6
      have l7 : upd H6 fl (.lst (.ref a :: rs ++ [.ref b])) ll = some (.lst ((lines p).map V.str)) := upd_oth nfl.symm l6
      have s7 := same_upd (o := .lst (.ref a :: rs ++ [.ref b])) hfl ((sm.trans S45).trans S6)
      generalize upd H6 fl (.lst (.ref a :: rs ++ [.ref b])) = H7 at *
      have hrs7 := (hrs.mono (t6.trans t7)).snoc (RowAt.mono t7 ⟨b, xs, rfl, hb, hxs⟩)
      rw [← take_snoc hr] at hrs7
      with_reducible refine go_ifS (go_test (go_op (go_op (go_var rfl ?_))))
      with_reducible refine go_un (go_c (go_u ?_))
      (with_reducible refine' go_ixL ?hp ?ha ?_); (case hp => walk_at "lw_hp"); (case ha => first | rfl | assumption)
      with_reducible refine go_c (go_isN_ref (go_qb (go_iteF (go_next ?_))))
      exact ⟨_, _, _, _, rfl, s7, l7, q7, .some ((t6.trans t7).get ha) hrs7⟩
  · rintro σ H' ⟨v3, v4, v5, fs, rfl, sm, q1, q2, q3⟩
    have el : ((lines p).map V.str).length = p.rows.length + 1 := by unfold lines; simp
    rw [el] at q3
    cases q3 with
    | @some a j rs ha hrs =>
    rw [List.take_length] at hrs
    have ix : atI (V.ref a :: rs) 0 = some (.ref a) := by show atI (_ :: _) ((0 : Nat) : Int) = _; exact atI_nat rfl
    with_reducible refine go_seq (go_asg (go_op (go_var rfl (go_c ?_))))
    (with_reducible refine' go_ixL ?hp ?ha ?_); (case hp => walk_at "lw_hp"); (case ha => first | rfl | assumption)
    (with_reducible refine' go_gtup ?hp ?ha ?_); (case hp => walk_at "lw_hp"); (case ha => first | rfl | assumption)
    with_reducible refine go_gcons (go_gname (go_gcons (go_gname (go_gnil ?_))))
    with_reducible refine go_seq (go_asg (go_tup (go_cons (go_var rfl ?_))))
    with_reducible refine go_cons (go_var rfl (go_cons (go_cb (go_cons ?_))))
    with_reducible refine go_sl (go_var rfl (go_part (go_c (go_qI ?_))))
    with_reducible refine go_nopart ?_
    refine go_slL q2 (fun c hc => ?_)
    rw [cut_from (by decide), show List.drop (1 : Int).toNat (V.ref a :: rs) = rs from rfl]
    have S5 := same_new hc (.lst rs)
    have c5 : upd H' c (.lst rs) c = some (.lst rs) := upd_same
    have t5 := S5.tk
    have s5 := sm.trans S5
    clear S5
    generalize upd H' c (.lst rs) = H5 at *
    with_reducible refine go_nil ?_
    refine go_tupleL c5 (fun b hb => ?_)
    have S6 := same_new hb (.tup rs)
    have b6 : upd H5 b (.tup rs) b = some (.tup rs) := upd_same
    have r6 := hrs.mono (t5.trans S6.tk)
    have s6 := s5.trans S6
    generalize upd H5 b (.tup rs) = H6 at *
    with_reducible refine go_nil ?_
    refine go_qtup (Nat.le_of_ble_eq_true rfl) (fun pv hpv => ?_)
    have S7 := same_new hpv (.tup [.int p.nm, .int p.fl, .ref b])
    have p7 : ProgAt (upd H6 pv (.tup [.int p.nm, .int p.fl, .ref b])) p (.ref pv) := ⟨pv, b, rs, rfl, upd_same, S7 _ _ b6, r6.mono S7.tk⟩
    have s7 := s6.trans S7
    generalize upd H6 pv (.tup [.int p.nm, .int p.fl, .ref b]) = H7 at *
    with_reducible refine go_gname (go_seq (go_drop (go_callC (go_cons ?_))))
    with_reducible refine go_var rfl (go_nil ?_)
    refine ⟨_, p, rfl, hok, p7, fun H8 S8 => ?_⟩
    with_reducible refine go_ret (go_var rfl ?_)
    exact k _ _ (s7.trans S8) (p7.mono S8.tk)
end
end Lw
set_option Elab.async false
set_option linter.all false
set_option maxRecDepth 100000
set_option maxHeartbeats 4000000
namespace Lw
open PySem L2 TL
local macro_rules | `(tactic| walk_at "lw_hp") => `(tactic| (repeat (first | assumption | exact upd_same | (refine' upd_new (by assumption) ?_) | (refine' tup_off (by assumption) (by assumption) ?_) | (refine' lst_off (by assumption) (by assumption) (by assumption) ?_) | (refine' Same.get (by assumption) ?_) | (refine' Off.get (by assumption) (by assumption) ?_) | (refine' upd_oth (by assumption) ?_))))
theorem pWords_len {nm : Int} (hn : nm ≤ 8) {d : Nat} {p : Part} (h : p.ok nm d) : (pWords p).length + 1 ≤ 2 ^ d := by
  have := (pToks_ok hn h).2
  rwa [← pToks_w, List.length_map]
abbrev s__law_part_words : Stmt := top 38
def spPWs (n : Nat) : Sp := fun vs H Q _ => ∃ (v : V) (p : Part) (nm : Int), vs = [v] ∧ PartAt H p v ∧ p.ok nm n ∧ nm ≤ 8 ∧ n ≤ 3 ∧ ∀ a H', Same H H' → H' a = some (.lst ((pWords p).map V.str)) → Q (.ref a) H'
section
variable {P : Program} {w : World} {K : PySem.W.Frag} {mg : Str → Option Value} {base : Heap} {f : Addr} {fd : FuncData}
theorem scs__law_part_words : FnScope ["_law_part"] ["_law_part"] (defScope s__law_part_words) := ⟨rfl, rfl, rfl, by decide +kernel, rfl, by decide +kernel, by decide +kernel⟩
theorem ok_pws {n : Nat} (F : Fun K "_law_part_words" "_law_part_words" s__law_part_words f fd) (T : Txt mg) (C_law_part_words : FnC P w K mg base (n + 1) "_law_part_words" ["_law_part"] (spPWs n)) : FnOk P w K mg base CX0 (n + 2) f fd ["_law_part"] (spPWs (n + 1)) := by
  refine F.ok scs__law_part_words (fun vs H Q E h => ?_) (fun cdv A outer s H vs Q E hr h => ?_)
  · obtain ⟨v, p, nm, rfl, _⟩ := h
    rfl
  obtain ⟨v, p, nm, rfl, hp, hk, hnm, hn3, k⟩ := h
  have nd := scs__law_part_words.nd
  have hu := hu_of hr
  refine ⟨_, (pss_cons (ps_if (pt_cmpR (kIn K) (pe_ix (kIxT K) (pv 0) pe_int (fun _ _ => rfl)) (pe_tup (pa_cons pe_str (pa_cons pe_str pa_nil))) (by rfl)) (pss_one (ps_ret (pe_lst (pa_cons (pe_op op_add_str (pe_ix (kIxL K) (pe_lst (pa_cons pe_str (pa_cons pe_str pa_nil))) (pe_callTy c_int (by rfl) T.n_int (by decide +kernel) (pa_cons (pe_cmpR op_eq (pe_ix (kIxT K) (pv 0) pe_int (fun _ _ => rfl)) pe_str (nomark _)) pa_nil)) (fun _ _ => rfl)) (pe_callTy cr_strI (by rfl) T.n_str (by decide +kernel) (pa_cons (pe_ix (kIxT K) (pv 0) pe_int (fun _ _ => rfl)) pa_nil))) pa_nil)))) pss_nil)
      (pss_one (ps_ret (pe_op op_cat (pe_op op_cat (pe_lst (pa_cons (pe_ix (kIxT K) (pv 0) pe_int (fun _ _ => rfl)) pa_nil)) (pe_callC C_law_part_words (hr.mono (by omega)) (by rfl) (pa_cons (pe_ix (kIxT K) (pv 0) pe_int (fun _ _ => rfl)) pa_nil))) (pe_callC C_law_part_words (hr.mono (by omega)) (by rfl) (pa_cons (pe_ix (kIxT K) (pv 0) pe_int (fun _ _ => rfl)) pa_nil)))))), ?_⟩
  cases p with
  | num z =>
    obtain ⟨a, rfl, ha⟩ := hp
    have l1 := (num_t (n := z) hk.1 hk.2).len
    have ka : atI [V.str (Str.ofString ""), V.str (Str.ofString "n")] 0 = some (.str (Str.ofString "")) := by show atI _ ((0 : Nat) : Int) = _; exact atI_nat rfl
    with_reducible refine go_seq (go_ifS (go_test (go_op (go_op ?_))))
    with_reducible refine go_var rfl (go_c ?_)
    (with_reducible refine' go_ixT ?hp ?ha ?_); (case hp => walk_at "lw_hp"); (case ha => first | rfl | assumption)
    with_reducible refine go_tup (go_cons (go_c (go_cons (go_c ?_))))
    with_reducible refine go_nil ?_
    refine go_qtup (Nat.le_of_ble_eq_true rfl) (fun t1 ht1 => ?_)
    have S1 := same_new ht1 (.tup [.str "num", .str "name"])
    have e1 : upd H t1 (.tup [.str "num", .str "name"]) t1 = some (.tup [.str "num", .str "name"]) := upd_same
    have a1 := S1 _ _ ha
    generalize upd H t1 (.tup [.str "num", .str "name"]) = H1 at *
    refine go_inT3 e1 rfl rfl ?_
    rw [show inV (.str (Str.ofString "num")) [V.str (Str.ofString "num"), V.str (Str.ofString "name")] = true by decide +kernel]
    with_reducible refine go_qb (go_iteT (go_ret (go_lst (go_cons ?_))))
    with_reducible refine go_op (go_op (go_lst (go_cons (go_c ?_))))
    with_reducible refine go_cons (go_c (go_nil ?_))
    refine go_qlst (Nat.le_of_ble_eq_true rfl) (fun l hl => ?_)
    have S2 := same_new hl (.lst [.str "", .str "n"])
    have e2 : upd H1 l (.lst [.str "", .str "n"]) l = some (.lst [.str "", .str "n"]) := upd_same
    have a2 := S2 _ _ a1
    have s2 := S1.trans S2
    generalize upd H1 l (.lst [.str "", .str "n"]) = H2 at *
    with_reducible refine go_cb (go_cons (go_op (go_op (go_var rfl ?_))))
    with_reducible refine go_c ?_
    (with_reducible refine' go_ixT ?hp ?ha ?_); (case hp => walk_at "lw_hp"); (case ha => first | rfl | assumption)
    with_reducible refine go_c (go_eqS (go_nil (go_intB ?_)))
    (with_reducible refine' go_ixL ?hp ?ha ?_); (case hp => walk_at "lw_hp"); (case ha => first | rfl | assumption)
    with_reducible refine go_cb (go_cons (go_op (go_var rfl (go_c ?_))))
    (with_reducible refine' go_ixT ?hp ?ha ?_); (case hp => walk_at "lw_hp"); (case ha => first | rfl | assumption)
    with_reducible refine go_nil ?_
    refine go_strI (small_log hk.1 (by have := hk.2; omega)) ?_
    refine ⟨_, _, rfl, rfl, line_le (by have : (numT z).length ≤ 5 := l1; show 0 + (numT z).length ≤ _; omega), ?_⟩
    with_reducible refine go_nil ?_
    refine go_qlst (Nat.le_of_ble_eq_true rfl) (fun r hrr => ?_)
    refine k _ _ (s2.trans (same_new hrr _)) ?_
    rw [upd_same]
    show some (HO.lst [V.str (Str.empty ++ numT z)]) = some (HO.lst [V.str (numT z)])
    rw [empty_str]
  | name z =>
    obtain ⟨a, rfl, ha⟩ := hp
    have hz : 0 ≤ z ∧ z < nm := hk
    have l1 := (num_t (n := z) hz.1 (by omega)).len
    have ka : atI [V.str (Str.ofString ""), V.str (Str.ofString "n")] 1 = some (.str (Str.ofString "n")) := by show atI _ ((1 : Nat) : Int) = _; exact atI_nat rfl
    with_reducible refine go_seq (go_ifS (go_test (go_op (go_op ?_))))
    with_reducible refine go_var rfl (go_c ?_)
    (with_reducible refine' go_ixT ?hp ?ha ?_); (case hp => walk_at "lw_hp"); (case ha => first | rfl | assumption)
    with_reducible refine go_tup (go_cons (go_c (go_cons (go_c ?_))))
    with_reducible refine go_nil ?_
    refine go_qtup (Nat.le_of_ble_eq_true rfl) (fun t1 ht1 => ?_)
    have S1 := same_new ht1 (.tup [.str "num", .str "name"])
    have e1 : upd H t1 (.tup [.str "num", .str "name"]) t1 = some (.tup [.str "num", .str "name"]) := upd_same
    have a1 := S1 _ _ ha
    generalize upd H t1 (.tup [.str "num", .str "name"]) = H1 at *
    refine go_inT3 e1 rfl rfl ?_
    rw [show inV (.str (Str.ofString "name")) [V.str (Str.ofString "num"), V.str (Str.ofString "name")] = true by decide +kernel]
    with_reducible refine go_qb (go_iteT (go_ret (go_lst (go_cons ?_))))
    with_reducible refine go_op (go_op (go_lst (go_cons (go_c ?_))))
    with_reducible refine go_cons (go_c (go_nil ?_))
    refine go_qlst (Nat.le_of_ble_eq_true rfl) (fun l hl => ?_)
    have S2 := same_new hl (.lst [.str "", .str "n"])
    have e2 : upd H1 l (.lst [.str "", .str "n"]) l = some (.lst [.str "", .str "n"]) := upd_same
    have a2 := S2 _ _ a1
    have s2 := S1.trans S2
    generalize upd H1 l (.lst [.str "", .str "n"]) = H2 at *
    with_reducible refine go_cb (go_cons (go_op (go_op (go_var rfl ?_))))
    with_reducible refine go_c ?_
    (with_reducible refine' go_ixT ?hp ?ha ?_); (case hp => walk_at "lw_hp"); (case ha => first | rfl | assumption)
    with_reducible refine go_c (go_eqS (go_nil (go_intB ?_)))
    (with_reducible refine' go_ixL ?hp ?ha ?_); (case hp => walk_at "lw_hp"); (case ha => first | rfl | assumption)
    with_reducible refine go_cb (go_cons (go_op (go_var rfl (go_c ?_))))
    (with_reducible refine' go_ixT ?hp ?ha ?_); (case hp => walk_at "lw_hp"); (case ha => first | rfl | assumption)
    with_reducible refine go_nil ?_
    refine go_strI (small_log hz.1 (by omega)) ?_
    refine ⟨_, _, rfl, rfl, line_le (by have : (numT z).length ≤ 5 := l1; show 1 + (numT z).length ≤ _; omega), ?_⟩
    with_reducible refine go_nil ?_
    refine go_qlst (Nat.le_of_ble_eq_true rfl) (fun r hrr => ?_)
    refine k _ _ (s2.trans (same_new hrr _)) ?_
    rw [upd_same]
    rfl
  | op o x y =>
    obtain ⟨a, u, v, rfl, ha, hu', hv'⟩ := hp
    have hk' : x.ok nm n ∧ y.ok nm n := hk
    have ne1 : ¬ (o.str = Str.ofString "num") := by cases o <;> decide +kernel
    have ne2 : ¬ (o.str = Str.ofString "name") := by cases o <;> decide +kernel
    have x1 := pWords_len hnm hk'.1
    have x2 := pWords_len hnm hk'.2
    have lp : 2 ^ n ≤ 4 := Nat.pow_le_pow_right (by decide) (show n ≤ 2 by omega)
    with_reducible refine go_seq (go_ifS (go_test (go_op (go_op ?_))))
    with_reducible refine go_var rfl (go_c ?_)
    (with_reducible refine' go_ixT ?hp ?ha ?_); (case hp => walk_at "lw_hp"); (case ha => first | rfl | assumption)
    with_reducible refine go_tup (go_cons (go_c (go_cons (go_c ?_))))
    with_reducible refine go_nil ?_
    refine go_qtup (Nat.le_of_ble_eq_true rfl) (fun t1 ht1 => ?_)
    have S1 := same_new ht1 (.tup [.str "num", .str "name"])
    have e1 : upd H t1 (.tup [.str "num", .str "name"]) t1 = some (.tup [.str "num", .str "name"]) := upd_same
    have a1 := S1 _ _ ha
    generalize upd H t1 (.tup [.str "num", .str "name"]) = H1 at *
    refine go_inT3 e1 rfl rfl ?_
    rw [show inV (.str o.str) [V.str (Str.ofString "num"), V.str (Str.ofString "name")] = false by cases o <;> decide +kernel]
    with_reducible refine go_qb (go_iteF (go_next (go_ret (go_op ?_))))
    with_reducible refine go_op (go_lst (go_cons (go_op (go_var rfl ?_))))
    with_reducible refine go_c ?_
    (with_reducible refine' go_ixT ?hp ?ha ?_); (case hp => walk_at "lw_hp"); (case ha => first | rfl | assumption)
    with_reducible refine go_nil ?_
    refine go_qlst (Nat.le_of_ble_eq_true rfl) (fun l hl => ?_)
    have S2 := same_new hl (.lst [.str o.str])
    have e2 : upd H1 l (.lst [.str o.str]) l = some (.lst [.str o.str]) := upd_same
    have a2 := S2 _ _ a1
    have s2 := S1.trans S2
    generalize upd H1 l (.lst [.str o.str]) = H2 at *
    with_reducible refine go_callC (go_cons (go_op (go_var rfl (go_c ?_))))
    (with_reducible refine' go_ixT ?hp ?ha ?_); (case hp => walk_at "lw_hp"); (case ha => first | rfl | assumption)
    with_reducible refine go_nil ?_
    refine ⟨u, x, nm, rfl, hu'.mono s2.tk, hk'.1, hnm, by omega, fun b H3 S3 h3 => ?_⟩
    have e3 := S3 _ _ e2
    have a3 := S3 _ _ a2
    skip
    refine go_cat e3 h3 (small_le (by simp; omega)) (fun c hc => ?_)
    have S4 := same_new hc (.lst ([.str o.str] ++ (pWords x).map V.str))
    have e4 : upd H3 c (.lst ([.str o.str] ++ (pWords x).map V.str)) c = some (.lst ([.str o.str] ++ (pWords x).map V.str)) := upd_same
    have a4 := S4 _ _ a3
    have s4 := (s2.trans S3).trans S4
    generalize upd H3 c (.lst ([.str o.str] ++ (pWords x).map V.str)) = H4 at *
    with_reducible refine go_callC (go_cons (go_op (go_var rfl (go_c ?_))))
    (with_reducible refine' go_ixT ?hp ?ha ?_); (case hp => walk_at "lw_hp"); (case ha => first | rfl | assumption)
    with_reducible refine go_nil ?_
    refine ⟨v, y, nm, rfl, hv'.mono s4.tk, hk'.2, hnm, by omega, fun d H5 S5 h5 => ?_⟩
    have e5 := S5 _ _ e4
    skip
    refine go_cat e5 h5 (small_le (by simp; omega)) (fun e he => ?_)
    refine k _ _ ((s4.trans S5).trans (same_new he _)) ?_
    rw [upd_same]
    show _ = some (HO.lst ((o.str :: (pWords x ++ pWords y)).map V.str))
    simp
theorem no_pws : FnOk P w K mg base CX0 1 f fd ["_law_part"] (spPWs 0) :=
  ⟨fun vs H Q E h => by obtain ⟨v, p, nm, rfl, _⟩ := h; rfl, fun A outer s H args us vs Q E _ _ _ _ h => by obtain ⟨v, p, nm, rfl, _, h', _⟩ := h; exact h'.elim⟩
theorem c_pws (F : Fun K "_law_part_words" "_law_part_words" s__law_part_words f fd) (b : Binds K fd ["_law_part"] []) (m : mg "_law_part_words" = some (.ref f)) (T : Txt mg) : ∀ n : Nat, FnC P w K mg base (n + 1) "_law_part_words" ["_law_part"] (spPWs n)
  | 0 => ⟨f, fd, no_pws, m, F.kp, b⟩
  | n + 1 => ⟨f, fd, ok_pws F T (c_pws F b m T n), m, F.kp, b⟩
end
end Lw
set_option Elab.async false
set_option linter.all false
set_option maxRecDepth 100000
set_option maxHeartbeats 4000000
namespace Lw
open PySem L2 TL
local macro_rules | `(tactic| walk_at "lw_hp") => `(tactic| (repeat (first | assumption | exact upd_same | (refine' upd_new (by assumption) ?_) | (refine' tup_off (by assumption) (by assumption) ?_) | (refine' lst_off (by assumption) (by assumption) (by assumption) ?_) | (refine' Same.get (by assumption) ?_) | (refine' Off.get (by assumption) (by assumption) ?_) | (refine' upd_oth (by assumption) ?_))))
theorem go_strA {H : Hp} {Q : VK} {n : Int} (l : n.natAbs.log2 < 1920) (q : Q (.str (toString n)) H) : rStrA [.int n] H Q := .inl ⟨n, rfl, l, q⟩
theorem go_strP {H : Hp} {Q : VK} {a : Addr} {d : Nat} (h : Shw H d (.ref a)) (hd : d ≤ 6) (q : ∀ t : Str, t.length ≤ 50000 → Q (.str t) H) : rStrA [.ref a] H Q := .inr ⟨_, d, rfl, ⟨a, rfl⟩, h, hd, q⟩
theorem shw_part {H : Hp} {nm : Int} (hn : nm ≤ 8) : ∀ {d : Nat} {p : Part} {v : V}, p.ok nm d → PartAt H p v → Shw H d v
  | 0, _, _, h, _ => h.elim
  | d + 1, .num n, v, h, ⟨a, e, ha⟩ => by
    subst e
    refine .tup ha (by simp) (fun v hv => ?_)
    rcases List.mem_cons.mp hv with rfl | hv
    · exact .str (by decide +kernel)
    · cases List.mem_singleton.mp hv
      exact .int (small_log h.1 (by have := h.2; omega)) (Nat.le_trans (num_t h.1 h.2).len (by decide))
  | d + 1, .name k, v, h, ⟨a, e, ha⟩ => by
    subst e
    have h' : 0 ≤ k ∧ k < nm := h
    refine .tup ha (by simp) (fun v hv => ?_)
    rcases List.mem_cons.mp hv with rfl | hv
    · exact .str (by decide +kernel)
    · cases List.mem_singleton.mp hv
      exact .int (small_log h'.1 (by omega)) (Nat.le_trans (num_t h'.1 (by omega)).len (by decide))
  | d + 1, .op o x y, v, h, ⟨a, u, w, e, ha, h1, h2⟩ => by
    subst e
    refine .tup ha (by simp) (fun v hv => ?_)
    rcases List.mem_cons.mp hv with rfl | hv
    · exact .str (by cases o <;> decide +kernel)
    rcases List.mem_cons.mp hv with rfl | hv
    · exact shw_part hn h.1 h1
    cases List.mem_singleton.mp hv
    exact shw_part hn h.2 h2
theorem wlen_num {n : Int} (h0 : 0 ≤ n) (h1 : n ≤ 10006) : (numT n).length ≤ 6 := Nat.le_trans (num_t h0 h1).len (by decide)
theorem wlen_nm {n : Int} (h0 : 0 ≤ n) (h1 : n ≤ 10006) : ("n" ++ numT n : Str).length ≤ 6 := by
  have := (num_t h0 h1).len
  rw [len_app, n_len]; omega
theorem wlen_part {nm : Int} (hn : nm ≤ 8) : ∀ {d : Nat} {p : Part}, p.ok nm d → ∀ w ∈ pWords p, w.length ≤ 6
  | 0, _, h, _, _ => h.elim
  | d + 1, .num n, h, w, hw => by cases List.mem_singleton.mp hw; exact wlen_num h.1 h.2
  | d + 1, .name k, h, w, hw => by
    have h' : 0 ≤ k ∧ k < nm := h
    cases List.mem_singleton.mp hw
    exact wlen_nm h'.1 (by omega)
  | d + 1, .op o a b, h, w, hw => by
    rcases List.mem_cons.mp hw with rfl | hw
    · exact Nat.le_trans (op_len o) (by decide)
    · rcases List.mem_append.mp hw with h1 | h1
      · exact wlen_part hn (d := d) h.1 w h1
      · exact wlen_part hn (d := d) h.2 w h1
theorem wlen_pl {nm : Int} (hn : nm ≤ 8) : ∀ {x : Pl}, x.ok nm → ∀ w ∈ x.words, w.length ≤ 6
  | .name n, h, w, hw => by
    have h' : 0 ≤ n ∧ n < nm := h
    cases List.mem_singleton.mp hw
    exact wlen_nm h'.1 (by omega)
  | .numb n, h, w, hw => by
    have h' : 0 ≤ n ∧ n ≤ 60 := h
    cases List.mem_singleton.mp hw
    exact wlen_num h'.1 (by omega)
  | .part p, h, w, hw => wlen_part hn h w hw
theorem wlen_row {nm fl many : Int} (hn : nm ≤ 8) (hf : fl ≤ 4) (hm : many ≤ 60) {r : Row} (ok : r.ok nm fl many) : ∀ w ∈ rowW r, w.length ≤ 6 := fun w hw => by
  rcases List.mem_cons.mp hw with rfl | hw
  · exact (kinds_len r).2
  · obtain ⟨l, hl, hw⟩ := List.mem_flatten.mp hw
    obtain ⟨x, hx, rfl⟩ := List.mem_map.mp hl
    exact wlen_pl hn (pls_ok hf hm ok x hx) w hw
theorem part_ref {H : Hp} {p : Part} {v : V} (h : PartAt H p v) : ∃ a xs, v = .ref a ∧ H a = some (.tup xs) := by
  cases p with
  | num n => obtain ⟨a, e, h⟩ := h; exact ⟨a, _, e, h⟩
  | name n => obtain ⟨a, e, h⟩ := h; exact ⟨a, _, e, h⟩
  | op o x y => obtain ⟨a, _, _, e, h, _⟩ := h; exact ⟨a, _, e, h⟩
theorem go_joinT {A : TS} {σ : St} {H : Hp} {nx : St → Hp → Prop} {rt : VK} {bk ct : St → Hp → Prop} (R : St → Hp → Prop) (hR : ∀ σ H, R σ H → nx σ H) (h : ∀ nx', (∀ σ H, R σ H → nx' σ H) → A ⟨nx', rt, bk, ct⟩ σ H) : A ⟨nx, rt, bk, ct⟩ σ H := h nx hR
def isNm (r : Row) : Bool := inV (.str r.kinds.1) [V.str (Str.ofString "set"), V.str (Str.ofString "take"), V.str (Str.ofString "get"), V.str (Str.ofString "size"), V.str (Str.ofString "unless")]
theorem nm_at (r : Row) (i : Nat) (x : Pl) (h : r.pls[i]? = some x) : (∀ n, x = .name n → i = 0 ∧ isNm r = true) ∧ ∀ n, x = .numb n → i = 0 → isNm r = false := by
  have hn : isNm (.set 0 (.num 0)) = true ∧ isNm (.take 0) = true ∧ isNm (.get 0 0 (.num 0)) = true ∧ isNm (.size 0 0) = true ∧ isNm (.unl 0 0) = true := by decide +kernel
  have hf : isNm (.add 0 (.num 0)) = false ∧ isNm (.put 0 (.num 0) (.num 0)) = false ∧ isNm (.cut 0 (.num 0)) = false ∧ isNm (.go 0) = false := by decide +kernel
  obtain ⟨n1, n2, n3, n4, n5⟩ := hn
  obtain ⟨f1, f2, f3, f4⟩ := hf
  cases r with
  | set n p =>
    match i with
    | 0 => cases h; exact ⟨fun _ _ => ⟨rfl, n1⟩, fun _ e => (by cases e)⟩
    | 1 => cases h; exact ⟨fun _ e => (by cases e), fun _ e => (by cases e)⟩
    | i + 2 => cases h
  | take n =>
    match i with
    | 0 => cases h; exact ⟨fun _ _ => ⟨rfl, n2⟩, fun _ e => (by cases e)⟩
    | i + 1 => cases h
  | get n f p =>
    match i with
    | 0 => cases h; exact ⟨fun _ _ => ⟨rfl, n3⟩, fun _ e => (by cases e)⟩
    | 1 => cases h; exact ⟨fun _ e => (by cases e), fun _ _ e => (by cases e)⟩
    | 2 => cases h; exact ⟨fun _ e => (by cases e), fun _ e => (by cases e)⟩
    | i + 3 => cases h
  | size n f =>
    match i with
    | 0 => cases h; exact ⟨fun _ _ => ⟨rfl, n4⟩, fun _ e => (by cases e)⟩
    | 1 => cases h; exact ⟨fun _ e => (by cases e), fun _ _ e => (by cases e)⟩
    | i + 2 => cases h
  | add f p =>
    match i with
    | 0 => cases h; exact ⟨fun _ e => (by cases e), fun _ _ _ => f1⟩
    | 1 => cases h; exact ⟨fun _ e => (by cases e), fun _ e => (by cases e)⟩
    | i + 2 => cases h
  | put f p q =>
    match i with
    | 0 => cases h; exact ⟨fun _ e => (by cases e), fun _ _ _ => f2⟩
    | 1 => cases h; exact ⟨fun _ e => (by cases e), fun _ e => (by cases e)⟩
    | 2 => cases h; exact ⟨fun _ e => (by cases e), fun _ e => (by cases e)⟩
    | i + 3 => cases h
  | cut f p =>
    match i with
    | 0 => cases h; exact ⟨fun _ e => (by cases e), fun _ _ _ => f3⟩
    | 1 => cases h; exact ⟨fun _ e => (by cases e), fun _ e => (by cases e)⟩
    | i + 2 => cases h
  | send p =>
    match i with
    | 0 => cases h; exact ⟨fun _ e => (by cases e), fun _ e => (by cases e)⟩
    | i + 1 => cases h
  | go r =>
    match i with
    | 0 => cases h; exact ⟨fun _ e => (by cases e), fun _ _ _ => f4⟩
    | i + 1 => cases h
  | unl n r =>
    match i with
    | 0 => cases h; exact ⟨fun _ _ => ⟨rfl, n5⟩, fun _ e => (by cases e)⟩
    | 1 => cases h; exact ⟨fun _ e => (by cases e), fun _ _ e => (by cases e)⟩
    | i + 2 => cases h
  | mark => cases h
theorem pw_len {H : Hp} {nm : Int} {kd : Str} {v : V} (hn : nm ≤ 8) : ∀ {x : Pl}, PlAt H nm kd v x → x.words.length ≤ 7
  | .name n, _ => by show 1 ≤ 7; omega
  | .numb n, _ => by show 1 ≤ 7; omega
  | .part p, h => by have := pWords_len hn h.2.2; show (pWords p).length ≤ 7; omega
abbrev s__law_text_rows : Stmt := top 39
def spTRows : Sp := fun vs H Q _ => ∃ (pv : V) (p : Prog), vs = [pv] ∧ p.Ok ∧ ProgAt H p pv ∧ ∀ a H', Same H H' → H' a = some (.lst ((lines p).map V.str)) → Q (.ref a) H'
section
variable {P : Program} {w : World} {K : PySem.W.Frag} {mg : Str → Option Value} {base : Heap} {f : Addr} {fd : FuncData}
theorem scs__law_text_rows : FnScope ["_law_p", "_law_found", "_law_row", "_law_words", "_law_k", "_law_is_name", "_law_more"] ["_law_p"] (defScope s__law_text_rows) := ⟨rfl, rfl, rfl, by decide +kernel, rfl, by decide +kernel, by decide +kernel⟩
theorem ok_trows (F : Fun K "_law_text_rows" "_law_text_rows" s__law_text_rows f fd) (T : Txt mg) (C_law_part_words : FnC P w K mg base 4 "_law_part_words" ["_law_part"] (spPWs 3)) : FnOk P w K mg base CX0 5 f fd ["_law_p"] spTRows := by
  refine F.ok scs__law_text_rows (fun vs H Q E h => ?_) (fun cdv A outer s H vs Q E hr h => ?_)
  · obtain ⟨v, p, rfl, _⟩ := h
    rfl
  obtain ⟨v, p, rfl, hok, hP, k⟩ := h
  obtain ⟨pa, pb, rs, rfl, hpa, hpb, hRs⟩ := id hP
  have nd := scs__law_text_rows.nd
  have hu := hu_of hr
  have l1 := (num_t (n := p.nm) (by have := hok.n1; omega) (by have := hok.n2; omega)).len
  have l2 := (num_t (n := p.fl) (by have := hok.f1; omega) (by have := hok.f2; omega)).len
  have lw : (Str.ofString "work ").length = 5 := by decide
  have ls : (Str.ofString " ").length = 1 := sp_len
  refine ⟨_, (pss_cons (ps_set (i := 1) nd rfl (Or.inl rfl) (pe_lst (pa_cons (pe_op op_add_str (pe_op op_add_str (pe_op op_add_str pe_str (pe_callTy cr_strI (by rfl) T.n_str (by decide +kernel) (pa_cons (pe_ix (kIxT K) (pv 0) pe_int (fun _ _ => rfl)) pa_nil))) pe_str) (pe_callTy cr_strI (by rfl) T.n_str (by decide +kernel) (pa_cons (pe_ix (kIxT K) (pv 0) pe_int (fun _ _ => rfl)) pa_nil))) pa_nil)))
      (pss_cons (ps_for PassesOwn.never rfl (kPiT K (pe_ix (kIxT K) (pv 0) pe_int (fun _ _ => rfl))) (pg_name (i := 2) nd rfl (Or.inl rfl)) (pss_cons (ps_set (i := 3) nd rfl (Or.inl rfl) (pe_lst (pa_cons (pe_ix (kIxT K) (pv 2) pe_int (fun _ _ => rfl)) pa_nil)))
      (pss_cons (ps_for PassesOwn.never rfl (pi_range2 (by rfl) T.n_range (pa_cons pe_int (pa_cons (pe_callB (kLen K) (by rfl) T.n_len (by decide +kernel) (pa_cons (pv 2) pa_nil)) pa_nil))) (pg_name (i := 4) nd rfl (Or.inl rfl)) (pss_cons (ps_set (i := 5) nd rfl (Or.inl rfl) (pe_and (pe_cmpR op_eq (pv 4) pe_int (nomark _)) (pe_one (pe_cmpR (kIn K) (pe_ix (kIxT K) (pv 2) pe_int (fun _ _ => rfl)) (pe_tup (pa_cons pe_str (pa_cons pe_str (pa_cons pe_str (pa_cons pe_str (pa_cons pe_str pa_nil)))))) (by rfl)))))
      (pss_cons (ps_set (i := 6) nd rfl (Or.inl rfl) (pe_lst (pa_cons (pe_op op_add_str (pe_ix (kIxL K) (pe_lst (pa_cons pe_str (pa_cons pe_str pa_nil))) (pe_callTy c_int (by rfl) T.n_int (by decide +kernel) (pa_cons (pv 5) pa_nil)) (fun _ _ => rfl)) (pe_callTy (cr_strA hr.units) (by rfl) T.n_str (by decide +kernel) (pa_cons (pe_ix (kIxT K) (pv 2) (pv 4) (fun _ _ => rfl)) pa_nil))) pa_nil)))
      (pss_one (ps_set (i := 3) nd rfl (Or.inl rfl) (pe_op op_cat (pv 3) (pe_ifExp (pt_val (pe_callB (kIsinst K) (by rfl) T.n_isinstance (by decide +kernel) (pa_cons (pe_ix (kIxT K) (pv 2) (pv 4) (fun _ _ => rfl)) (pa_cons (pe_bltn (v := .ty "tuple") (by rfl) T.n_tuple (by decide +kernel) rfl) pa_nil)))) (pe_callC C_law_part_words (hr.mono (by omega)) (by rfl) (pa_cons (pe_ix (kIxT K) (pv 2) (pv 4) (fun _ _ => rfl)) pa_nil)) (pv 6))))))))
      (pss_one (ps_expr (pe_bm PySem.F.plainAttrs_list PySem.F.slot_list_append PySem.F.type_list_append mt_append (pv 1) (pa_cons (kJoin K pe_str (pv 3)) pa_nil)))))))
      (pss_one (ps_ret (pv 1))))), ?_⟩
  with_reducible refine go_seq (go_asg (go_lst (go_cons (go_op ?_))))
  with_reducible refine go_op (go_op (go_c (go_cb (go_cons ?_))))
  with_reducible refine go_op (go_var rfl (go_c ?_))
  (with_reducible refine' go_ixT ?hp ?ha ?_); (case hp => walk_at "lw_hp"); (case ha => first | rfl | assumption)
  with_reducible refine go_nil ?_
  refine go_strI (small_log (by have := hok.n1; omega) (by have := hok.n2; omega)) ?_
  refine ⟨_, _, rfl, rfl, line_le (by show _ + (numT p.nm).length ≤ _; omega), ?_⟩
  with_reducible refine go_c ?_
  refine ⟨_, _, rfl, rfl, line_le (by rw [len_app]; show _ + (numT p.nm).length + _ ≤ _; omega), ?_⟩
  with_reducible refine go_cb (go_cons (go_op (go_var rfl (go_c ?_))))
  (with_reducible refine' go_ixT ?hp ?ha ?_); (case hp => walk_at "lw_hp"); (case ha => first | rfl | assumption)
  with_reducible refine go_nil ?_
  refine go_strI (small_log (by have := hok.f1; omega) (by have := hok.f2; omega)) ?_
  refine ⟨_, _, rfl, rfl, line_le (by rw [len_app, len_app]; show _ + (numT p.nm).length + _ + (numT p.fl).length ≤ _; omega), ?_⟩
  with_reducible refine go_nil ?_
  refine go_qlst (Nat.le_of_ble_eq_true rfl) (fun hl hhl => ?_)
  have S1 := same_new hhl (.lst [.str (headT p)])
  have e1 : upd H hl (.lst [.str (headT p)]) hl = some (.lst [.str (headT p)]) := upd_same
  have hm : upd H hl (.lst [.str (Str.ofString "work " ++ Str.ofString (toString p.nm) ++ Str.ofString " " ++ Str.ofString (toString p.fl))]) = upd H hl (.lst [.str (headT p)]) := rfl
  rw [hm]
  have hpa1 := S1 _ _ hpa
  generalize upd H hl (.lst [.str (headT p)]) = H1 at *
  with_reducible refine go_gname (go_seq (go_for (go_iT (go_op ?_))))
  with_reducible refine go_var rfl (go_c ?_)
  (with_reducible refine' go_ixT ?hp ?ha ?_); (case hp => walk_at "lw_hp"); (case ha => first | rfl | assumption)
  (with_reducible refine' go_qiT ?hp ?_); (case hp => walk_at "lw_hp")
  refine fq_tup rs (fun i σ H' => ∃ v2 v3 v4 v5 v6, σ = [some (.ref pa), some (.ref hl), v2, v3, v4, v5, v6] ∧ Same H H' ∧ H' hl = some (.lst ((headT p :: (p.rows.take i).map rowT).map V.str))) ⟨_, _, _, _, _, rfl, S1, e1⟩ ?_ ?_ ?_
  · rintro i σ H' _ ⟨v2, v3, v4, v5, v6, rfl, sm, q1⟩
    exact SqT.of (sm _ _ hpb)
  · rintro i x σ H' hx ⟨v2, v3, v4, v5, v6, rfl, sm, q1⟩
    obtain ⟨r, hr1, hr2⟩ := hRs.take_succ hx
    have hln := hok.ln
    have hi := (List.getElem?_eq_some_iff.mp hr1).1
    have rok := hok.rw r (List.mem_of_getElem? hr1)
    obtain ⟨ra, xs, rfl, hra, hxs⟩ := hr2.mono sm.tk
    obtain ⟨rest, rfl, hrl⟩ := row_word hxs
    have hat : atI (.str r.kinds.1 :: rest) 0 = some (.str r.kinds.1) := by show atI (_ :: rest) ((0 : Nat) : Int) = _; exact atI_nat rfl
    obtain ⟨k3, k6⟩ := kinds_len r
    have pl3 := pls_len r
    with_reducible refine go_gname (go_seq (go_asg (go_lst (go_cons ?_))))
    with_reducible refine go_op (go_var rfl (go_c ?_))
    (with_reducible refine' go_ixT ?hp ?ha ?_); (case hp => walk_at "lw_hp"); (case ha => first | rfl | assumption)
    with_reducible refine go_nil ?_
    refine go_qlst (Nat.le_of_ble_eq_true rfl) (fun wl hwl => ?_)
    have S2 := same_new hwl (.lst [.str r.kinds.1])
    have w2 : upd H' wl (.lst [.str r.kinds.1]) wl = some (.lst [.str r.kinds.1]) := upd_same
    have s2 := sm.trans S2
    generalize upd H' wl (.lst [.str r.kinds.1]) = H2 at *
    have ra2 := S2 _ _ hra
    with_reducible refine go_gname (go_seq (go_for (go_rng2 (go_cons ?_))))
    with_reducible refine go_c (go_cons (go_cb (go_cons (go_var rfl ?_))))
    with_reducible refine go_nil ?_
    (with_reducible refine' go_lenT ?hp ?_); (case hp => walk_at "lw_hp")
    with_reducible refine go_nil ?_
    refine go_qrng2 (by omega) (by omega) (by omega) (by simp only [List.length_cons]; omega) ?_
    rw [show (((V.str r.kinds.1 :: rest).length : Int) - 1).toNat = rest.length by simp]
    refine fq_range (fun j σ H3 => ∃ w3 v4 v5 v6, σ = [some (.ref pa), some (.ref hl), some (.ref ra), some (.ref w3), v4, v5, v6] ∧ Same H' H3 ∧ H3 w3 = some (.lst ((r.kinds.1 :: ((r.pls.take j).map Pl.words).flatten).map V.str)) ∧ ((r.pls.take j).map Pl.words).flatten.length ≤ 7 * j) ⟨wl, _, _, _, rfl, S2, w2, Nat.zero_le _⟩ ?_ ?_
    · rintro j σ H3 hj ⟨w3, v4, v5, v6, rfl, s3, e3, hln3⟩
      obtain ⟨y, hy⟩ : ∃ y, rest[j]? = some y := ⟨_, List.getElem?_eq_getElem hj⟩
      obtain ⟨kk, hkk⟩ : ∃ kk, (r.kinds.2.map V.str)[j]? = some kk := ⟨_, List.getElem?_eq_getElem (by rw [List.length_map]; omega)⟩
      obtain ⟨z, kd, hz, rfl, hpl⟩ := row_pls hok.f2 (by omega) hxs rok j y kk hy hkk
      have zl := pw_len hok.n2 hpl
      have et : ((r.pls.take (j + 1)).map Pl.words).flatten = ((r.pls.take j).map Pl.words).flatten ++ z.words := by rw [List.take_succ, hz, List.map_append, List.flatten_append]; simp
      have aty : atI (.str r.kinds.1 :: rest) (1 + (j : Int)) = some y := by rw [show (1 + (j : Int)) = ((j + 1 : Nat) : Int) by omega]; exact atI_nat hy
      have ra3 := s3 _ _ hra
      refine go_gname ?_
      refine go_seq ?_
      refine go_joinT (fun σ' H4 => σ' = [some (.ref pa), some (.ref hl), some (.ref ra), some (.ref w3), some (.int (1 + (j : Int))), some (.bl (decide (j = 0) && isNm r)), v6] ∧ Same H3 H4) ?_ (fun nx hn => ?_)
      · rintro σ' H4 ⟨rfl, s4⟩
        have ra4 := s4 _ _ ra3
        have e4 := s4 _ _ e3
        with_reducible refine go_seq (go_asg (go_lst (go_cons (go_op ?_))))
        with_reducible refine go_op (go_lst (go_cons (go_c (go_cons ?_))))
        with_reducible refine go_c (go_nil ?_)
        refine go_qlst (Nat.le_of_ble_eq_true rfl) (fun l5 hl5 => ?_)
        have S5 := same_new hl5 (.lst [V.str (Str.ofString ""), V.str (Str.ofString "n")])
        have e5 : upd H4 l5 (.lst [V.str (Str.ofString ""), V.str (Str.ofString "n")]) l5 = some (.lst [V.str (Str.ofString ""), V.str (Str.ofString "n")]) := upd_same
        have s5 := s4.trans S5
        have ra5 := S5 _ _ ra4
        have w5 := S5 _ _ e4
        clear S5
        generalize upd H4 l5 (.lst [V.str (Str.ofString ""), V.str (Str.ofString "n")]) = H5 at *
        have nb := nm_at r j z hz
        have ka0 : atI [V.str (Str.ofString ""), V.str (Str.ofString "n")] 0 = some (.str (Str.ofString "")) := by show atI _ ((0 : Nat) : Int) = _; exact atI_nat rfl
        have ka1 : atI [V.str (Str.ofString ""), V.str (Str.ofString "n")] 1 = some (.str (Str.ofString "n")) := by show atI _ ((1 : Nat) : Int) = _; exact atI_nat rfl
        generalize hb : (decide (j = 0) && isNm r) = b at *
        cases z with
        | name n =>
          obtain ⟨j0, nb1⟩ := nb.1 n rfl
          obtain rfl : b = true := by rw [← hb, nb1, j0]; rfl
          obtain ⟨_, rfl, n0, n1⟩ := hpl
          have h8 := hok.n2
          have ln := wlen_nm (n := n) n0 (by omega)
          with_reducible refine go_cb (go_cons (go_var rfl (go_nil (go_intB ?_))))
          (with_reducible refine' go_ixL ?hp ?ha ?_); (case hp => walk_at "lw_hp"); (case ha => first | rfl | assumption)
          with_reducible refine go_cb (go_cons (go_op (go_var rfl (go_var rfl ?_))))
          (with_reducible refine' go_ixT ?hp ?ha ?_); (case hp => walk_at "lw_hp"); (case ha => first | rfl | assumption)
          with_reducible refine go_nil ?_
          refine go_strA (small_log n0 (by omega)) ?_
          refine ⟨_, _, rfl, rfl, line_le (by rw [← len_app]; exact Nat.le_trans ln (by decide)), ?_⟩
          with_reducible refine go_nil ?_
          refine go_qlst (Nat.le_of_ble_eq_true rfl) (fun m hm6 => ?_)
          have S6 := same_new hm6 (.lst [V.str (Str.ofString "n" ++ Str.ofString (toString n))])
          have m6 : upd H5 m (.lst [V.str (Str.ofString "n" ++ Str.ofString (toString n))]) m = some (.lst ((Pl.words (.name n)).map V.str)) := upd_same
          have s6 := s5.trans S6
          have w6 := S6 _ _ w5
          have ra6 := S6 _ _ ra5
          generalize upd H5 m (.lst [V.str (Str.ofString "n" ++ Str.ofString (toString n))]) = H6 at *
          with_reducible refine go_gname (go_asg (go_op (go_var rfl (go_if ?_))))
          with_reducible refine go_testB (go_cb (go_cons (go_op (go_var rfl ?_))))
          with_reducible refine go_var rfl ?_
          (with_reducible refine' go_ixT ?hp ?ha ?_); (case hp => walk_at "lw_hp"); (case ha => first | rfl | assumption)
          with_reducible refine go_cons (go_c (go_nil (go_is_int_tuple (go_qb ?_))))
          with_reducible refine go_iteF (go_var rfl ?_)
          refine go_cat w6 m6 (small_le (by simp only [List.length_map, List.length_cons]; omega)) (fun c hc => ?_)
          with_reducible refine go_gname ?_
          exact ⟨_, _, _, _, rfl, (s3.trans s6).trans (same_new hc _), by rw [upd_same, et, ← List.map_append, List.cons_append], by rw [et, List.length_append]; omega⟩
        | numb n =>
          obtain rfl : b = false := by
            rw [← hb]
            by_cases c : j = 0
            · rw [nb.2 n rfl c, Bool.and_false]
            · simp [c]
          obtain ⟨_, rfl, n0, n1⟩ := hpl
          have ln := wlen_num (n := n) n0 (by omega)
          with_reducible refine go_cb (go_cons (go_var rfl (go_nil (go_intB ?_))))
          (with_reducible refine' go_ixL ?hp ?ha ?_); (case hp => walk_at "lw_hp"); (case ha => first | rfl | assumption)
          with_reducible refine go_cb (go_cons (go_op (go_var rfl (go_var rfl ?_))))
          (with_reducible refine' go_ixT ?hp ?ha ?_); (case hp => walk_at "lw_hp"); (case ha => first | rfl | assumption)
          with_reducible refine go_nil ?_
          refine go_strA (small_log n0 (by omega)) ?_
          refine ⟨_, _, rfl, rfl, line_le (by show 0 + (numT n).length ≤ _; omega), ?_⟩
          with_reducible refine go_nil ?_
          refine go_qlst (Nat.le_of_ble_eq_true rfl) (fun m hm6 => ?_)
          have S6 := same_new hm6 (.lst [V.str (Str.ofString "" ++ Str.ofString (toString n))])
          have m6 : upd H5 m (.lst [V.str (Str.ofString "" ++ Str.ofString (toString n))]) m = some (.lst ((Pl.words (.numb n)).map V.str)) := by
            rw [upd_same]
            show some (HO.lst [V.str (Str.empty ++ numT n)]) = some (HO.lst [V.str (numT n)])
            rw [empty_str]
          have s6 := s5.trans S6
          have w6 := S6 _ _ w5
          have ra6 := S6 _ _ ra5
          generalize upd H5 m (.lst [V.str (Str.ofString "" ++ Str.ofString (toString n))]) = H6 at *
          with_reducible refine go_gname (go_asg (go_op (go_var rfl (go_if ?_))))
          with_reducible refine go_testB (go_cb (go_cons (go_op (go_var rfl ?_))))
          with_reducible refine go_var rfl ?_
          (with_reducible refine' go_ixT ?hp ?ha ?_); (case hp => walk_at "lw_hp"); (case ha => first | rfl | assumption)
          with_reducible refine go_cons (go_c (go_nil (go_is_int_tuple (go_qb ?_))))
          with_reducible refine go_iteF (go_var rfl ?_)
          refine go_cat w6 m6 (small_le (by simp only [List.length_map, List.length_cons]; omega)) (fun c hc => ?_)
          with_reducible refine go_gname ?_
          exact ⟨_, _, _, _, rfl, (s3.trans s6).trans (same_new hc _), by rw [upd_same, et, ← List.map_append, List.cons_append], by rw [et, List.length_append]; omega⟩
        | part q =>
          obtain ⟨_, hq, hqk⟩ := hpl
          have hq5 := hq.mono (s3.trans s5).tk
          obtain ⟨qa, qxs, rfl, hqa⟩ := part_ref hq5
          have shw := shw_part hok.n2 hqk hq5
          cases b with
          | true =>
            with_reducible refine go_cb (go_cons (go_var rfl (go_nil (go_intB ?_))))
            (with_reducible refine' go_ixL ?hp ?ha ?_); (case hp => walk_at "lw_hp"); (case ha => first | rfl | assumption)
            with_reducible refine go_cb (go_cons (go_op (go_var rfl (go_var rfl ?_))))
            (with_reducible refine' go_ixT ?hp ?ha ?_); (case hp => walk_at "lw_hp"); (case ha => first | rfl | assumption)
            with_reducible refine go_nil ?_
            refine go_strP shw (by decide) (fun t ht => ?_)
            refine ⟨_, _, rfl, rfl, line_le (by have : (Str.ofString "n").length = 1 := (by decide); omega), ?_⟩
            with_reducible refine go_nil ?_
            refine go_qlst (Nat.le_of_ble_eq_true rfl) (fun m hm6 => ?_)
            have S6 := same_new hm6 (.lst [V.str (Str.ofString "n" ++ t)])
            have s6 := s5.trans S6
            have w6 := S6 _ _ w5
            have ra6 := S6 _ _ ra5
            have hqa6 := S6 _ _ hqa
            have hq6 := hq5.mono S6.tk
            generalize upd H5 m (.lst [V.str (Str.ofString "n" ++ t)]) = H6 at *
            with_reducible refine go_gname (go_asg (go_op (go_var rfl (go_if ?_))))
            with_reducible refine go_testB (go_cb (go_cons (go_op (go_var rfl ?_))))
            with_reducible refine go_var rfl ?_
            (with_reducible refine' go_ixT ?hp ?ha ?_); (case hp => walk_at "lw_hp"); (case ha => first | rfl | assumption)
            with_reducible refine go_cons (go_c (go_nil ?_))
            (with_reducible refine' go_is_tup_tuple ?hp ?_); (case hp => walk_at "lw_hp")
            with_reducible refine go_qb (go_iteT (go_callC (go_cons (go_op ?_))))
            with_reducible refine go_var rfl (go_var rfl ?_)
            (with_reducible refine' go_ixT ?hp ?ha ?_); (case hp => walk_at "lw_hp"); (case ha => first | rfl | assumption)
            with_reducible refine go_nil ?_
            refine ⟨_, q, p.nm, rfl, hq6, hqk, hok.n2, by decide, fun b H7 S7 h7 => ?_⟩
            have w7 := S7 _ _ w6
            skip
            refine go_cat w7 h7 (small_le (by have : (pWords q).length ≤ 7 := zl; simp only [List.length_map, List.length_cons]; omega)) (fun c hc => ?_)
            with_reducible refine go_gname ?_
            exact ⟨_, _, _, _, rfl, ((s3.trans s6).trans S7).trans (same_new hc _), by rw [upd_same, et, ← List.map_append, List.cons_append]; rfl, by rw [et, List.length_append]; omega⟩
          | false =>
            with_reducible refine go_cb (go_cons (go_var rfl (go_nil (go_intB ?_))))
            (with_reducible refine' go_ixL ?hp ?ha ?_); (case hp => walk_at "lw_hp"); (case ha => first | rfl | assumption)
            with_reducible refine go_cb (go_cons (go_op (go_var rfl (go_var rfl ?_))))
            (with_reducible refine' go_ixT ?hp ?ha ?_); (case hp => walk_at "lw_hp"); (case ha => first | rfl | assumption)
            with_reducible refine go_nil ?_
            refine go_strP shw (by decide) (fun t ht => ?_)
            refine ⟨_, _, rfl, rfl, line_le (by have : (Str.ofString "").length = 0 := (by decide); omega), ?_⟩
            with_reducible refine go_nil ?_
            refine go_qlst (Nat.le_of_ble_eq_true rfl) (fun m hm6 => ?_)
            have S6 := same_new hm6 (.lst [V.str (Str.ofString "" ++ t)])
            have s6 := s5.trans S6
            have w6 := S6 _ _ w5
            have ra6 := S6 _ _ ra5
            have hqa6 := S6 _ _ hqa
            have hq6 := hq5.mono S6.tk
            generalize upd H5 m (.lst [V.str (Str.ofString "" ++ t)]) = H6 at *
            with_reducible refine go_gname (go_asg (go_op (go_var rfl (go_if ?_))))
            with_reducible refine go_testB (go_cb (go_cons (go_op (go_var rfl ?_))))
            with_reducible refine go_var rfl ?_
            (with_reducible refine' go_ixT ?hp ?ha ?_); (case hp => walk_at "lw_hp"); (case ha => first | rfl | assumption)
            with_reducible refine go_cons (go_c (go_nil ?_))
            (with_reducible refine' go_is_tup_tuple ?hp ?_); (case hp => walk_at "lw_hp")
            with_reducible refine go_qb (go_iteT (go_callC (go_cons (go_op ?_))))
            with_reducible refine go_var rfl (go_var rfl ?_)
            (with_reducible refine' go_ixT ?hp ?ha ?_); (case hp => walk_at "lw_hp"); (case ha => first | rfl | assumption)
            with_reducible refine go_nil ?_
            refine ⟨_, q, p.nm, rfl, hq6, hqk, hok.n2, by decide, fun b H7 S7 h7 => ?_⟩
            have w7 := S7 _ _ w6
            skip
            refine go_cat w7 h7 (small_le (by have : (pWords q).length ≤ 7 := zl; simp only [List.length_map, List.length_cons]; omega)) (fun c hc => ?_)
            with_reducible refine go_gname ?_
            exact ⟨_, _, _, _, rfl, ((s3.trans s6).trans S7).trans (same_new hc _), by rw [upd_same, et, ← List.map_append, List.cons_append]; rfl, by rw [et, List.length_append]; omega⟩
      · by_cases c : j = 0
        · subst c
          with_reducible refine go_asg (go_andV (go_op (go_var rfl (go_c ?_))))
          with_reducible refine go_eqI (go_qb (go_iteDT (by first | assumption | rfl | omega | (simp only [List.length_cons, List.length_nil, List.length_map]; omega)) (go_op (go_op ?_))))
          with_reducible refine go_var rfl (go_c ?_)
          (with_reducible refine' go_ixT ?hp ?ha ?_); (case hp => walk_at "lw_hp"); (case ha => first | rfl | assumption)
          with_reducible refine go_tup (go_cons (go_c (go_cons (go_c ?_))))
          with_reducible refine go_cons (go_c (go_cons (go_c (go_cons ?_))))
          with_reducible refine go_c (go_nil ?_)
          refine go_qtup (Nat.le_of_ble_eq_true rfl) (fun t ht => ?_)
          have S5 := same_new ht (.tup [V.str (Str.ofString "set"), V.str (Str.ofString "take"), V.str (Str.ofString "get"), V.str (Str.ofString "size"), V.str (Str.ofString "unless")])
          refine go_inT3 upd_same rfl rfl ?_
          with_reducible refine go_gname ?_
          exact hn _ _ ⟨by simp [isNm], S5⟩
        · have c' : ¬ (1 + (j : Int) = 1) := by omega
          with_reducible refine go_asg (go_andV (go_op (go_var rfl (go_c ?_))))
          with_reducible refine go_eqI (go_qb (go_iteDF (by first | assumption | omega | decide | decide +kernel | (simp only [List.length_cons, List.length_nil, List.length_map]; omega)) (go_gname ?_)))
          exact hn _ _ ⟨by simp [c], Same.refl _⟩
    · rintro σ H3 ⟨w3, v4, v5, v6, rfl, s3, e3, hln3⟩
      rw [List.take_of_length_le (by omega)] at e3 hln3
      have q3 := s3 _ _ q1
      with_reducible refine go_drop (go_bm (go_var rfl ?_))
      (with_reducible refine' go_qbm ?hp ?_); (case hp => walk_at "lw_hp")
      with_reducible refine go_cons (go_m1 (go_c (go_qm1 (go_var rfl ?_))))
      have hw3 : H3 w3 = some (.lst ((rowW r).map V.str)) := e3
      have hsum := sum_le (wlen_row hok.n2 hok.f2 (by omega) rok)
      have hlw : (rowW r).length ≤ 30 := by show ((r.pls.map Pl.words).flatten).length + 1 ≤ 30; omega
      refine go_joinS hw3 (by rw [ls]; omega) ?_
      have ej : Txt.join (Str.ofString " ") (rowW r) = rowT r := (rowT_w r).symm
      rw [ej]
      with_reducible refine go_nil ?_
      refine go_append q3 (small_line (by simp; omega)) ?_
      have et : (p.rows.take (i + 1)).map rowT = (p.rows.take i).map rowT ++ [rowT r] := by rw [List.take_succ, hr1, List.map_append]; rfl
      exact ⟨_, _, _, _, _, rfl, same_upd hhl (sm.trans s3), by rw [upd_same, et, ← List.cons_append, List.map_append]; rfl⟩
  · rintro σ H' ⟨v2, v3, v4, v5, v6, rfl, sm, q1⟩
    rw [← hRs.length, List.take_length] at q1
    with_reducible refine go_ret (go_var rfl ?_)
    exact k _ _ sm q1
end
end Lw
set_option Elab.async false
set_option linter.all false
set_option maxRecDepth 100000
set_option maxHeartbeats 4000000
namespace Lw
open PySem L2
local macro_rules | `(tactic| walk_at "lw_hp") => `(tactic| (repeat (first | assumption | exact upd_same | (refine' upd_new (by assumption) ?_) | (refine' tup_off (by assumption) (by assumption) ?_) | (refine' lst_off (by assumption) (by assumption) (by assumption) ?_) | (refine' Same.get (by assumption) ?_) | (refine' Off.get (by assumption) (by assumption) ?_) | (refine' upd_oth (by assumption) ?_))))
abbrev s__law_any_part : Stmt := top 35
def spPart (K : PySem.W.Frag) (n : Nat) : Sp := fun vs H Q _ => ∃ (d : Addr) (nm dp : Int), vs = [.ref d, .int nm, .int dp] ∧ Dice K H d ∧ 1 ≤ nm ∧ nm ≤ 8 ∧ 1 ≤ dp ∧ dp ≤ n ∧
  ∀ (v : V) (p : Part) (H' : Hp), p.ok nm dp.toNat → PartAt H' p v → Dice K H' d → Off d H H' → Q v H'
section
variable {P : Program} {w : World} {K : PySem.W.Frag} {mg : Str → Option Value} {base : Heap} {f : Addr} {fd : FuncData}
theorem scs__law_any_part : FnScope ["_law_d", "_law_names", "_law_deep", "_law_way", "_law_one"] ["_law_d", "_law_names", "_law_deep"] (defScope s__law_any_part) := ⟨rfl, rfl, rfl, by decide +kernel, rfl, by decide +kernel, by decide +kernel⟩
theorem ok_part {n : Nat} (F : Fun K "_law_any_part" "_law_any_part" s__law_any_part f fd) (T : Txt mg) (C_law_next : FnC P w K mg base 1 "_law_next" ["_law_dice_here", "_law_many"] (spNext K)) (C_law_any_part : FnC P w K mg base (n + 1) "_law_any_part" ["_law_d", "_law_names", "_law_deep"] (spPart K n)) : FnOk P w K mg base CX0 (n + 2) f fd ["_law_d", "_law_names", "_law_deep"] (spPart K (n + 1)) := by
  refine F.ok scs__law_any_part (fun vs H Q E h => ?_) (fun cdv A outer s H vs Q E hr h => ?_)
  · obtain ⟨d, nm, dp, rfl, _⟩ := h
    rfl
  obtain ⟨d, nm, dp, rfl, D, hn1, hn2, hd1, hd2, k⟩ := h
  have nd := scs__law_any_part.nd
  have hu := hu_of hr
  refine ⟨_, (pss_cons (ps_set (i := 3) nd rfl (Or.inl rfl) (pe_callC C_law_next (hr.mono (by omega)) (by rfl) (pa_cons (pv 0) (pa_cons pe_int pa_nil))))
      (pss_cons (ps_if (PW.pt (pw_and (pt_cmpR op_gt (pv 2) pe_int (nomark _)) (pw_and1 (pt_cmpR op_lt (pv 3) pe_int (nomark _))))) (pss_cons (ps_set (i := 4) nd rfl (Or.inl rfl) (pe_callC C_law_any_part (hr.mono (by omega)) (by rfl) (pa_cons (pv 0) (pa_cons (pv 1) (pa_cons (pe_op op_sub (pv 2) pe_int) pa_nil)))))
      (pss_one (ps_ret (pe_tup (pa_cons (pe_ix (kIxL K) (pe_lst (pa_cons pe_str (pa_cons pe_str (pa_cons pe_str pa_nil)))) (pe_callC C_law_next (hr.mono (by omega)) (by rfl) (pa_cons (pv 0) (pa_cons pe_int pa_nil))) (fun _ _ => rfl)) (pa_cons (pv 4) (pa_cons (pe_callC C_law_any_part (hr.mono (by omega)) (by rfl) (pa_cons (pv 0) (pa_cons (pv 1) (pa_cons (pe_op op_sub (pv 2) pe_int) pa_nil)))) pa_nil))))))) pss_nil)
      (pss_cons (ps_if (pt_cmpR op_lt (pv 3) pe_int (nomark _)) (pss_one (ps_ret (pe_tup (pa_cons pe_str (pa_cons (pe_callC C_law_next (hr.mono (by omega)) (by rfl) (pa_cons (pv 0) (pa_cons (pv 1) pa_nil))) pa_nil))))) pss_nil)
      (pss_one (ps_ret (pe_tup (pa_cons pe_str (pa_cons (pe_ix (kIxL K) (pe_lst (pa_cons (pe_callC C_law_next (hr.mono (by omega)) (by rfl) (pa_cons (pv 0) (pa_cons pe_int pa_nil))) (pa_cons (pe_callC C_law_next (hr.mono (by omega)) (by rfl) (pa_cons (pv 0) (pa_cons pe_int pa_nil))) pa_nil))) (pe_op op_mul (pe_op op_mod (pv 3) pe_int) (pe_callC C_law_next (hr.mono (by omega)) (by rfl) (pa_cons (pv 0) (pa_cons pe_int pa_nil)))) (fun _ _ => rfl)) pa_nil)))))))), ?_⟩
  obtain ⟨m, hm⟩ : ∃ m, dp.toNat = m + 1 := ⟨dp.toNat - 1, by omega⟩
  rw [hm] at k
  with_reducible refine go_seq (go_asg (go_callC (go_cons (go_var rfl ?_))))
  with_reducible refine go_cons (go_c (go_nil ?_))
  with_reducible refine' nx_go (by first | assumption | exact Dice.same (by assumption) (same_new (by assumption) _)) (by omega) (by omega) (fun r H' r0 r1 D' o' => ?_)
  with_reducible refine go_gname (go_seq (go_ifS (go_and (go_test ?_))))
  with_reducible refine go_op (go_var rfl (go_c (go_i0 (go_qb ?_))))
  rename Int => wy
  refine go_iteD (fun c1 => ?_) (fun c1 => ?_)
  · with_reducible refine go_test (go_op (go_var rfl (go_c (go_i0 ?_))))
    with_reducible refine go_qb ?_
    refine go_iteD (fun c2 => ?_) (fun c2 => ?_)
    ·
      with_reducible refine go_seq (go_asg (go_callC (go_cons (go_var rfl ?_))))
      with_reducible refine go_cons (go_var rfl (go_cons (go_op (go_var rfl ?_))))
      with_reducible refine go_c (go_i0 (go_nil ?_))
      refine ⟨d, nm, dp - 1, rfl, D', hn1, hn2, by omega, by omega, fun v1 p1 H1 k1 a1 D1 o1 => ?_⟩
      with_reducible refine go_gname (go_ret (go_tup (go_cons (go_op ?_))))
      with_reducible refine go_lst (go_cons (go_c (go_cons (go_c ?_))))
      with_reducible refine go_cons (go_c (go_nil ?_))
      with_reducible refine' go_qlst (Nat.le_of_ble_eq_true rfl) (fun p hp => ?_)
      with_reducible refine go_callC (go_cons (go_var rfl (go_cons (go_c ?_))))
      with_reducible refine go_nil ?_
      with_reducible refine' nx_go (by first | assumption | exact Dice.same (by assumption) (same_new (by assumption) _)) (by omega) (by omega) (fun r H' r0 r1 D' o' => ?_)
      obtain ⟨o, ho⟩ := at_op3 (r := _) (by assumption) (by assumption)
      (with_reducible refine' go_ixL ?hp ?ha ?_); (case hp => walk_at "lw_hp"); (case ha => first | rfl | assumption)
      with_reducible refine go_cons (go_var rfl (go_cons (go_callC (go_cons ?_))))
      with_reducible refine go_var rfl (go_cons (go_var rfl (go_cons (go_op ?_))))
      with_reducible refine go_var rfl (go_c (go_i0 (go_nil ?_)))
      refine ⟨d, nm, dp - 1, rfl, by assumption, hn1, hn2, by omega, by omega, fun v2 p2 H2 k2 a2 D2 o2 => ?_⟩
      with_reducible refine go_nil ?_
      with_reducible refine' go_qtup (Nat.le_of_ble_eq_true rfl) (fun p hp => ?_)
      have e1 : (dp - 1).toNat = m := by omega
      rw [e1] at k1 k2
      refine k _ (.op o p1 p2) _ ⟨k1, k2⟩ ⟨p, v1, v2, rfl, upd_same, a1.mono ?_, a2.mono ?_⟩ (D2.same (same_new hp _)) ?_
      · (repeat (first | assumption | exact TK.refl _ | (refine' TK.trans ?_ (TK.new (by assumption))) | (refine' TK.trans ?_ (tk_off (by assumption) (by first | assumption | exact Dice.same (by assumption) (same_new (by assumption) _))))))
      · (repeat (first | assumption | exact TK.refl _ | (refine' TK.trans ?_ (TK.new (by assumption))) | (refine' TK.trans ?_ (tk_off (by assumption) (by first | assumption | exact Dice.same (by assumption) (same_new (by assumption) _))))))
      · (repeat (first | assumption | exact Off.refl _ _ | (refine' Off.trans ?_ (Same.off (same_new (by assumption) _))) | (refine' Off.trans ?_ (by assumption))))
    · with_reducible refine go_next (go_seq (go_ifS (go_test (go_op ?_))))
      with_reducible refine go_var rfl (go_c (go_i0 (go_qb ?_)))
      refine go_iteD (fun c3 => ?_) (fun c3 => ?_)
      · with_reducible refine go_ret (go_tup (go_cons (go_c (go_cons ?_))))
        with_reducible refine go_callC (go_cons (go_var rfl (go_cons (go_var rfl ?_))))
        with_reducible refine go_nil ?_
        with_reducible refine' nx_go (by first | assumption | exact Dice.same (by assumption) (same_new (by assumption) _)) (by omega) (by omega) (fun r H' r0 r1 D' o' => ?_)
        with_reducible refine go_nil ?_
        with_reducible refine' go_qtup (Nat.le_of_ble_eq_true rfl) (fun p hp => ?_)
        exact k _ (.name r) _ ⟨r0, r1⟩ ⟨p, rfl, upd_same⟩ (D'.same (same_new hp _)) (by (repeat (first | assumption | exact Off.refl _ _ | (refine' Off.trans ?_ (Same.off (same_new (by assumption) _))) | (refine' Off.trans ?_ (by assumption)))))
      · with_reducible refine go_next (go_ret (go_tup (go_cons (go_c ?_))))
        with_reducible refine go_cons (go_op (go_lst (go_cons (go_callC ?_))))
        with_reducible refine go_cons (go_var rfl (go_cons (go_c (go_nil ?_))))
        with_reducible refine' nx_go (by first | assumption | exact Dice.same (by assumption) (same_new (by assumption) _)) (by omega) (by omega) (fun r H' r0 r1 D' o' => ?_)
        with_reducible refine go_cons (go_callC (go_cons (go_var rfl (go_cons ?_))))
        with_reducible refine go_c (go_nil ?_)
        with_reducible refine' nx_go (by first | assumption | exact Dice.same (by assumption) (same_new (by assumption) _)) (by omega) (by omega) (fun r H' r0 r1 D' o' => ?_)
        with_reducible refine go_nil ?_
        with_reducible refine' go_qlst (Nat.le_of_ble_eq_true rfl) (fun p hp => ?_)
        with_reducible refine go_op (go_op (go_var rfl (go_c ?_)))
        (with_reducible refine' go_i ?cc ?_); (case cc => first | omega | (simp only [CDiv, CMul, CPow]; omega) | (simp only [CDiv, CMul, CPow]; decide))
        with_reducible refine go_callC (go_cons (go_var rfl (go_cons (go_c ?_))))
        with_reducible refine go_nil ?_
        with_reducible refine' nx_go (by first | assumption | exact Dice.same (by assumption) (same_new (by assumption) _)) (by omega) (by omega) (fun r H' r0 r1 D' o' => ?_)
        (with_reducible refine' go_i ?cc ?_); (case cc => first | omega | (simp only [CDiv, CMul, CPow]; omega) | (simp only [CDiv, CMul, CPow]; decide))
        have hb : 0 ≤ wy % 2 * r ∧ wy % 2 * r < 2 := by
          rcases (by omega : wy % 2 = 0 ∨ wy % 2 = 1) with e | e <;> rw [e] <;> omega
        obtain ⟨z, hz, hz'⟩ := at_two (x := V.int _) (y := V.int _) hb.1 hb.2
        (with_reducible refine' go_ixL ?hp ?ha ?_); (case hp => walk_at "lw_hp"); (case ha => first | rfl | assumption)
        with_reducible refine go_nil ?_
        with_reducible refine' go_qtup (Nat.le_of_ble_eq_true rfl) (fun p hp => ?_)
        rcases hz' with rfl | rfl
        · exact k _ (.num _) _ ⟨by assumption, by omega⟩ ⟨p, rfl, upd_same⟩ (D'.same (same_new hp _)) (by (repeat (first | assumption | exact Off.refl _ _ | (refine' Off.trans ?_ (Same.off (same_new (by assumption) _))) | (refine' Off.trans ?_ (by assumption)))))
        · exact k _ (.num _) _ ⟨by assumption, by omega⟩ ⟨p, rfl, upd_same⟩ (D'.same (same_new hp _)) (by (repeat (first | assumption | exact Off.refl _ _ | (refine' Off.trans ?_ (Same.off (same_new (by assumption) _))) | (refine' Off.trans ?_ (by assumption)))))
  · with_reducible refine go_iteF (go_next (go_seq (go_ifS (go_test ?_))))
    with_reducible refine go_op (go_var rfl (go_c (go_i0 (go_qb ?_))))
    refine go_iteD (fun c3 => ?_) (fun c3 => ?_)
    · with_reducible refine go_ret (go_tup (go_cons (go_c (go_cons ?_))))
      with_reducible refine go_callC (go_cons (go_var rfl (go_cons (go_var rfl ?_))))
      with_reducible refine go_nil ?_
      with_reducible refine' nx_go (by first | assumption | exact Dice.same (by assumption) (same_new (by assumption) _)) (by omega) (by omega) (fun r H' r0 r1 D' o' => ?_)
      with_reducible refine go_nil ?_
      with_reducible refine' go_qtup (Nat.le_of_ble_eq_true rfl) (fun p hp => ?_)
      exact k _ (.name r) _ ⟨r0, r1⟩ ⟨p, rfl, upd_same⟩ (D'.same (same_new hp _)) (by (repeat (first | assumption | exact Off.refl _ _ | (refine' Off.trans ?_ (Same.off (same_new (by assumption) _))) | (refine' Off.trans ?_ (by assumption)))))
    · with_reducible refine go_next (go_ret (go_tup (go_cons (go_c ?_))))
      with_reducible refine go_cons (go_op (go_lst (go_cons (go_callC ?_))))
      with_reducible refine go_cons (go_var rfl (go_cons (go_c (go_nil ?_))))
      with_reducible refine' nx_go (by first | assumption | exact Dice.same (by assumption) (same_new (by assumption) _)) (by omega) (by omega) (fun r H' r0 r1 D' o' => ?_)
      with_reducible refine go_cons (go_callC (go_cons (go_var rfl (go_cons ?_))))
      with_reducible refine go_c (go_nil ?_)
      with_reducible refine' nx_go (by first | assumption | exact Dice.same (by assumption) (same_new (by assumption) _)) (by omega) (by omega) (fun r H' r0 r1 D' o' => ?_)
      with_reducible refine go_nil ?_
      with_reducible refine' go_qlst (Nat.le_of_ble_eq_true rfl) (fun p hp => ?_)
      with_reducible refine go_op (go_op (go_var rfl (go_c ?_)))
      (with_reducible refine' go_i ?cc ?_); (case cc => first | omega | (simp only [CDiv, CMul, CPow]; omega) | (simp only [CDiv, CMul, CPow]; decide))
      with_reducible refine go_callC (go_cons (go_var rfl (go_cons (go_c ?_))))
      with_reducible refine go_nil ?_
      with_reducible refine' nx_go (by first | assumption | exact Dice.same (by assumption) (same_new (by assumption) _)) (by omega) (by omega) (fun r H' r0 r1 D' o' => ?_)
      (with_reducible refine' go_i ?cc ?_); (case cc => first | omega | (simp only [CDiv, CMul, CPow]; omega) | (simp only [CDiv, CMul, CPow]; decide))
      have hb : 0 ≤ wy % 2 * r ∧ wy % 2 * r < 2 := by
        rcases (by omega : wy % 2 = 0 ∨ wy % 2 = 1) with e | e <;> rw [e] <;> omega
      obtain ⟨z, hz, hz'⟩ := at_two (x := V.int _) (y := V.int _) hb.1 hb.2
      (with_reducible refine' go_ixL ?hp ?ha ?_); (case hp => walk_at "lw_hp"); (case ha => first | rfl | assumption)
      with_reducible refine go_nil ?_
      with_reducible refine' go_qtup (Nat.le_of_ble_eq_true rfl) (fun p hp => ?_)
      rcases hz' with rfl | rfl
      · exact k _ (.num _) _ ⟨by assumption, by omega⟩ ⟨p, rfl, upd_same⟩ (D'.same (same_new hp _)) (by (repeat (first | assumption | exact Off.refl _ _ | (refine' Off.trans ?_ (Same.off (same_new (by assumption) _))) | (refine' Off.trans ?_ (by assumption)))))
      · exact k _ (.num _) _ ⟨by assumption, by omega⟩ ⟨p, rfl, upd_same⟩ (D'.same (same_new hp _)) (by (repeat (first | assumption | exact Off.refl _ _ | (refine' Off.trans ?_ (Same.off (same_new (by assumption) _))) | (refine' Off.trans ?_ (by assumption)))))
theorem no_part : FnOk P w K mg base CX0 1 f fd ["_law_d", "_law_names", "_law_deep"] (spPart K 0) :=
  ⟨fun vs H Q E h => by obtain ⟨d, nm, dp, rfl, _⟩ := h; rfl, fun A outer s H args us vs Q E _ _ _ _ h => by obtain ⟨d, nm, dp, rfl, _, _, _, h1, h2, _⟩ := h; omega⟩
theorem c_part (F : Fun K "_law_any_part" "_law_any_part" s__law_any_part f fd) (b : Binds K fd ["_law_d", "_law_names", "_law_deep"] []) (m : mg "_law_any_part" = some (.ref f)) (T : Txt mg) (C_law_next : FnC P w K mg base 1 "_law_next" ["_law_dice_here", "_law_many"] (spNext K)) : ∀ n : Nat, FnC P w K mg base (n + 1) "_law_any_part" ["_law_d", "_law_names", "_law_deep"] (spPart K n)
  | 0 => ⟨f, fd, no_part, m, F.kp, b⟩
  | n + 1 => ⟨f, fd, ok_part F T C_law_next (c_part F b m T C_law_next n), m, F.kp, b⟩
end
end Lw
set_option Elab.async false
set_option linter.all false
set_option maxRecDepth 100000
set_option maxHeartbeats 4000000
namespace Lw
open PySem L2
local macro_rules | `(tactic| walk_at "lw_hp") => `(tactic| (repeat (first | assumption | exact upd_same | (refine' upd_new (by assumption) ?_) | (refine' tup_off (by assumption) (by assumption) ?_) | (refine' lst_off (by assumption) (by assumption) (by assumption) ?_) | (refine' Same.get (by assumption) ?_) | (refine' Off.get (by assumption) (by assumption) ?_) | (refine' upd_oth (by assumption) ?_))))
abbrev s__law_any_row : Stmt := top 36
def spRow (K : PySem.W.Frag) : Sp := fun vs H Q _ => ∃ (d : Addr) (nm fl ato many : Int), vs = [.ref d, .int nm, .int fl, .int ato, .int many] ∧ Dice K H d ∧ 1 ≤ nm ∧ nm ≤ 8 ∧ 1 ≤ fl ∧ fl ≤ 4 ∧ 0 ≤ ato ∧ ato < many ∧ many ≤ 58 ∧
  ∀ (v : V) (r : Row) (H' : Hp), r.ok nm fl many → RowAt H' r v → Dice K H' d → Off d H H' → Q v H'
section
variable {P : Program} {w : World} {K : PySem.W.Frag} {mg : Str → Option Value} {base : Heap} {f : Addr} {fd : FuncData}
theorem scs__law_any_row : FnScope ["_law_d", "_law_names", "_law_files", "_law_at", "_law_many", "_law_way", "_law_to", "_law_name", "_law_file"] ["_law_d", "_law_names", "_law_files", "_law_at", "_law_many"] (defScope s__law_any_row) := ⟨rfl, rfl, rfl, by decide +kernel, rfl, by decide +kernel, by decide +kernel⟩
theorem ok_row (F : Fun K "_law_any_row" "_law_any_row" s__law_any_row f fd) (T : Txt mg) (C_law_next : FnC P w K mg base 1 "_law_next" ["_law_dice_here", "_law_many"] (spNext K)) (C_law_any_part : FnC P w K mg base 4 "_law_any_part" ["_law_d", "_law_names", "_law_deep"] (spPart K 3)) : FnOk P w K mg base CX0 5 f fd ["_law_d", "_law_names", "_law_files", "_law_at", "_law_many"] (spRow K) := by
  refine F.ok scs__law_any_row (fun vs H Q E h => ?_) (fun cdv A outer s H vs Q E hr h => ?_)
  · obtain ⟨d, nm, fl, ato, many, rfl, _⟩ := h
    rfl
  obtain ⟨d, nm, fl, ato, many, rfl, D, hn1, hn2, hf1, hf2, ha1, ha2, hm, k⟩ := h
  have nd := scs__law_any_row.nd
  have hu := hu_of hr
  refine ⟨_, (pss_cons (ps_set (i := 5) nd rfl (Or.inl rfl) (pe_callC C_law_next (hr.mono (by omega)) (by rfl) (pa_cons (pv 0) (pa_cons pe_int pa_nil))))
      (pss_cons (ps_par (i := 7) (j := 8) (by rfl) nd rfl rfl (by decide) rfl rfl (pa_cons (pe_callC C_law_next (hr.mono (by omega)) (by rfl) (pa_cons (pv 0) (pa_cons (pv 1) pa_nil))) (pa_cons (pe_callC C_law_next (hr.mono (by omega)) (by rfl) (pa_cons (pv 0) (pa_cons (pv 2) pa_nil))) pa_nil)) (by rfl))
      (pss_cons (ps_if (pt_cmpR op_lt (pv 5) pe_int (nomark _)) (pss_one (ps_ret (pe_tup (pa_cons pe_str (pa_cons (pv 7) (pa_cons (pe_callC C_law_any_part (hr.mono (by omega)) (by rfl) (pa_cons (pv 0) (pa_cons (pv 1) (pa_cons pe_int pa_nil)))) pa_nil)))))) pss_nil)
      (pss_cons (ps_if (pt_cmpR op_lt (pv 5) pe_int (nomark _)) (pss_one (ps_ret (pe_ifExp (pt_cmpR op_eq (pv 5) pe_int (nomark _)) (pe_tup (pa_cons pe_str (pa_cons (pv 7) pa_nil))) (pe_tup (pa_cons pe_str (pa_cons (pv 7) (pa_cons (pv 8) pa_nil))))))) pss_nil)
      (pss_cons (ps_if (pt_cmpR op_lt (pv 5) pe_int (nomark _)) (pss_one (ps_ret (pe_tup (pa_cons pe_str (pa_cons (pv 8) (pa_cons (pe_callC C_law_any_part (hr.mono (by omega)) (by rfl) (pa_cons (pv 0) (pa_cons (pv 1) (pa_cons pe_int pa_nil)))) pa_nil)))))) pss_nil)
      (pss_cons (ps_if (pt_cmpR op_eq (pv 5) pe_int (nomark _)) (pss_one (ps_ret (pe_tup (pa_cons pe_str (pa_cons (pv 8) (pa_cons (pe_tup (pa_cons pe_str (pa_cons (pe_callC C_law_next (hr.mono (by omega)) (by rfl) (pa_cons (pv 0) (pa_cons pe_int pa_nil))) pa_nil))) (pa_cons (pe_callC C_law_any_part (hr.mono (by omega)) (by rfl) (pa_cons (pv 0) (pa_cons (pv 1) (pa_cons pe_int pa_nil)))) pa_nil))))))) pss_nil)
      (pss_cons (ps_if (pt_cmpR op_eq (pv 5) pe_int (nomark _)) (pss_one (ps_ret (pe_tup (pa_cons pe_str (pa_cons (pv 8) (pa_cons (pe_ix (kIxL K) (pe_lst (pa_cons (pe_tup (pa_cons pe_str (pa_cons (pe_callC C_law_next (hr.mono (by omega)) (by rfl) (pa_cons (pv 0) (pa_cons pe_int pa_nil))) pa_nil))) (pa_cons (pe_callC C_law_any_part (hr.mono (by omega)) (by rfl) (pa_cons (pv 0) (pa_cons (pv 1) (pa_cons pe_int pa_nil)))) pa_nil))) (pe_callC C_law_next (hr.mono (by omega)) (by rfl) (pa_cons (pv 0) (pa_cons pe_int pa_nil))) (fun _ _ => rfl)) pa_nil)))))) pss_nil)
      (pss_cons (ps_if (pt_cmpR op_eq (pv 5) pe_int (nomark _)) (pss_one (ps_ret (pe_tup (pa_cons pe_str (pa_cons (pv 7) (pa_cons (pv 8) (pa_cons (pe_tup (pa_cons pe_str (pa_cons (pe_callC C_law_next (hr.mono (by omega)) (by rfl) (pa_cons (pv 0) (pa_cons pe_int pa_nil))) pa_nil))) pa_nil))))))) pss_nil)
      (pss_cons (ps_if (pt_cmpR op_lt (pv 5) pe_int (nomark _)) (pss_one (ps_ret (pe_tup (pa_cons pe_str (pa_cons (pe_callC C_law_any_part (hr.mono (by omega)) (by rfl) (pa_cons (pv 0) (pa_cons (pv 1) (pa_cons pe_int pa_nil)))) pa_nil))))) pss_nil)
      (pss_cons (ps_if (pt_cmpR op_eq (pv 5) pe_int (nomark _)) (pss_one (ps_ret (pe_tup (pa_cons pe_str pa_nil)))) pss_nil)
      (pss_cons (ps_set (i := 6) nd rfl (Or.inl rfl) (pe_ix (kIxL K) (pe_lst (pa_cons (pe_callB (c_min rfl) (by rfl) T.n_min (by decide +kernel) (pa_cons (pv 4) (pa_cons (pe_op op_add (pe_op op_add (pv 3) pe_int) (pe_callC C_law_next (hr.mono (by omega)) (by rfl) (pa_cons (pv 0) (pa_cons pe_int pa_nil)))) pa_nil))) (pa_cons (pe_callC C_law_next (hr.mono (by omega)) (by rfl) (pa_cons (pv 0) (pa_cons (pe_op op_add (pv 4) pe_int) pa_nil))) pa_nil))) (pe_op op_fdiv (pe_callC C_law_next (hr.mono (by omega)) (by rfl) (pa_cons (pv 0) (pa_cons pe_int pa_nil))) pe_int) (fun _ _ => rfl)))
      (pss_one (ps_ret (pe_ifExp (pt_cmpR op_lt (pv 5) pe_int (nomark _)) (pe_tup (pa_cons pe_str (pa_cons (pv 7) (pa_cons (pv 6) pa_nil)))) (pe_tup (pa_cons pe_str (pa_cons (pe_ifExp (pt_cmpR op_le (pv 6) (pv 4) (nomark _)) (pe_callB (c_max rfl) (by rfl) T.n_max (by decide +kernel) (pa_cons (pv 6) (pa_cons (pe_op op_add (pv 3) pe_int) pa_nil))) (pv 4)) pa_nil))))))))))))))))), ?_⟩
  refine go_seq (go_asg (go_callC ?_))
  with_reducible refine go_cons (go_var rfl (go_cons (go_c (go_nil ?_))))
  refine nx_go D (by omega) (by omega) (fun wy Ha wy0 wy1 Da oa => ?_)
  with_reducible refine go_gname (go_seq (go_par (go_cons (go_callC ?_))))
  with_reducible refine go_cons (go_var rfl (go_cons (go_var rfl (go_nil ?_))))
  refine nx_go Da (by omega) (by omega) (fun nmr Hb nm0 nm1 Db ob => ?_)
  with_reducible refine go_cons (go_callC (go_cons (go_var rfl (go_cons ?_))))
  with_reducible refine go_var rfl (go_nil ?_)
  refine nx_go Db (by omega) (by omega) (fun fr Hc f0 f1 Dc oc => ?_)
  with_reducible refine go_nil (go_gpar (go_seq (go_ifS (go_test ?_))))
  with_reducible refine go_op (go_var rfl (go_c (go_i0 (go_qb ?_))))
  refine go_iteD (fun c => ?_) (fun c => ?_)
  · with_reducible refine go_ret (go_tup (go_cons (go_c (go_cons ?_))))
    with_reducible refine go_var rfl (go_cons (go_callC (go_cons (go_var rfl ?_))))
    with_reducible refine go_cons (go_var rfl (go_cons (go_c (go_nil ?_))))
    refine ⟨d, nm, 3, rfl, Dc, hn1, hn2, by omega, by omega, fun v1 p1 H1 k1 a1 D1 o1 => ?_⟩
    with_reducible refine go_nil ?_
    with_reducible refine' go_qtup (Nat.le_of_ble_eq_true rfl) (fun p hp => ?_)
    exact k _ (.set nmr p1) _ ⟨nm0, nm1, k1⟩ ⟨p, _, rfl, upd_same, v1, rfl, a1.mono (by (repeat (first | assumption | exact TK.refl _ | (refine' TK.trans ?_ (TK.new (by assumption))) | (refine' TK.trans ?_ (tk_off (by assumption) (by first | assumption | exact Dice.same (by assumption) (same_new (by assumption) _)))))))⟩ (D1.same (same_new hp _)) (by (repeat (first | assumption | exact Off.refl _ _ | (refine' Off.trans ?_ (Same.off (same_new (by assumption) _))) | (refine' Off.trans ?_ (by assumption)))))
  with_reducible refine go_next (go_seq (go_ifS (go_test (go_op ?_))))
  with_reducible refine go_var rfl (go_c (go_i0 (go_qb ?_)))
  refine go_iteD (fun c => ?_) (fun c => ?_)
  · with_reducible refine go_ret (go_if (go_test (go_op (go_var rfl ?_))))
    with_reducible refine go_c (go_eqI (go_qb ?_))
    refine go_iteD (fun c => ?_) (fun c => ?_)
    · with_reducible refine go_tup (go_cons (go_c (go_cons (go_var rfl ?_))))
      with_reducible refine go_nil ?_
      with_reducible refine' go_qtup (Nat.le_of_ble_eq_true rfl) (fun p hp => ?_)
      exact k _ (.take nmr) _ ⟨nm0, nm1⟩ ⟨p, _, rfl, upd_same, rfl⟩ (Dc.same (same_new hp _)) (by (repeat (first | assumption | exact Off.refl _ _ | (refine' Off.trans ?_ (Same.off (same_new (by assumption) _))) | (refine' Off.trans ?_ (by assumption)))))
    · with_reducible refine go_tup (go_cons (go_c (go_cons (go_var rfl ?_))))
      with_reducible refine go_cons (go_var rfl (go_nil ?_))
      with_reducible refine' go_qtup (Nat.le_of_ble_eq_true rfl) (fun p hp => ?_)
      exact k _ (.size nmr fr) _ ⟨nm0, nm1, f0, f1⟩ ⟨p, _, rfl, upd_same, rfl⟩ (Dc.same (same_new hp _)) (by (repeat (first | assumption | exact Off.refl _ _ | (refine' Off.trans ?_ (Same.off (same_new (by assumption) _))) | (refine' Off.trans ?_ (by assumption)))))
  with_reducible refine go_next (go_seq (go_ifS (go_test (go_op ?_))))
  with_reducible refine go_var rfl (go_c (go_i0 (go_qb ?_)))
  refine go_iteD (fun c => ?_) (fun c => ?_)
  · with_reducible refine go_ret (go_tup (go_cons (go_c (go_cons ?_))))
    with_reducible refine go_var rfl (go_cons (go_callC (go_cons (go_var rfl ?_))))
    with_reducible refine go_cons (go_var rfl (go_cons (go_c (go_nil ?_))))
    refine ⟨d, nm, 2, rfl, Dc, hn1, hn2, by omega, by omega, fun v1 p1 H1 k1 a1 D1 o1 => ?_⟩
    with_reducible refine go_nil ?_
    with_reducible refine' go_qtup (Nat.le_of_ble_eq_true rfl) (fun p hp => ?_)
    exact k _ (.add fr p1) _ ⟨f0, f1, Part.ok_mono (by decide) k1⟩ ⟨p, _, rfl, upd_same, v1, rfl, a1.mono (by (repeat (first | assumption | exact TK.refl _ | (refine' TK.trans ?_ (TK.new (by assumption))) | (refine' TK.trans ?_ (tk_off (by assumption) (by first | assumption | exact Dice.same (by assumption) (same_new (by assumption) _)))))))⟩ (D1.same (same_new hp _)) (by (repeat (first | assumption | exact Off.refl _ _ | (refine' Off.trans ?_ (Same.off (same_new (by assumption) _))) | (refine' Off.trans ?_ (by assumption)))))
  with_reducible refine go_next (go_seq (go_ifS (go_test (go_op ?_))))
  with_reducible refine go_var rfl (go_c (go_eqI (go_qb ?_)))
  refine go_iteD (fun c => ?_) (fun c => ?_)
  · with_reducible refine go_ret (go_tup (go_cons (go_c (go_cons ?_))))
    with_reducible refine go_var rfl (go_cons (go_tup (go_cons (go_c ?_))))
    with_reducible refine go_cons (go_callC (go_cons (go_var rfl (go_cons ?_))))
    with_reducible refine go_c (go_nil ?_)
    with_reducible refine' nx_go (by first | assumption | exact Dice.same (by assumption) (same_new (by assumption) _)) (by omega) (by omega) (fun r H' r0 r1 D' o' => ?_)
    with_reducible refine go_nil ?_
    with_reducible refine' go_qtup (Nat.le_of_ble_eq_true rfl) (fun p hp => ?_)
    with_reducible refine go_cons (go_callC (go_cons (go_var rfl (go_cons ?_))))
    with_reducible refine go_var rfl (go_cons (go_c (go_nil ?_)))
    refine ⟨d, nm, 2, rfl, by first | assumption | exact Dice.same (by assumption) (same_new (by assumption) _), hn1, hn2, by omega, by omega, fun v1 p1 H1 k1 a1 D1 o1 => ?_⟩
    have t1 : PartAt H1 (.num r) (.ref p) := ⟨p, rfl, by walk_at "lw_hp"⟩
    have q1 : PartAt H1 (.num r) (.ref p) ∧ 0 ≤ r ∧ r < 3 := ⟨t1, r0, r1⟩
    refine go_nil (go_qtup (Nat.le_of_ble_eq_true rfl) (fun p' hp' => ?_))
    exact k _ (.put fr (.num r) p1) _ ⟨f0, f1, ⟨r0, by omega⟩, Part.ok_mono (by decide) k1⟩ ⟨p', _, rfl, upd_same, _, v1, rfl, t1.mono (by (repeat (first | assumption | exact TK.refl _ | (refine' TK.trans ?_ (TK.new (by assumption))) | (refine' TK.trans ?_ (tk_off (by assumption) (by first | assumption | exact Dice.same (by assumption) (same_new (by assumption) _))))))), a1.mono (by (repeat (first | assumption | exact TK.refl _ | (refine' TK.trans ?_ (TK.new (by assumption))) | (refine' TK.trans ?_ (tk_off (by assumption) (by first | assumption | exact Dice.same (by assumption) (same_new (by assumption) _)))))))⟩ (D1.same (same_new hp' _)) (by (repeat (first | assumption | exact Off.refl _ _ | (refine' Off.trans ?_ (Same.off (same_new (by assumption) _))) | (refine' Off.trans ?_ (by assumption)))))
  with_reducible refine go_next (go_seq (go_ifS (go_test (go_op ?_))))
  with_reducible refine go_var rfl (go_c (go_eqI (go_qb ?_)))
  refine go_iteD (fun c => ?_) (fun c => ?_)
  · with_reducible refine go_ret (go_tup (go_cons (go_c (go_cons ?_))))
    with_reducible refine go_var rfl (go_cons (go_op (go_lst (go_cons ?_))))
    with_reducible refine go_tup (go_cons (go_c (go_cons (go_callC ?_))))
    with_reducible refine go_cons (go_var rfl (go_cons (go_c (go_nil ?_))))
    with_reducible refine' nx_go (by first | assumption | exact Dice.same (by assumption) (same_new (by assumption) _)) (by omega) (by omega) (fun r H' r0 r1 D' o' => ?_)
    with_reducible refine go_nil ?_
    with_reducible refine' go_qtup (Nat.le_of_ble_eq_true rfl) (fun p hp => ?_)
    with_reducible refine go_cons (go_callC (go_cons (go_var rfl (go_cons ?_))))
    with_reducible refine go_var rfl (go_cons (go_c (go_nil ?_)))
    refine ⟨d, nm, 2, rfl, by first | assumption | exact Dice.same (by assumption) (same_new (by assumption) _), hn1, hn2, by omega, by omega, fun v1 p1 H1 k1 a1 D1 o1 => ?_⟩
    have t1 : PartAt H1 (.num r) (.ref p) := ⟨p, rfl, by walk_at "lw_hp"⟩
    have q1 : 0 ≤ r ∧ r < 6 := ⟨r0, r1⟩
    refine go_nil (go_qlst (Nat.le_of_ble_eq_true rfl) (fun p' hp' => ?_))
    with_reducible refine go_callC (go_cons (go_var rfl (go_cons (go_c ?_))))
    with_reducible refine go_nil ?_
    with_reducible refine' nx_go (by first | assumption | exact Dice.same (by assumption) (same_new (by assumption) _)) (by omega) (by omega) (fun r H' r0 r1 D' o' => ?_)
    obtain ⟨z, hz, hz'⟩ := at_two (x := V.ref p) (y := v1) r0 r1
    (with_reducible refine' go_ixL ?hp ?ha ?_); (case hp => walk_at "lw_hp"); (case ha => first | rfl | assumption)
    with_reducible refine go_nil ?_
    refine go_qtup (Nat.le_of_ble_eq_true rfl) (fun p2 hp2 => ?_)
    rcases hz' with rfl | rfl
    · exact k _ (.cut fr (.num _)) _ ⟨f0, f1, q1.1, by omega⟩ ⟨p2, _, rfl, upd_same, _, rfl, t1.mono (by (repeat (first | assumption | exact TK.refl _ | (refine' TK.trans ?_ (TK.new (by assumption))) | (refine' TK.trans ?_ (tk_off (by assumption) (by first | assumption | exact Dice.same (by assumption) (same_new (by assumption) _)))))))⟩ (D'.same (same_new hp2 _)) (by (repeat (first | assumption | exact Off.refl _ _ | (refine' Off.trans ?_ (Same.off (same_new (by assumption) _))) | (refine' Off.trans ?_ (by assumption)))))
    · exact k _ (.cut fr p1) _ ⟨f0, f1, Part.ok_mono (by decide) k1⟩ ⟨p2, _, rfl, upd_same, _, rfl, a1.mono (by (repeat (first | assumption | exact TK.refl _ | (refine' TK.trans ?_ (TK.new (by assumption))) | (refine' TK.trans ?_ (tk_off (by assumption) (by first | assumption | exact Dice.same (by assumption) (same_new (by assumption) _)))))))⟩ (D'.same (same_new hp2 _)) (by (repeat (first | assumption | exact Off.refl _ _ | (refine' Off.trans ?_ (Same.off (same_new (by assumption) _))) | (refine' Off.trans ?_ (by assumption)))))
  with_reducible refine go_next (go_seq (go_ifS (go_test (go_op ?_))))
  with_reducible refine go_var rfl (go_c (go_eqI (go_qb ?_)))
  refine go_iteD (fun c => ?_) (fun c => ?_)
  · with_reducible refine go_ret (go_tup (go_cons (go_c (go_cons ?_))))
    with_reducible refine go_var rfl (go_cons (go_var rfl (go_cons (go_tup ?_))))
    with_reducible refine go_cons (go_c (go_cons (go_callC (go_cons ?_))))
    with_reducible refine go_var rfl (go_cons (go_c (go_nil ?_)))
    with_reducible refine' nx_go (by first | assumption | exact Dice.same (by assumption) (same_new (by assumption) _)) (by omega) (by omega) (fun r H' r0 r1 D' o' => ?_)
    with_reducible refine go_nil ?_
    with_reducible refine' go_qtup (Nat.le_of_ble_eq_true rfl) (fun p hp => ?_)
    with_reducible refine go_nil ?_
    with_reducible refine' go_qtup (Nat.le_of_ble_eq_true rfl) (fun p hp => ?_)
    exact k _ (.get nmr fr (.num r)) _ ⟨nm0, nm1, f0, f1, r0, by omega⟩ ⟨p, _, rfl, upd_same, _, rfl, ⟨_, rfl, by walk_at "lw_hp"⟩⟩ ((D'.same (same_new (by assumption) _)).same (same_new hp _)) (by (repeat (first | assumption | exact Off.refl _ _ | (refine' Off.trans ?_ (Same.off (same_new (by assumption) _))) | (refine' Off.trans ?_ (by assumption)))))
  with_reducible refine go_next (go_seq (go_ifS (go_test (go_op ?_))))
  with_reducible refine go_var rfl (go_c (go_i0 (go_qb ?_)))
  refine go_iteD (fun c => ?_) (fun c => ?_)
  · with_reducible refine go_ret (go_tup (go_cons (go_c (go_cons ?_))))
    with_reducible refine go_callC (go_cons (go_var rfl (go_cons (go_var rfl ?_))))
    with_reducible refine go_cons (go_c (go_nil ?_))
    refine ⟨d, nm, 3, rfl, Dc, hn1, hn2, by omega, by omega, fun v1 p1 H1 k1 a1 D1 o1 => ?_⟩
    with_reducible refine go_nil ?_
    with_reducible refine' go_qtup (Nat.le_of_ble_eq_true rfl) (fun p hp => ?_)
    exact k _ (.send p1) _ k1 ⟨p, _, rfl, upd_same, v1, rfl, a1.mono (by (repeat (first | assumption | exact TK.refl _ | (refine' TK.trans ?_ (TK.new (by assumption))) | (refine' TK.trans ?_ (tk_off (by assumption) (by first | assumption | exact Dice.same (by assumption) (same_new (by assumption) _)))))))⟩ (D1.same (same_new hp _)) (by (repeat (first | assumption | exact Off.refl _ _ | (refine' Off.trans ?_ (Same.off (same_new (by assumption) _))) | (refine' Off.trans ?_ (by assumption)))))
  with_reducible refine go_next (go_seq (go_ifS (go_test (go_op ?_))))
  with_reducible refine go_var rfl (go_c (go_eqI (go_qb ?_)))
  refine go_iteD (fun c => ?_) (fun c => ?_)
  · with_reducible refine go_ret (go_tup (go_cons (go_c (go_nil ?_))))
    with_reducible refine' go_qtup (Nat.le_of_ble_eq_true rfl) (fun p hp => ?_)
    exact k _ .mark _ True.intro ⟨p, _, rfl, upd_same, rfl⟩ (Dc.same (same_new hp _)) (by (repeat (first | assumption | exact Off.refl _ _ | (refine' Off.trans ?_ (Same.off (same_new (by assumption) _))) | (refine' Off.trans ?_ (by assumption)))))
  with_reducible refine go_next (go_seq (go_asg (go_op (go_lst ?_))))
  with_reducible refine go_cons (go_cb (go_cons (go_var rfl (go_cons ?_))))
  with_reducible refine go_op (go_op (go_var rfl (go_c (go_i0 ?_))))
  with_reducible refine go_callC (go_cons (go_var rfl (go_cons (go_c ?_))))
  with_reducible refine go_nil ?_
  refine nx_go Dc (by omega) (by omega) (fun t1 H1 t10 t11 D1 o1 => ?_)
  with_reducible refine go_i0 (go_nil (go_min (go_cons (go_callC ?_))))
  with_reducible refine go_cons (go_var rfl (go_cons (go_op (go_var rfl ?_))))
  with_reducible refine go_c (go_i0 (go_nil ?_))
  refine nx_go D1 (by omega) (by omega) (fun t2 H2 t20 t21 D2 o2 => ?_)
  with_reducible refine go_nil ?_
  refine go_qlst (Nat.le_of_ble_eq_true rfl) (fun p hp => ?_)
  with_reducible refine go_op (go_callC (go_cons (go_var rfl (go_cons ?_))))
  with_reducible refine go_c (go_nil ?_)
  refine nx_go (D2.same (same_new hp _)) (by omega) (by omega) (fun t3 H3 t30 t31 D3 o3 => ?_)
  with_reducible refine go_c ?_
  (with_reducible refine' go_i ?cc ?_); (case cc => first | omega | (simp only [CDiv, CMul, CPow]; omega) | (simp only [CDiv, CMul, CPow]; decide))
  obtain ⟨to, hz, hto⟩ : ∃ to, atI [V.int (min many (ato + 2 + t1)), V.int t2] (t3 / 2) = some (V.int to) ∧ 0 ≤ to ∧ to ≤ many := by
    obtain ⟨z, hz, hz'⟩ := at_two (x := V.int (min many (ato + 2 + t1))) (y := V.int t2) (r := t3 / 2) (by omega) (by omega)
    rcases hz' with rfl | rfl
    · exact ⟨_, hz, by omega, by omega⟩
    · exact ⟨_, hz, by omega, by omega⟩
  (with_reducible refine' go_ixL ?hp ?ha ?_); (case hp => walk_at "lw_hp"); (case ha => first | rfl | assumption)
  with_reducible refine go_gname (go_ret (go_if (go_test (go_op ?_))))
  with_reducible refine go_var rfl (go_c (go_i0 (go_qb ?_)))
  refine go_iteD (fun c => ?_) (fun c => ?_)
  · with_reducible refine go_tup (go_cons (go_c (go_cons (go_var rfl ?_))))
    with_reducible refine go_cons (go_var rfl (go_nil ?_))
    refine go_qtup (Nat.le_of_ble_eq_true rfl) (fun p' hp' => ?_)
    exact k _ (.unl nmr to) _ ⟨nm0, nm1, hto.1, hto.2⟩ ⟨p', _, rfl, upd_same, rfl⟩ (D3.same (same_new hp' _)) (by (repeat (first | assumption | exact Off.refl _ _ | (refine' Off.trans ?_ (Same.off (same_new (by assumption) _))) | (refine' Off.trans ?_ (by assumption)))))
  · with_reducible refine go_tup (go_cons (go_c (go_cons (go_if ?_))))
    with_reducible refine go_test (go_op (go_var rfl (go_var rfl (go_i0 ?_))))
    with_reducible refine go_qb (go_iteDT (by first | assumption | rfl | omega | (simp only [List.length_cons, List.length_nil, List.length_map]; omega)) (go_cb (go_cons (go_var rfl ?_))))
    with_reducible refine go_cons (go_op (go_var rfl (go_c (go_i0 ?_))))
    with_reducible refine go_nil (go_max (go_nil ?_))
    refine go_qtup (Nat.le_of_ble_eq_true rfl) (fun p' hp' => ?_)
    exact k _ (.go (max to (ato + 1))) _ ⟨by omega, by omega⟩ ⟨p', _, rfl, upd_same, rfl⟩ (D3.same (same_new hp' _)) (by (repeat (first | assumption | exact Off.refl _ _ | (refine' Off.trans ?_ (Same.off (same_new (by assumption) _))) | (refine' Off.trans ?_ (by assumption)))))
end
end Lw
set_option Elab.async false
set_option linter.all false
set_option maxRecDepth 100000
set_option maxHeartbeats 4000000
namespace Lw
open PySem L2
local macro_rules | `(tactic| walk_at "lw_hp") => `(tactic| (repeat (first | assumption | exact upd_same | (refine' upd_new (by assumption) ?_) | (refine' tup_off (by assumption) (by assumption) ?_) | (refine' lst_off (by assumption) (by assumption) (by assumption) ?_) | (refine' Same.get (by assumption) ?_) | (refine' Off.get (by assumption) (by assumption) ?_) | (refine' upd_oth (by assumption) ?_))))
abbrev s__law_any_program : Stmt := top 37
structure RL (K : PySem.W.Frag) (d L : Addr) (H4 : Hp) (rs : List Row) (vs : List V) (H : Hp) : Prop where
  hL : H4 L = none
  nL : d ≠ L
  e : H L = some (.lst vs)
  R : RowsAt H rs vs
  D : Dice K H d
  o : Off d H4 H
section
variable {K : PySem.W.Frag} {d L p : Addr} {H4 H H' : Hp} {rs : List Row} {vs xs : List V} {v : V} {r : Row} {j : Nat}
theorem RL.new (h : RL K d L H4 rs vs H) (hp : H p = none) (ob : HO) : RL K d L H4 rs vs (upd H p ob) :=
  ⟨h.hL, h.nL, upd_new hp h.e, h.R.mono (TK.new hp), h.D.same (same_new hp _), h.o.trans (same_new hp _).off⟩
theorem RL.off (h : RL K d L H4 rs vs H) (D' : Dice K H' d) (o : Off d H H') : RL K d L H4 rs vs H' :=
  ⟨h.hL, h.nL, o _ _ h.e h.nL.symm, h.R.mono (h.D.tk o), D', h.o.trans o⟩
theorem RL.set (h : RL K d L H4 rs vs H) (a : RowAt H r v) (j : Nat) : RL K d L H4 (rs.set j r) (vs.set j v) (upd H L (.lst (vs.set j v))) :=
  ⟨h.hL, h.nL, upd_same, (h.R.set a).mono (TK.updL h.e), h.D.updL h.e h.nL, off_fresh h.hL h.o⟩
theorem RL.updF (h : RL K d L H4 rs vs H) (hn : H4 p = none) {ys : List V} (hp : H p = some (.lst ys)) (n1 : L ≠ p) (n2 : d ≠ p) (ob : HO) : RL K d L H4 rs vs (upd H p ob) :=
  ⟨h.hL, h.nL, upd_oth n1 h.e, h.R.mono (TK.updL hp), h.D.updL hp n2, off_fresh hn h.o⟩
theorem RL.snoc (h : RL K d L H4 rs vs H) (a : RowAt H r v) : RL K d L H4 (rs ++ [r]) (vs ++ [v]) (upd H L (.lst (vs ++ [v]))) :=
  ⟨h.hL, h.nL, upd_same, (h.R.snoc a).mono (TK.updL h.e), h.D.updL h.e h.nL, off_fresh h.hL h.o⟩
end
def spProg (K : PySem.W.Frag) : Sp := fun vs H Q _ => ∃ (d : Addr) (most : Int), vs = [.ref d, .int most] ∧ Dice K H d ∧ 0 ≤ most ∧ most ≤ 58 ∧
  ∀ (v : V) (p : Prog) (H' : Hp), p.Ok → ProgAt H' p v → Dice K H' d → Off d H H' → Q v H'
section
variable {P : Program} {w : World} {K : PySem.W.Frag} {mg : Str → Option Value} {base : Heap} {f : Addr} {fd : FuncData}
theorem scs__law_any_program : FnScope ["_law_d", "_law_most", "_law_loop", "_law_many", "_law_rows", "_law_names", "_law_files", "_law_at", "_law_row"] ["_law_d", "_law_most"] (defScope s__law_any_program) := ⟨rfl, rfl, rfl, by decide +kernel, rfl, by decide +kernel, by decide +kernel⟩
theorem ok_prog (F : Fun K "_law_any_program" "_law_any_program" s__law_any_program f fd) (T : Txt mg) (C_law_next : FnC P w K mg base 1 "_law_next" ["_law_dice_here", "_law_many"] (spNext K)) (C_law_any_row : FnC P w K mg base 5 "_law_any_row" ["_law_d", "_law_names", "_law_files", "_law_at", "_law_many"] (spRow K)) : FnOk P w K mg base CX0 6 f fd ["_law_d", "_law_most"] (spProg K) := by
  refine F.ok scs__law_any_program (fun vs H Q E h => ?_) (fun cdv A outer s H vs Q E hr h => ?_)
  · obtain ⟨d, most, rfl, _⟩ := h
    rfl
  obtain ⟨d, most, rfl, D, hm1, hm2, k⟩ := h
  have nd := scs__law_any_program.nd
  have hu := hu_of hr
  refine ⟨_, (pss_cons (ps_asg (pe_tup (pa_cons (pe_op op_add pe_int (pe_callC C_law_next (hr.mono (by omega)) (by rfl) (pa_cons (pv 0) (pa_cons pe_int pa_nil)))) (pa_cons (pe_op op_add pe_int (pe_callC C_law_next (hr.mono (by omega)) (by rfl) (pa_cons (pv 0) (pa_cons pe_int pa_nil)))) pa_nil))) (kPgT K (by rfl) (pgs_cons (pg_name (i := 5) nd rfl (Or.inr rfl)) (pgs_cons (pg_name (i := 6) nd rfl (Or.inr rfl)) pgs_nil))))
      (pss_cons (ps_set (i := 2) nd rfl (Or.inl rfl) (pe_cmpR op_eq (pe_callC C_law_next (hr.mono (by omega)) (by rfl) (pa_cons (pv 0) (pa_cons pe_int pa_nil))) pe_int (nomark _)))
      (pss_cons (ps_set (i := 3) nd rfl (Or.inr rfl) (pe_callC C_law_next (hr.mono (by omega)) (by rfl) (pa_cons (pv 0) (pa_cons (pe_op op_add (pv 1) pe_int) pa_nil))))
      (pss_cons (ps_setLc (i := 4) rfl nd rfl rfl (sw_true rfl rfl rfl rfl) (pi_range1 (by rfl) T.n_range (pa_cons (pv 3) pa_nil)) (blkOk_by (own := [("_law_at", 7)]) (by show blkC ["_law_d", "_law_most", "_law_loop", "_law_many", "_law_rows", "_law_names", "_law_files", "_law_at", "_law_row"] (defScope s__law_any_program) _ _ = true; decide +kernel)) (fun _ _ _ _ _ => (pg_name (i := 7) nd rfl (Or.inl rfl))) (fun _ _ _ _ _ => pts_nil) (fun _ _ _ _ _ => (pe_callC C_law_any_row (hr.mono (by omega)) (by rfl) (pa_cons (pv 0) (pa_cons (pv 5) (pa_cons (pv 6) (pa_cons (pv 7) (pa_cons (pv 3) pa_nil))))))))
      (pss_cons (ps_if (PW.pt (pw_and (pt_val (pv 2)) (pw_and1 (pt_cmpR op_gt (pv 3) pe_int (nomark _))))) (pss_cons (ps_set (i := 7) nd rfl (Or.inl rfl) (pe_callC C_law_next (hr.mono (by omega)) (by rfl) (pa_cons (pv 0) (pa_cons (pe_op op_sub (pv 3) pe_int) pa_nil))))
      (pss_cons (ps_asg (pe_tup (pa_cons pe_str (pa_cons (pe_op op_sub (pv 5) pe_int) (pa_cons (pe_tup (pa_cons pe_str (pa_cons (pe_op op_add pe_int (pe_callC C_law_next (hr.mono (by omega)) (by rfl) (pa_cons (pv 0) (pa_cons pe_int pa_nil)))) pa_nil))) pa_nil)))) (pg_sub (pv 4) pe_int set_list))
      (pss_cons (ps_asg (pe_tup (pa_cons pe_str (pa_cons (pe_op op_sub (pv 5) pe_int) (pa_cons (pe_tup (pa_cons pe_str (pa_cons (pe_tup (pa_cons pe_str (pa_cons (pe_op op_sub (pv 5) pe_int) pa_nil))) (pa_cons (pe_tup (pa_cons pe_str (pa_cons pe_int pa_nil))) pa_nil)))) pa_nil)))) (pg_sub (pv 4) (pe_op op_sub (pv 3) pe_int) set_list))
      (pss_cons (ps_asg (pe_tup (pa_cons pe_str (pa_cons (pe_op op_sub (pv 5) pe_int) (pa_cons (pv 3) pa_nil)))) (pg_sub (pv 4) (pe_op op_sub (pv 3) pe_int) set_list))
      (pss_cons (ps_expr (pe_bm PySem.F.plainAttrs_list PySem.F.slot_list_append PySem.F.type_list_append mt_append (pv 4) (pa_cons (pe_tup (pa_cons pe_str (pa_cons (pe_op op_add pe_int (pv 7)) pa_nil))) pa_nil)))
      (pss_cons (ps_setLc (i := 4) rfl nd rfl rfl (sw_true rfl rfl rfl rfl) (kPiL K (pv 4)) (blkOk_by (own := [("_law_row", 8)]) (by show blkC ["_law_d", "_law_most", "_law_loop", "_law_many", "_law_rows", "_law_names", "_law_files", "_law_at", "_law_row"] (defScope s__law_any_program) _ _ = true; decide +kernel)) (fun _ _ _ _ _ => (pg_name (i := 8) nd rfl (Or.inl rfl))) (fun _ _ _ _ _ => pts_nil) (fun _ _ _ _ _ => (pe_ifExp (pt_cmpR (kIn K) (pe_ix (kIxT K) (pv 8) pe_int (fun _ _ => rfl)) (pe_tup (pa_cons pe_str (pa_cons pe_str pa_nil))) (by rfl)) (pe_op (kCatT K) (pe_slice (kSlT K) (pv 8) po_none (po_some (pe_un un_neg pe_int))) (pe_tup (pa_cons (pe_callB (c_min rfl) (by rfl) T.n_min (by decide +kernel) (pa_cons (pe_ix (kIxT K) (pv 8) (pe_un un_neg pe_int) (fun _ _ => rfl)) (pa_cons (pe_op op_add (pv 3) pe_int) pa_nil))) pa_nil))) (pv 8))))
      (pss_one (ps_asg (pe_tup (pa_cons pe_str (pa_cons (pe_op op_sub (pv 5) pe_int) (pa_cons (pe_op op_add (pv 3) pe_int) pa_nil)))) (pg_sub (pv 4) (pe_op op_sub (pv 3) pe_int) set_list))))))))) pss_nil)
      (pss_one (ps_ret (pe_tup (pa_cons (pv 5) (pa_cons (pv 6) (pa_cons (pe_callTy (kTuple K) (by rfl) T.n_tuple (by decide +kernel) (pa_cons (pv 4) pa_nil)) pa_nil))))))))))), ?_⟩
  with_reducible refine go_seq (go_asg (go_tup (go_cons (go_op ?_))))
  with_reducible refine go_c (go_callC (go_cons (go_var rfl (go_cons ?_))))
  with_reducible refine go_c (go_nil ?_)
  refine nx_go D (by omega) (by omega) (fun a1 H1 a10 a11 D1 o1 => ?_)
  with_reducible refine go_i0 (go_cons (go_op (go_c (go_callC ?_))))
  with_reducible refine go_cons (go_var rfl (go_cons (go_c (go_nil ?_))))
  refine nx_go D1 (by omega) (by omega) (fun a2 H2 a20 a21 D2 o2 => ?_)
  with_reducible refine go_i0 (go_nil ?_)
  refine go_qtup (Nat.le_of_ble_eq_true rfl) (fun p hp => ?_)
  (with_reducible refine' go_gtup ?hp ?ha ?_); (case hp => walk_at "lw_hp"); (case ha => first | rfl | assumption)
  with_reducible refine go_gcons (go_gname (go_gcons (go_gname (go_gnil ?_))))
  with_reducible refine go_seq (go_asg (go_op (go_callC (go_cons ?_))))
  with_reducible refine go_var rfl (go_cons (go_c (go_nil ?_)))
  refine nx_go (D2.same (same_new hp _)) (by omega) (by omega) (fun a3 H3 a30 a31 D3 o3 => ?_)
  with_reducible refine go_c (go_eqI (go_gname (go_seq (go_asg ?_))))
  with_reducible refine go_callC (go_cons (go_var rfl (go_cons (go_op ?_))))
  with_reducible refine go_var rfl (go_c (go_i0 (go_nil ?_)))
  refine nx_go D3 (by omega) (by omega) (fun mny H4 m0 m1 D4 o4 => ?_)
  with_reducible refine go_gname (go_seq (go_asg (go_lc (go_rng1 ?_))))
  with_reducible refine go_cons (go_var rfl (go_nil (go_qrng1 (by omega) (by omega) ?_)))
  have O4 : Off d H H4 := by (repeat (first | assumption | exact Off.refl _ _ | (refine' Off.trans ?_ (Same.off (same_new (by assumption) _))) | (refine' Off.trans ?_ (by assumption))))
  clear o1 o2 o3 o4
  obtain ⟨nm, hnm⟩ : ∃ nm, nm = 1 + a1 := ⟨_, rfl⟩
  obtain ⟨fl, hfl⟩ : ∃ fl, fl = 1 + a2 := ⟨_, rfl⟩
  rw [← hnm, ← hfl]
  refine lq_range (fun L hL => ?_)
  have nL : d ≠ L := (D4.nef hL).symm
  refine ⟨fun i H' => ∃ rs vs, H' L = some (.lst vs) ∧ RowsAt H' rs vs ∧ rs.length = i ∧ (∀ r ∈ rs, r.ok nm fl mny) ∧ Dice K H' d ∧ Off d H4 H', ?_, ?_, ?_⟩
  · exact ⟨[], [], upd_same, .nil, rfl, (fun r h => by cases h), D4.same (same_new hL _), (same_new hL _).off⟩
  · rintro i H' hi ⟨rs, vs, e, hR, hl, hok, D', o'⟩
    refine go_gname ⟨rfl, ?_⟩
    with_reducible refine go_yes (go_iteT (go_callC (go_cons (go_var rfl ?_))))
    with_reducible refine go_cons (go_var rfl (go_cons (go_var rfl (go_cons ?_))))
    with_reducible refine go_var rfl (go_cons (go_var rfl (go_nil ?_)))
    refine ⟨d, nm, fl, 0 + i, mny, rfl, D', by omega, by omega, by omega, by omega, by omega, by omega, by omega, fun v r H5 k5 a5 D5 o5 => ?_⟩
    have e5 : H5 L = some (.lst vs) := o5 _ _ e nL.symm
    refine go_lcA e5 (small_line (by rw [← hR.length]; omega)) ?_
    have t5 : TK H5 (upd H5 L (.lst (vs ++ [v]))) := TK.updL e5
    exact ⟨rs ++ [r], vs ++ [v], upd_same, ((hR.mono (D'.tk o5)).snoc a5).mono t5, by simp [hl], mem_snoc hok k5, D5.updL e5 nL, off_fresh hL (o'.trans o5)⟩
  · rintro H5 ⟨rs, vs, e, hR, hl, hok, D5, o5⟩
    have fin : ∀ (H5 : Hp) (rs : List Row) (vs : List V), RowsAt H5 rs vs → rs.length ≤ 60 → (∀ r ∈ rs, r.ok nm fl (rs.length : Nat)) → Dice K H5 d → Off d H4 H5 →
        ∀ b, H5 b = none → ∀ a, upd H5 b (.tup vs) a = none → Q (.ref a) (upd (upd H5 b (.tup vs)) a (.tup [.int nm, .int fl, .ref b])) := by
      intro H5 rs vs hR hl hok D5 o5 b hb a ha
      refine k _ ⟨nm, fl, rs⟩ _ ⟨by show 1 ≤ nm; omega, by show nm ≤ 8; omega, by show 1 ≤ fl; omega, by show fl ≤ 4; omega, hl, hok⟩ ⟨a, b, vs, rfl, upd_same, upd_new ha upd_same, hR.mono ((TK.new hb).trans (TK.new ha))⟩ ((D5.same (same_new hb _)).same (same_new ha _)) (O4.trans (o5.trans ((same_new hb _).trans (same_new ha _)).off))
    with_reducible refine go_gname (go_seq (go_ifS (go_and (go_testB ?_))))
    with_reducible refine go_var rfl (go_qb ?_)
    refine go_iteD (fun c1 => ?_) (fun c1 => ?_)
    · with_reducible refine go_test (go_op (go_var rfl (go_c (go_i0 ?_))))
      with_reducible refine go_qb ?_
      refine go_iteD (fun c2 => ?_) (fun c2 => ?_)
      · have B5 : RL K d L H4 rs vs H5 := ⟨hL, nL, e, hR, D5, o5⟩
        have hv : vs.length = mny.toNat := by rw [← hR.length]; exact hl
        have hok' : ∀ r ∈ rs, r.ok nm fl (mny + 1) := fun r h => Row.ok_mono (by omega) (hok r h)
        clear e hR D5 o5
        with_reducible refine go_seq (go_asg (go_callC (go_cons (go_var rfl ?_))))
        with_reducible refine go_cons (go_op (go_var rfl (go_c (go_i0 ?_))))
        with_reducible refine go_nil ?_
        refine nx_go B5.D (by omega) (by omega) (fun ato H6 at0 at1 D6 o6 => ?_)
        have B6 := B5.off D6 o6
        with_reducible refine go_gname (go_seq (go_asg (go_tup (go_cons ?_))))
        with_reducible refine go_c (go_cons (go_op (go_var rfl (go_c ?_))))
        with_reducible refine go_i0 (go_cons (go_tup (go_cons (go_c ?_))))
        with_reducible refine go_cons (go_op (go_c (go_callC (go_cons ?_))))
        with_reducible refine go_var rfl (go_cons (go_c (go_nil ?_)))
        refine nx_go D6 (by omega) (by omega) (fun q H7 q0 q1 D7 o7 => ?_)
        have B7 := B6.off D7 o7
        with_reducible refine go_i0 (go_nil ?_)
        refine go_qtup (Nat.le_of_ble_eq_true rfl) (fun p1 h1 => ?_)
        have B8 := B7.new h1 (.tup [.str "num", .int (1 + q)])
        with_reducible refine go_nil ?_
        refine go_qtup (Nat.le_of_ble_eq_true rfl) (fun p2 h2 => ?_)
        have B9 := B8.new h2 (.tup [.str "set", .int (nm - 1), .ref p1])
        have a9 : RowAt (upd (upd H7 p1 (.tup [.str "num", .int (1 + q)])) p2 (.tup [.str "set", .int (nm - 1), .ref p1])) (.set (nm - 1) (.num (1 + q))) (.ref p2) := ⟨p2, _, rfl, upd_same, _, rfl, p1, rfl, by walk_at "lw_hp"⟩
        generalize upd (upd H7 p1 (.tup [.str "num", .int (1 + q)])) p2 (.tup [.str "set", .int (nm - 1), .ref p1]) = H9 at *
        with_reducible refine go_gsub (go_var rfl (go_c ?_))
        refine go_setL B9.e (ixN_of (by omega) (by omega)) ?_
        have B10 := B9.set a9 (Int.toNat 0)
        generalize upd H9 L (.lst (vs.set (Int.toNat 0) (.ref p2))) = H10 at *
        with_reducible refine go_seq (go_asg (go_tup (go_cons (go_c ?_))))
        with_reducible refine go_cons (go_op (go_var rfl (go_c (go_i0 ?_))))
        with_reducible refine go_cons (go_tup (go_cons (go_c (go_cons ?_))))
        with_reducible refine go_tup (go_cons (go_c (go_cons (go_op ?_))))
        with_reducible refine go_var rfl (go_c (go_i0 (go_nil ?_)))
        refine go_qtup (Nat.le_of_ble_eq_true rfl) (fun p3 h3 => ?_)
        with_reducible refine go_cons (go_tup (go_cons (go_c (go_cons ?_))))
        with_reducible refine go_c (go_nil ?_)
        refine go_qtup (Nat.le_of_ble_eq_true rfl) (fun p4 h4 => ?_)
        with_reducible refine go_nil ?_
        refine go_qtup (Nat.le_of_ble_eq_true rfl) (fun p5 h5 => ?_)
        with_reducible refine go_nil ?_
        refine go_qtup (Nat.le_of_ble_eq_true rfl) (fun p6 h6 => ?_)
        have B11 := (((B10.new h3 _).new h4 _).new h5 _).new h6 (.tup [.str "set", .int (nm - 1), .ref p5])
        have a11 : RowAt _ (.set (nm - 1) (.op .diff (.name (nm - 1)) (.num 1))) (.ref p6) := ⟨p6, _, rfl, upd_same, _, rfl, p5, _, _, rfl, upd_new h6 upd_same, ⟨p3, rfl, upd_new h6 (upd_new h5 (upd_new h4 upd_same))⟩, ⟨p4, rfl, upd_new h6 (upd_new h5 upd_same)⟩⟩
        generalize upd (upd (upd (upd H10 p3 _) p4 _) p5 _) p6 _ = H11 at *
        with_reducible refine go_gsub (go_var rfl (go_op (go_var rfl (go_c ?_))))
        with_reducible refine go_i0 ?_
        refine go_setL B11.e (ixN_of (by omega) (by rw [List.length_set]; omega)) ?_
        have B12 := B11.set a11 (mny - 2).toNat
        generalize upd H11 L _ = H12 at *
        with_reducible refine go_seq (go_asg (go_tup (go_cons (go_c ?_))))
        with_reducible refine go_cons (go_op (go_var rfl (go_c (go_i0 ?_))))
        with_reducible refine go_cons (go_var rfl (go_nil ?_))
        refine go_qtup (Nat.le_of_ble_eq_true rfl) (fun p7 h7 => ?_)
        have B13 := B12.new h7 (.tup [.str "unless", .int (nm - 1), .int mny])
        have a13 : RowAt (upd H12 p7 (.tup [.str "unless", .int (nm - 1), .int mny])) (.unl (nm - 1) mny) (.ref p7) := ⟨p7, _, rfl, upd_same, rfl⟩
        generalize upd H12 p7 _ = H13 at *
        with_reducible refine go_gsub (go_var rfl (go_op (go_var rfl (go_c ?_))))
        with_reducible refine go_i0 ?_
        refine go_setL B13.e (ixN_of (by omega) (by rw [List.length_set, List.length_set]; omega)) ?_
        have B14 := B13.set a13 (mny - 1).toNat
        generalize upd H13 L _ = H14 at *
        have e14 := B14.e
        with_reducible refine go_seq (go_drop (go_bm (go_var rfl ?_)))
        (with_reducible refine' go_qbm ?hp ?_); (case hp => walk_at "lw_hp")
        with_reducible refine go_cons (go_tup (go_cons (go_c (go_cons ?_))))
        with_reducible refine go_op (go_c (go_var rfl (go_i0 (go_nil ?_))))
        refine go_qtup (Nat.le_of_ble_eq_true rfl) (fun p8 h8 => ?_)
        have B15 := B14.new h8 (.tup [.str "go", .int (1 + ato)])
        have a15 : RowAt (upd H14 p8 (.tup [.str "go", .int (1 + ato)])) (.go (1 + ato)) (.ref p8) := ⟨p8, _, rfl, upd_same, rfl⟩
        generalize upd H14 p8 _ = H15 at *
        with_reducible refine go_nil ?_
        refine go_append B15.e (small_line (by simp only [List.length_set]; omega)) ?_
        have B16 := B15.snoc a15
        generalize upd H15 L _ = H16 at *
        have ok16 : ∀ r ∈ (((rs.set (Int.toNat 0) (.set (nm - 1) (.num (1 + q)))).set (mny - 2).toNat (.set (nm - 1) (.op .diff (.name (nm - 1)) (.num 1)))).set (mny - 1).toNat (.unl (nm - 1) mny) ++ [Row.go (1 + ato)]), r.ok nm fl (mny + 1) :=
          mem_snoc (mem_set (mem_set (mem_set hok' ⟨by omega, by omega, by omega, by omega⟩) ⟨by omega, by omega, ⟨by omega, by omega⟩, by omega, by omega⟩) ⟨by omega, by omega, by omega, by omega⟩) ⟨by omega, by omega⟩
        have ln16 : (((rs.set (Int.toNat 0) (.set (nm - 1) (.num (1 + q)))).set (mny - 2).toNat (.set (nm - 1) (.op .diff (.name (nm - 1)) (.num 1)))).set (mny - 1).toNat (.unl (nm - 1) mny) ++ [Row.go (1 + ato)]).length = mny.toNat + 1 := by simp [hl]
        generalize (((rs.set (Int.toNat 0) (.set (nm - 1) (.num (1 + q)))).set (mny - 2).toNat (.set (nm - 1) (.op .diff (.name (nm - 1)) (.num 1)))).set (mny - 1).toNat (.unl (nm - 1) mny) ++ [Row.go (1 + ato)]) = rs16 at *
        generalize ((((vs.set (Int.toNat 0) (.ref p2)).set (mny - 2).toNat (.ref p6)).set (mny - 1).toNat (.ref p7)) ++ [.ref p8]) = vs16 at *
        clear B5 B6 B7 B8 B9 B10 B11 B12 B13 B14 B15 e14 a9 a11 a13 a15
        have e16 := B16.e
        with_reducible refine go_seq (go_asg (go_lc (go_iL (go_var rfl ?_))))
        (with_reducible refine' go_qiL ?hp ?_); (case hp => walk_at "lw_hp")
        refine lq_list vs16 (fun L2 hL2 => ?_)
        have n2 : d ≠ L2 := (B16.D.nef hL2).symm
        have n3 : L ≠ L2 := ne_of_none e16 hL2
        have hN : H4 L2 = none := by
          cases z : H4 L2 with
          | none => rfl
          | some u => rw [B16.o _ _ z n2.symm] at hL2; cases hL2
        refine ⟨fun i H' => ∃ us, H' L2 = some (.lst us) ∧ RowsAt H' ((rs16.take i).map (Row.clip (mny + 1))) us ∧ RL K d L H4 rs16 vs16 H', ?_, ?_, ?_, ?_⟩
        · exact ⟨[], upd_same, .nil, B16.new hL2 _⟩
        · rintro i H' _ ⟨us, _, _, B'⟩
          exact SqL.of B'.e
        · rintro i x H' hx ⟨us, eu, hU, B'⟩
          obtain ⟨r, hr', a'⟩ := B'.R.take_succ hx
          have hlt : i < rs16.length := (List.getElem?_eq_some_iff.mp hr').1
          have hul : us.length < sizeLine := small_line (by rw [← hU.length, List.length_map, List.length_take]; omega)
          have tk : (rs16.take (i + 1)).map (Row.clip (mny + 1)) = (rs16.take i).map (Row.clip (mny + 1)) ++ [r.clip (mny + 1)] := by rw [take_snoc hr', List.map_append]; rfl
          refine go_gname ⟨rfl, ?_⟩
          obtain ⟨xa, xs, rfl, hxa, hxs⟩ := a'
          obtain ⟨wd, rest, rfl, hwd⟩ := hxs.word
          have hat : atI (V.str wd :: rest) 0 = some (.str wd) := atI_nat (xs := V.str wd :: rest) (j := 0) rfl
          with_reducible refine go_yes (go_iteT (go_if (go_test (go_op ?_))))
          with_reducible refine go_op (go_var rfl (go_c ?_))
          (with_reducible refine' go_ixT ?hp ?ha ?_); (case hp => walk_at "lw_hp"); (case ha => first | rfl | assumption)
          with_reducible refine go_tup (go_cons (go_c (go_cons (go_c ?_))))
          with_reducible refine go_nil ?_
          refine go_qtup (Nat.le_of_ble_eq_true rfl) (fun pz hz => ?_)
          (with_reducible refine' go_inT ?hp ?ha ?hb ?_); (case hp => walk_at "lw_hp"); (case ha => rfl); (case hb => rfl)
          with_reducible refine go_qb ?_
          rw [hwd]
          cases hj : r.jumps with
          | false =>
            refine go_iteF ?_
            with_reducible refine go_var rfl ?_
            refine go_lcA (by walk_at "lw_hp") hul ?_
            refine ⟨us ++ [.ref xa], upd_same, ?_, (B'.new hz _).updF hN (upd_new hz eu) n3 n2 _⟩
            rw [tk, Row.clip_no hj]
            have q1 : TK H' (upd (upd H' pz (.tup [.str "go", .str "unless"])) L2 (.lst (us ++ [.ref xa]))) := (TK.new hz).trans (TK.updL (upd_new hz eu))
            exact (hU.mono q1).snoc ⟨xa, _, rfl, q1.get hxa, hxs.mono q1⟩
          | true =>
            refine go_iteT ?_
            rcases r with _ | _ | _ | _ | _ | _ | _ | _ | r' | ⟨n', r'⟩ | _ <;> try cases hj
            · cases hxs
              clear hat hwd
              with_reducible refine go_op (go_sl (go_var rfl (go_nopart (go_part ?_))))
              with_reducible refine go_un (go_c (go_u (go_qI ?_)))
              refine go_slT (by walk_at "lw_hp") (by show ¬ (HT.sIx 2 0 none = 0 ∧ HT.sIx 2 2 (some (-1)) = 2); decide) (fun pc hc => ?_)
              with_reducible refine go_tup (go_cons (go_cb (go_cons (go_op ?_))))
              with_reducible refine go_var rfl (go_un (go_c (go_u ?_)))
              (with_reducible refine' go_ixT ?hp ?ha ?_); (case hp => walk_at "lw_hp"); (case ha => first | rfl | assumption)
              with_reducible refine go_cons (go_op (go_var rfl (go_c (go_i0 ?_))))
              with_reducible refine go_nil (go_min (go_nil ?_))
              refine go_qtup (Nat.le_of_ble_eq_true rfl) (fun pm hpm => ?_)
              refine go_catT (xs := [V.str "go"]) (ys := [.int (min r' (mny + 1))]) (upd_new hpm upd_same) upd_same (by intro z; cases z) (by intro z; cases z) (Nat.le_of_ble_eq_true rfl) (fun pr hpr => ?_)
              have e1 := upd_new hpr (o := .tup ([V.str "go"] ++ [.int (min r' (mny + 1))])) (upd_new hpm (o := .tup [.int (min r' (mny + 1))]) (upd_new hc (o := .tup [V.str "go"]) (upd_new hz (o := .tup [.str "go", .str "unless"]) eu)))
              refine go_lcA e1 hul ?_
              refine ⟨us ++ [.ref pr], upd_same, ?_, ((((B'.new hz _).new hc _).new hpm _).new hpr _).updF hN e1 n3 n2 _⟩
              rw [tk]
              have q0 := (((TK.new (o := .tup [.str "go", .str "unless"]) hz).trans (TK.new (o := .tup [V.str "go"]) hc)).trans (TK.new (o := .tup [.int (min r' (mny + 1))]) hpm)).trans (TK.new (o := .tup ([V.str "go"] ++ [.int (min r' (mny + 1))])) hpr)
              exact ((hU.mono q0).snoc (show RowAt _ (Row.go (min r' (mny + 1))) (.ref pr) from ⟨pr, _, rfl, upd_same, rfl⟩)).mono (TK.updL e1)
            · cases hxs
              clear hat hwd
              with_reducible refine go_op (go_sl (go_var rfl (go_nopart (go_part ?_))))
              with_reducible refine go_un (go_c (go_u (go_qI ?_)))
              refine go_slT (by walk_at "lw_hp") (by show ¬ (HT.sIx 3 0 none = 0 ∧ HT.sIx 3 3 (some (-1)) = 3); decide) (fun pc hc => ?_)
              with_reducible refine go_tup (go_cons (go_cb (go_cons (go_op ?_))))
              with_reducible refine go_var rfl (go_un (go_c (go_u ?_)))
              (with_reducible refine' go_ixT ?hp ?ha ?_); (case hp => walk_at "lw_hp"); (case ha => first | rfl | assumption)
              with_reducible refine go_cons (go_op (go_var rfl (go_c (go_i0 ?_))))
              with_reducible refine go_nil (go_min (go_nil ?_))
              refine go_qtup (Nat.le_of_ble_eq_true rfl) (fun pm hpm => ?_)
              refine go_catT (xs := [V.str "unless", V.int n']) (ys := [.int (min r' (mny + 1))]) (upd_new hpm upd_same) upd_same (by intro z; cases z) (by intro z; cases z) (Nat.le_of_ble_eq_true rfl) (fun pr hpr => ?_)
              have e1 := upd_new hpr (o := .tup ([V.str "unless", V.int n'] ++ [.int (min r' (mny + 1))])) (upd_new hpm (o := .tup [.int (min r' (mny + 1))]) (upd_new hc (o := .tup [V.str "unless", V.int n']) (upd_new hz (o := .tup [.str "go", .str "unless"]) eu)))
              refine go_lcA e1 hul ?_
              refine ⟨us ++ [.ref pr], upd_same, ?_, ((((B'.new hz _).new hc _).new hpm _).new hpr _).updF hN e1 n3 n2 _⟩
              rw [tk]
              have q0 := (((TK.new (o := .tup [.str "go", .str "unless"]) hz).trans (TK.new (o := .tup [V.str "unless", V.int n']) hc)).trans (TK.new (o := .tup [.int (min r' (mny + 1))]) hpm)).trans (TK.new (o := .tup ([V.str "unless", V.int n'] ++ [.int (min r' (mny + 1))])) hpr)
              exact ((hU.mono q0).snoc (show RowAt _ (Row.unl n' (min r' (mny + 1))) (.ref pr) from ⟨pr, _, rfl, upd_same, rfl⟩)).mono (TK.updL e1)
        · rintro H17 ⟨us, eu, hU, B'⟩
          have hlv : vs16.length = rs16.length := B'.R.length.symm
          rw [hlv, List.take_length] at hU
          have ok17 : ∀ r ∈ rs16.map (Row.clip (mny + 1)), r.ok nm fl (mny + 1) := fun r h => by
            obtain ⟨r0, h0, rfl⟩ := List.mem_map.mp h
            exact Row.clip_ok (by omega) (ok16 r0 h0)
          have ln17 : (rs16.map (Row.clip (mny + 1))).length = mny.toNat + 1 := by rw [List.length_map, ln16]
          generalize rs16.map (Row.clip (mny + 1)) = rs17 at *
          have B17 : RL K d L2 H4 rs17 us H17 := ⟨hN, n2, eu, hU, B'.D, B'.o⟩
          have hul : us.length = mny.toNat + 1 := by rw [← hU.length, ln17]
          with_reducible refine go_gname (go_asg (go_tup (go_cons (go_c ?_))))
          with_reducible refine go_cons (go_op (go_var rfl (go_c (go_i0 ?_))))
          with_reducible refine go_cons (go_op (go_var rfl (go_c (go_i0 ?_))))
          with_reducible refine go_nil ?_
          refine go_qtup (Nat.le_of_ble_eq_true rfl) (fun p9 h9 => ?_)
          have B18 := B17.new h9 (.tup [.str "unless", .int (nm - 1), .int (mny + 1)])
          have a18 : RowAt (upd H17 p9 (.tup [.str "unless", .int (nm - 1), .int (mny + 1)])) (.unl (nm - 1) (mny + 1)) (.ref p9) := ⟨p9, _, rfl, upd_same, rfl⟩
          generalize upd H17 p9 _ = H18 at *
          with_reducible refine go_gsub (go_var rfl (go_op (go_var rfl (go_c ?_))))
          with_reducible refine go_i0 ?_
          refine go_setL B18.e (ixN_of (by omega) (by omega)) ?_
          have B19 := B18.set a18 (mny - 1).toNat
          generalize upd H18 L2 _ = H19 at *
          have e19 := B19.e
          with_reducible refine go_ret (go_tup (go_cons (go_var rfl (go_cons ?_))))
          with_reducible refine go_var rfl (go_cons (go_cb (go_cons (go_var rfl ?_))))
          with_reducible refine go_nil ?_
          refine go_tupleL e19 (fun b hb => ?_)
          with_reducible refine go_nil ?_
          refine go_qtup (Nat.le_of_ble_eq_true rfl) (fun a ha => ?_)
          have ln19 : (rs17.set (mny - 1).toNat (.unl (nm - 1) (mny + 1))).length = mny.toNat + 1 := by rw [List.length_set, ln17]
          refine fin H19 _ _ B19.R (by rw [ln19]; omega) (fun r h => ?_) B19.D B19.o b hb a ha
          have c0 : (((rs17.set (mny - 1).toNat (.unl (nm - 1) (mny + 1))).length : Nat) : Int) = mny + 1 := by rw [ln19]; omega
          rw [c0]
          exact mem_set (P := fun r => Row.ok nm fl (mny + 1) r) (y := Row.unl (nm - 1) (mny + 1)) ok17 ⟨by omega, by omega, by omega, by omega⟩ r h
      · with_reducible refine go_next (go_ret (go_tup (go_cons (go_var rfl ?_))))
        with_reducible refine go_cons (go_var rfl (go_cons (go_cb (go_cons ?_))))
        with_reducible refine go_var rfl (go_nil ?_)
        refine go_tupleL e (fun b hb => ?_)
        with_reducible refine go_nil ?_
        refine go_qtup (Nat.le_of_ble_eq_true rfl) (fun a ha => ?_)
        exact fin H5 rs vs hR (by omega) (fun r h => by rw [hl, Int.toNat_of_nonneg m0]; exact hok r h) D5 o5 b hb a ha
    · with_reducible refine go_iteF (go_next (go_ret (go_tup (go_cons ?_))))
      with_reducible refine go_var rfl (go_cons (go_var rfl (go_cons (go_cb ?_))))
      with_reducible refine go_cons (go_var rfl (go_nil ?_))
      refine go_tupleL e (fun b hb => ?_)
      with_reducible refine go_nil ?_
      refine go_qtup (Nat.le_of_ble_eq_true rfl) (fun a ha => ?_)
      exact fin H5 rs vs hR (by omega) (fun r h => by rw [hl, Int.toNat_of_nonneg m0]; exact hok r h) D5 o5 b hb a ha
end
end Lw
set_option Elab.async false
set_option linter.all false
set_option maxRecDepth 100000
set_option maxHeartbeats 4000000
namespace Lw
open PySem L2
local macro_rules | `(tactic| walk_at "lw_hp") => `(tactic| (repeat (first | assumption | exact upd_same | (refine' upd_new (by assumption) ?_) | (refine' tup_off (by assumption) (by assumption) ?_) | (refine' lst_off (by assumption) (by assumption) (by assumption) ?_) | (refine' Same.get (by assumption) ?_) | (refine' Off.get (by assumption) (by assumption) ?_) | (refine' upd_oth (by assumption) ?_))))
local macro_rules | `(tactic| walk_at "lw_go") => `(tactic| (repeat (first | (with_reducible (first | refine go_var rfl ?_ | refine go_c ?_ | refine go_cons ?_ | refine go_op ?_ | refine go_nil ?_ | refine go_seq ?_ | refine go_qb ?_ | refine go_test ?_ | refine go_ifS ?_ | refine go_gname ?_ | refine go_cb ?_)) | ((with_reducible refine' go_ixT ?hp ?ha ?_); (case hp => walk_at "lw_hp"); (case ha => first | rfl | assumption)) | (with_reducible (first | refine go_asg ?_ | refine go_callC ?_ | refine go_next ?_ | refine go_tup ?_ | refine go_i0 ?_ | refine go_ret ?_ | refine go_dget ?_ | refine go_gcons ?_ | refine go_gsub ?_ | refine go_testB ?_)) | ((with_reducible refine' go_ixL ?hp ?ha ?_); (case hp => walk_at "lw_hp"); (case ha => first | rfl | assumption)) | (with_reducible (first | refine' go_ixLs (by assumption) (by assumption) ?_ | refine go_lst ?_)) | ((with_reducible refine' go_i ?cc ?_); (case cc => first | omega | (simp only [CDiv, CMul, CPow]; omega) | (simp only [CDiv, CMul, CPow]; decide))) | (with_reducible (first | refine go_drop ?_ | refine go_eqI ?_ | refine go_eqS ?_ | refine go_eqB ?_ | refine go_eq (by rfl) ?_ | refine go_gnil ?_ | refine go_iteT ?_ | refine go_iteF ?_ | refine go_iteNt ?_ | refine go_iteNf ?_ | refine go_iteNN ?_)) | (with_reducible refine go_iteDT (by first | assumption | rfl | omega | (simp only [List.length_cons, List.length_nil, List.length_map]; omega)) ?_) | (with_reducible refine go_iteDF (by first | assumption | omega | decide | decide +kernel | (simp only [List.length_cons, List.length_nil, List.length_map]; omega)) ?_) | (with_reducible refine go_iteNT (by first | assumption | rfl | omega | (simp only [List.length_cons, List.length_nil, List.length_map]; omega)) ?_) | (with_reducible refine go_iteNF (by first | assumption | omega | decide | decide +kernel | (simp only [List.length_cons, List.length_nil, List.length_map]; omega)) ?_) | (with_reducible refine go_iteBT (by first | assumption | decide +kernel) ?_) | (with_reducible refine go_iteBF (by first | assumption | decide +kernel) ?_) | (with_reducible (first | refine go_dput ?_ | refine go_setD ?_)) | ((with_reducible refine' go_gtup ?hp ?ha ?_); (case hp => walk_at "lw_hp"); (case ha => first | rfl | assumption)) | (with_reducible refine go_if ?_) | ((with_reducible refine' go_setL ?hp ?ha ?_); (case hp => walk_at "lw_hp"); (case ha => first | rfl | assumption)) | (with_reducible (first | refine go_not ?_ | refine go_or ?_ | refine go_andV ?_ | refine go_sl ?_ | refine go_nopart ?_ | refine go_part ?_ | refine go_qI ?_ | refine' go_lenLs (by assumption) ?_)) | ((with_reducible refine' go_lenL ?hp ?_); (case hp => walk_at "lw_hp")) | ((with_reducible refine' go_lenT ?hp ?_); (case hp => walk_at "lw_hp")) | ((with_reducible refine' go_inT ?hp ?ha ?hb ?_); (case hp => walk_at "lw_hp"); (case ha => rfl); (case hb => rfl)) | ((with_reducible refine' go_notInT ?hp ?ha ?hb ?_); (case hp => walk_at "lw_hp"); (case ha => rfl); (case hb => rfl)) | (with_reducible (first | refine go_pnil ?_ | refine go_pcons ?_ | refine go_un ?_ | refine go_u ?_ | refine go_for ?_ | refine go_rng1 ?_ | refine go_qrng1 (by omega) (by omega) ?_ | refine go_notN_non ?_ | refine go_notN_int ?_ | refine go_notN_str ?_ | refine go_notN_bl ?_ | refine go_notN_ref ?_ | refine go_min ?_ | refine go_bm ?_ | refine go_lc ?_)) | ((with_reducible refine' go_qbm ?hp ?_); (case hp => walk_at "lw_hp")) | (with_reducible (first | refine go_int ?_ | refine go_intB ?_ | refine go_yes ?_ | refine go_and ?_ | refine go_notV ?_ | refine go_iL ?_)) | ((with_reducible refine' go_glst ?hp ?ha ?_); (case hp => walk_at "lw_hp"); (case ha => first | rfl | assumption)) | ((with_reducible refine' go_qiL ?hp ?_); (case hp => walk_at "lw_hp")) | (with_reducible (first | refine go_par ?_ | refine go_gpar ?_ | refine go_isN_non ?_ | refine go_isN_int ?_ | refine go_isN_str ?_ | refine go_isN_bl ?_ | refine go_isN_ref ?_ | refine go_neI ?_ | refine go_neS ?_ | refine go_neB ?_ | refine go_iT ?_ | refine go_ne (by rfl) ?_)) | ((with_reducible refine' go_ixAL ?hp ?ha ?_); (case hp => walk_at "lw_hp"); (case ha => first | rfl | assumption)) | ((with_reducible refine' go_ixAT ?hp ?ha ?_); (case hp => walk_at "lw_hp"); (case ha => first | rfl | assumption)) | ((with_reducible refine' go_qiT ?hp ?_); (case hp => walk_at "lw_hp")) | (with_reducible (first | refine go_is_non_int ?_ | refine go_is_non_bool ?_ | refine go_is_non_str ?_ | refine go_is_non_tuple ?_ | refine go_is_non_list ?_ | refine go_is_bl_int ?_ | refine go_is_bl_bool ?_ | refine go_is_bl_str ?_ | refine go_is_bl_tuple ?_ | refine go_is_bl_list ?_ | refine go_is_int_int ?_ | refine go_is_int_bool ?_ | refine go_is_int_str ?_ | refine go_is_int_tuple ?_ | refine go_is_int_list ?_ | refine go_is_str_int ?_ | refine go_is_str_bool ?_ | refine go_is_str_str ?_ | refine go_is_str_tuple ?_ | refine go_is_str_list ?_)) | ((with_reducible refine' go_is_lst_int ?hp ?_); (case hp => walk_at "lw_hp")) | ((with_reducible refine' go_is_lst_bool ?hp ?_); (case hp => walk_at "lw_hp")) | ((with_reducible refine' go_is_lst_str ?hp ?_); (case hp => walk_at "lw_hp")) | ((with_reducible refine' go_is_lst_tuple ?hp ?_); (case hp => walk_at "lw_hp")) | ((with_reducible refine' go_is_lst_list ?hp ?_); (case hp => walk_at "lw_hp")) | ((with_reducible refine' go_is_tup_int ?hp ?_); (case hp => walk_at "lw_hp")) | ((with_reducible refine' go_is_tup_bool ?hp ?_); (case hp => walk_at "lw_hp")) | ((with_reducible refine' go_is_tup_str ?hp ?_); (case hp => walk_at "lw_hp")) | ((with_reducible refine' go_is_tup_tuple ?hp ?_); (case hp => walk_at "lw_hp")) | ((with_reducible refine' go_is_tup_list ?hp ?_); (case hp => walk_at "lw_hp")) | (with_reducible (first | refine go_max ?_ | refine go_bm0 ?_ | refine go_chain ?_ | refine go_qch ?_)) | ((with_reducible refine' go_qbm0 ?hp ?_); (case hp => walk_at "lw_hp")) | (with_reducible (first | refine go_retN ?_ | refine go_orV ?_ | refine go_whQ ?_ | refine go_rng2 ?_ | refine go_qrng2 (by omega) (by omega) (by omega) (by omega) ?_ | refine go_rvr ?_ | refine go_qrvr (by omega) (by omega) ?_ | refine go_fcons ?_ | refine go_fv ?_ | refine go_m0 ?_ | refine go_m1 ?_ | refine go_qm0 ?_ | refine go_qm1 ?_ | refine go_digit ?_ | refine go_ascii ?_ | refine go_starts ?_ | refine go_star ?_ | refine go_rvL ?_ | refine go_dninK ?_ | refine go_rng3 ?_ | refine go_qrng3 (by omega) (by omega) (by omega) (by omega) ?_ | refine go_lr2 ?_ | refine go_enum ?_ | refine go_aug rfl ?_ | refine go_ipI ?_)) | ((with_reducible refine' go_qenum ?hp ?_); (case hp => walk_at "lw_hp")) | ((with_reducible refine' go_sumL ?hp ?_); (case hp => walk_at "lw_hp")))))
abbrev s__law_like : Stmt := top 34
def Like : Nat → Hp → V → V → Prop
  | 0, _, _, _ => False
  | n + 1, H, x, y => (x = y ∧ ((∃ i, x = .int i) ∨ (∃ t, x = .str t) ∨ (∃ b, x = .bl b) ∨ x = .non)) ∨
    ∃ a b xs ys, x = .ref a ∧ y = .ref b ∧ ((H a = some (.tup xs) ∧ H b = some (.tup ys)) ∨ (H a = some (.lst xs) ∧ H b = some (.lst ys))) ∧ xs.length = ys.length ∧ ys.length ≤ 5000 ∧ ∀ (i : Nat) x' y', xs[i]? = some x' → ys[i]? = some y' → Like n H x' y'
def spLike (n : Nat) : Sp := fun vs H Q _ => ∃ x y, vs = [x, y] ∧ Like n H x y ∧ Q (.bl true) H
section
variable {P : Program} {w : World} {K : PySem.W.Frag} {mg : Str → Option Value} {base : Heap} {f : Addr} {fd : FuncData}
theorem scs__law_like : FnScope ["_law_found", "_law_due", "_law_k"] ["_law_found", "_law_due"] (defScope s__law_like) := ⟨rfl, rfl, rfl, by decide +kernel, rfl, by decide +kernel, by decide +kernel⟩
theorem ok_like {n : Nat} (F : Fun K "_law_like" "_law_like" s__law_like f fd) (T : Txt mg) (C_law_like : FnC P w K mg base n "_law_like" ["_law_found", "_law_due"] (spLike n)) : FnOk P w K mg base CX0 (n + 1) f fd ["_law_found", "_law_due"] (spLike (n + 1)) := by
  refine F.ok scs__law_like (fun vs H Q E h => ?_) (fun cdv A outer s H vs Q E hr h => ?_)
  · obtain ⟨x, y, rfl, _⟩ := h
    rfl
  obtain ⟨x, y, rfl, hL, k⟩ := h
  have nd := scs__law_like.nd
  have hu := hu_of hr
  refine ⟨_, (pss_cons (ps_if (pt_val (pe_callB (kIsinst K) (by rfl) T.n_isinstance (by decide +kernel) (pa_cons (pv 1) (pa_cons (pe_bltn (v := .ty "bool") (by rfl) T.n_bool (by decide +kernel) rfl) pa_nil)))) (pss_one (ps_ret (pe_and (pe_callB (kIsinst K) (by rfl) T.n_isinstance (by decide +kernel) (pa_cons (pv 0) (pa_cons (pe_bltn (v := .ty "bool") (by rfl) T.n_bool (by decide +kernel) rfl) pa_nil))) (pe_one (pe_cmpR op_eq (pv 0) (pv 1) (nomark _)))))) pss_nil)
      (pss_cons (ps_if (pt_val (pe_callB (kIsinst K) (by rfl) T.n_isinstance (by decide +kernel) (pa_cons (pv 1) (pa_cons (pe_bltn (v := .ty "str") (by rfl) T.n_str (by decide +kernel) rfl) pa_nil)))) (pss_one (ps_ret (pe_and (pe_callB (kIsinst K) (by rfl) T.n_isinstance (by decide +kernel) (pa_cons (pv 0) (pa_cons (pe_bltn (v := .ty "str") (by rfl) T.n_str (by decide +kernel) rfl) pa_nil))) (pe_one (pe_cmpR op_eq (pv 0) (pv 1) (nomark _)))))) pss_nil)
      (pss_cons (ps_if (pt_val (pe_callB (kIsinst K) (by rfl) T.n_isinstance (by decide +kernel) (pa_cons (pv 1) (pa_cons (pe_bltn (v := .ty "int") (by rfl) T.n_int (by decide +kernel) rfl) pa_nil)))) (pss_one (ps_ret (pe_and (pe_callB (kIsinst K) (by rfl) T.n_isinstance (by decide +kernel) (pa_cons (pv 0) (pa_cons (pe_bltn (v := .ty "int") (by rfl) T.n_int (by decide +kernel) rfl) pa_nil))) (pe_and (pe_not (pe_callB (kIsinst K) (by rfl) T.n_isinstance (by decide +kernel) (pa_cons (pv 0) (pa_cons (pe_bltn (v := .ty "bool") (by rfl) T.n_bool (by decide +kernel) rfl) pa_nil)))) (pe_one (pe_cmpR op_eq (pv 0) (pv 1) (nomark _))))))) pss_nil)
      (pss_cons (ps_if (pt_cmpR o_isN (pv 1) pe_non (nomark _)) (pss_one (ps_ret (pe_cmpR o_isN (pv 0) pe_non (nomark _)))) pss_nil)
      (pss_cons (ps_if (PW.pt (pw_or (pt_cmpR op_ne (pe_callB (kIsinst K) (by rfl) T.n_isinstance (by decide +kernel) (pa_cons (pv 1) (pa_cons (pe_bltn (v := .ty "tuple") (by rfl) T.n_tuple (by decide +kernel) rfl) pa_nil))) (pe_callB (kIsinst K) (by rfl) T.n_isinstance (by decide +kernel) (pa_cons (pv 0) (pa_cons (pe_bltn (v := .ty "tuple") (by rfl) T.n_tuple (by decide +kernel) rfl) pa_nil))) (nomark _)) (pw_or1 (pt_cmpR op_ne (pe_callB (kIsinst K) (by rfl) T.n_isinstance (by decide +kernel) (pa_cons (pv 1) (pa_cons (pe_bltn (v := .ty "list") (by rfl) T.n_list (by decide +kernel) rfl) pa_nil))) (pe_callB (kIsinst K) (by rfl) T.n_isinstance (by decide +kernel) (pa_cons (pv 0) (pa_cons (pe_bltn (v := .ty "list") (by rfl) T.n_list (by decide +kernel) rfl) pa_nil))) (nomark _))))) (pss_one (ps_ret pe_bl)) pss_nil)
      (pss_cons (ps_if (pt_cmpR op_ne (pe_callB (kLen K) (by rfl) T.n_len (by decide +kernel) (pa_cons (pv 0) pa_nil)) (pe_callB (kLen K) (by rfl) T.n_len (by decide +kernel) (pa_cons (pv 1) pa_nil)) (nomark _)) (pss_one (ps_ret pe_bl)) pss_nil)
      (pss_cons (ps_for PassesOwn.never rfl (pi_range1 (by rfl) T.n_range (pa_cons (pe_callB (kLen K) (by rfl) T.n_len (by decide +kernel) (pa_cons (pv 1) pa_nil)) pa_nil)) (pg_name (i := 2) nd rfl (Or.inl rfl)) (pss_one (ps_if (pt_not (pt_val (pe_callC C_law_like (hr.mono (by omega)) (by rfl) (pa_cons (pe_ix (kIx K) (pv 0) (pv 2) (fun _ _ => rfl)) (pa_cons (pe_ix (kIx K) (pv 1) (pv 2) (fun _ _ => rfl)) pa_nil))))) (pss_one (ps_ret pe_bl)) pss_nil)))
      (pss_one (ps_ret pe_bl))))))))), ?_⟩
  unfold Like at hL
  rcases hL with ⟨rfl, ⟨i, rfl⟩ | ⟨t, rfl⟩ | ⟨b, rfl⟩ | rfl⟩ | ⟨a, b, xs, ys, rfl, rfl, ht, hl, hm, hi⟩
  · with_reducible refine go_seq (go_ifS (go_testB (go_cb (go_cons ?_))))
    with_reducible refine go_var rfl (go_cons (go_c (go_nil (go_is_int_bool ?_))))
    with_reducible refine go_qb (go_iteF (go_next (go_seq (go_ifS ?_))))
    with_reducible refine go_testB (go_cb (go_cons (go_var rfl (go_cons ?_))))
    with_reducible refine go_c (go_nil (go_is_int_str (go_qb (go_iteF ?_))))
    with_reducible refine go_next (go_seq (go_ifS (go_testB (go_cb ?_))))
    with_reducible refine go_cons (go_var rfl (go_cons (go_c (go_nil ?_))))
    with_reducible refine go_is_int_int (go_qb (go_iteT (go_ret (go_andV ?_))))
    with_reducible refine go_cb (go_cons (go_var rfl (go_cons (go_c ?_))))
    with_reducible refine go_nil (go_is_int_int (go_qb (go_iteT (go_andV ?_))))
    with_reducible refine go_notV (go_cb (go_cons (go_var rfl (go_cons ?_))))
    with_reducible refine go_c (go_nil (go_is_int_bool (go_qb (go_qb ?_))))
    with_reducible refine go_iteNf (go_op (go_var rfl (go_var rfl (go_eqI ?_))))
    rw [decide_eq_true rfl]; exact k
  · walk_at "lw_go"
    rw [decide_eq_true rfl]; exact k
  · walk_at "lw_go"
    rw [decide_eq_true rfl]; exact k
  · walk_at "lw_go"
    exact k
  · rcases ht with ⟨h1, h2⟩ | ⟨h1, h2⟩
    all_goals
      walk_at "lw_go"
      refine fq_range (fun i σ H' => ∃ v, σ = [some (.ref a), some (.ref b), v] ∧ H' = H) ⟨none, rfl, rfl⟩ ?_ ?_
      · rintro i σ H' hlt ⟨v, rfl, rfl⟩
        obtain ⟨x', hx⟩ : ∃ v, xs[i]? = some v := ⟨_, List.getElem?_eq_getElem (by omega)⟩
        obtain ⟨y', hy⟩ : ∃ v, ys[i]? = some v := ⟨_, List.getElem?_eq_getElem (by omega)⟩
        have e1 := atI_0n hx
        have e2 := atI_0n hy
        walk_at "lw_go"
        refine ⟨x', y', rfl, hi i x' y' hx hy, ?_⟩
        walk_at "lw_go"
        exact ⟨_, rfl, rfl⟩
      · rintro σ H' ⟨v, rfl, rfl⟩
        walk_at "lw_go"
        exact k
theorem no_like : FnOk P w K mg base CX0 0 f fd ["_law_found", "_law_due"] (spLike 0) :=
  ⟨fun vs H Q E h => by obtain ⟨x, y, rfl, h, _⟩ := h; exact h.elim, fun A outer s H args us vs Q E _ _ _ _ h => by obtain ⟨x, y, rfl, h, _⟩ := h; exact h.elim⟩
theorem c_like (F : Fun K "_law_like" "_law_like" s__law_like f fd) (b : Binds K fd ["_law_found", "_law_due"] []) (m : mg "_law_like" = some (.ref f)) (T : Txt mg) : ∀ n : Nat, FnC P w K mg base n "_law_like" ["_law_found", "_law_due"] (spLike n)
  | 0 => ⟨f, fd, no_like, m, F.kp, b⟩
  | n + 1 => ⟨f, fd, ok_like F T (c_like F b m T n), m, F.kp, b⟩
end
end Lw
set_option Elab.async false
set_option linter.all false
set_option maxRecDepth 100000
set_option maxHeartbeats 4000000
namespace Lw
open PySem L2 TL
local macro_rules | `(tactic| walk_at "lw_hp") => `(tactic| (repeat (first | assumption | exact upd_same | (refine' upd_new (by assumption) ?_) | (refine' tup_off (by assumption) (by assumption) ?_) | (refine' lst_off (by assumption) (by assumption) (by assumption) ?_) | (refine' Same.get (by assumption) ?_) | (refine' Off.get (by assumption) (by assumption) ?_) | (refine' upd_oth (by assumption) ?_))))
abbrev s_law : Stmt := top 40
def spLaw (K : PySem.W.Frag) : Sp := fun vs H Q _ => ∃ (a : Addr) (ns : List Int), vs = [.ref a] ∧ Scr K H a ns ∧ ns.length ≤ 63 ∧ ∀ H', Q (.bl true) H'
inductive LkL (n : Nat) (H : Hp) : List V → List V → Prop
  | nil : LkL n H [] []
  | cons {x y : V} {xs ys : List V} : Like n H x y → LkL n H xs ys → LkL n H (x :: xs) (y :: ys)
theorem LkL.len {n : Nat} {H : Hp} {xs ys : List V} (h : LkL n H xs ys) : xs.length = ys.length := by
  induction h with
  | nil => rfl
  | cons _ _ ih => simp [ih]
theorem LkL.get {n : Nat} {H : Hp} {xs ys : List V} (h : LkL n H xs ys) : ∀ (i : Nat) x y, xs[i]? = some x → ys[i]? = some y → Like n H x y := by
  induction h with
  | nil => intro i x y e; cases e
  | cons h _ ih =>
    intro i x y e1 e2
    cases i with
    | zero => cases e1; cases e2; exact h
    | succ i => exact ih i x y e1 e2
theorem LkL.like {n : Nat} {H : Hp} {xs ys : List V} {a b : Addr} (h : LkL n H xs ys) (ha : H a = some (.tup xs)) (hb : H b = some (.tup ys)) (hl : ys.length ≤ 5000) : Like (n + 1) H (.ref a) (.ref b) :=
  .inr ⟨a, b, xs, ys, rfl, rfl, .inl ⟨ha, hb⟩, h.len, hl, h.get⟩
theorem lk_str {n : Nat} {H : Hp} {t : Str} : Like (n + 1) H (.str t) (.str t) := .inl ⟨rfl, .inr (.inl ⟨t, rfl⟩)⟩
theorem lk_int {n : Nat} {H : Hp} {t : Int} : Like (n + 1) H (.int t) (.int t) := .inl ⟨rfl, .inl ⟨t, rfl⟩⟩
theorem lk_part {H : Hp} {nm : Int} : ∀ {d : Nat} {p : Part} {u v : V}, p.ok nm d → PartAt H p u → PartAt H p v → Like (d + 1) H u v
  | 0, _, _, _, h, _, _ => h.elim
  | d + 1, .num n, _, _, _, ⟨a, e, ha⟩, ⟨b, e', hb⟩ => by
    subst e; subst e'
    exact LkL.like (.cons lk_str (.cons lk_int .nil)) ha hb (by simp)
  | d + 1, .name n, _, _, _, ⟨a, e, ha⟩, ⟨b, e', hb⟩ => by
    subst e; subst e'
    exact LkL.like (.cons lk_str (.cons lk_int .nil)) ha hb (by simp)
  | d + 1, .op o x y, _, _, h, ⟨a, u1, u2, e, ha, h1, h2⟩, ⟨b, v1, v2, e', hb, g1, g2⟩ => by
    subst e; subst e'
    exact LkL.like (.cons lk_str (.cons (lk_part h.1 h1 g1) (.cons (lk_part h.2 h2 g2) .nil))) ha hb (by simp)
theorem lk_rowXs {H : Hp} {nm fl n : Int} {r : Row} {xs ys : List V} (hk : r.ok nm fl n) (h : RowXs H r xs) (g : RowXs H r ys) : LkL 4 H xs ys ∧ ys.length ≤ 5000 := by
  cases r with
  | set n p => obtain ⟨v, rfl, h1⟩ := h; obtain ⟨v', rfl, g1⟩ := g; exact ⟨.cons lk_str (.cons lk_int (.cons (lk_part hk.2.2 h1 g1) .nil)), by simp⟩
  | take n => cases h; cases g; exact ⟨.cons lk_str (.cons lk_int .nil), by simp⟩
  | get n f p => obtain ⟨v, rfl, h1⟩ := h; obtain ⟨v', rfl, g1⟩ := g; exact ⟨.cons lk_str (.cons lk_int (.cons lk_int (.cons (lk_part hk.2.2.2.2 h1 g1) .nil))), by simp⟩
  | size n f => cases h; cases g; exact ⟨.cons lk_str (.cons lk_int (.cons lk_int .nil)), by simp⟩
  | add f p => obtain ⟨v, rfl, h1⟩ := h; obtain ⟨v', rfl, g1⟩ := g; exact ⟨.cons lk_str (.cons lk_int (.cons (lk_part hk.2.2 h1 g1) .nil)), by simp⟩
  | put f p q => obtain ⟨v, u, rfl, h1, h2⟩ := h; obtain ⟨v', u', rfl, g1, g2⟩ := g; exact ⟨.cons lk_str (.cons lk_int (.cons (lk_part hk.2.2.1 h1 g1) (.cons (lk_part hk.2.2.2 h2 g2) .nil))), by simp⟩
  | cut f p => obtain ⟨v, rfl, h1⟩ := h; obtain ⟨v', rfl, g1⟩ := g; exact ⟨.cons lk_str (.cons lk_int (.cons (lk_part hk.2.2 h1 g1) .nil)), by simp⟩
  | send p => obtain ⟨v, rfl, h1⟩ := h; obtain ⟨v', rfl, g1⟩ := g; exact ⟨.cons lk_str (.cons (lk_part hk h1 g1) .nil), by simp⟩
  | go r => cases h; cases g; exact ⟨.cons lk_str (.cons lk_int .nil), by simp⟩
  | unl n r => cases h; cases g; exact ⟨.cons lk_str (.cons lk_int (.cons lk_int .nil)), by simp⟩
  | mark => cases h; cases g; exact ⟨.cons lk_str .nil, by simp⟩
theorem lk_row {H : Hp} {nm fl n : Int} {r : Row} {u v : V} (hk : r.ok nm fl n) (h : RowAt H r u) (g : RowAt H r v) : Like 5 H u v := by
  obtain ⟨a, xs, rfl, ha, h⟩ := h
  obtain ⟨b, ys, rfl, hb, g⟩ := g
  obtain ⟨q1, q2⟩ := lk_rowXs hk h g
  exact q1.like ha hb q2
theorem lk_rows {H : Hp} {nm fl n : Int} {rs : List Row} {us : List V} (h : RowsAt H rs us) : ∀ {vs : List V}, (∀ r ∈ rs, r.ok nm fl n) → RowsAt H rs vs → LkL 5 H us vs := by
  induction h with
  | nil => intro vs _ g; cases g; exact .nil
  | cons h _ ih => intro vs hk g; cases g with | cons g gs => exact .cons (lk_row (hk _ (List.mem_cons_self ..)) h g) (ih (fun r hr => hk r (List.mem_cons_of_mem _ hr)) gs)
theorem lk_prog {H : Hp} {p : Prog} {u v : V} (hk : p.Ok) (h : ProgAt H p u) (g : ProgAt H p v) : Like 7 H u v := by
  obtain ⟨a, b, us, rfl, ha, hb, h⟩ := h
  obtain ⟨a', b', vs, rfl, ha', hb', g⟩ := g
  have hln := hk.ln
  have := g.length
  exact LkL.like (.cons lk_int (.cons lk_int (.cons ((lk_rows h hk.rw g).like hb hb' (by omega)) .nil))) ha ha' (by simp)
section
variable {P : Program} {w : World} {K : PySem.W.Frag} {mg : Str → Option Value} {base : Heap} {f : Addr} {fd : FuncData}
theorem scs_law : FnScope ["_law_script", "_law_d", "_law_turn", "_law_program", "_law_text", "_law_again", "_law_found"] ["_law_script"] (defScope s_law) := ⟨rfl, rfl, rfl, by decide +kernel, rfl, by decide +kernel, by decide +kernel⟩
theorem ok_law (F : Fun K "law" "law" s_law f fd) (T : Txt mg) (C_law_dice : FnC P w K mg base 1 "_law_dice" ["_law_script"] (spDice K)) (C_law_next : FnC P w K mg base 1 "_law_next" ["_law_dice_here", "_law_many"] (spNext K)) (C_law_like : FnC P w K mg base 7 "_law_like" ["_law_found", "_law_due"] (spLike 7)) (C_law_any_program : FnC P w K mg base 6 "_law_any_program" ["_law_d", "_law_most"] (spProg K))
    (C_law_text_rows : FnC P w K mg base 5 "_law_text_rows" ["_law_p"] spTRows) (C_written : FnC P w K mg base 9 "written" ["program"] spWritten) (C_read : FnC P w K mg base 9 "read" ["text"] spRead) : FnOk P w K mg base CX0 10 f fd ["_law_script"] (spLaw K) := by
  refine F.ok scs_law (fun vs H Q E h => ?_) (fun cdv A outer s H vs Q E hr h => ?_)
  · obtain ⟨a, ns, rfl, _⟩ := h
    rfl
  obtain ⟨a, ns, rfl, hS, hl, k⟩ := h
  have nd := scs_law.nd
  have hu := hu_of hr
  refine ⟨_, (pss_cons (ps_set (i := 1) nd rfl (Or.inl rfl) (pe_callC C_law_dice (hr.mono (by omega)) (by rfl) (pa_cons (pv 0) pa_nil)))
      (pss_cons (ps_for PassesOwn.never rfl (pi_range1 (by rfl) T.n_range (pa_cons pe_int pa_nil)) (pg_name (i := 2) nd rfl (Or.inl rfl)) (pss_cons (ps_set (i := 3) nd rfl (Or.inl rfl) (pe_callC C_law_any_program (hr.mono (by omega)) (by rfl) (pa_cons (pv 1) (pa_cons (pe_ix (kIxL K) (pe_lst (pa_cons pe_int (pa_cons pe_int pa_nil))) (pe_callC C_law_next (hr.mono (by omega)) (by rfl) (pa_cons (pv 1) (pa_cons pe_int pa_nil))) (fun _ _ => rfl)) pa_nil))))
      (pss_cons (ps_set (i := 4) nd rfl (Or.inl rfl) (kJoin K pe_str (pe_callC C_law_text_rows (hr.mono (by omega)) (by rfl) (pa_cons (pv 3) pa_nil))))
      (pss_one (ps_for PassesOwn.never rfl (pi_range1 (by rfl) T.n_range (pa_cons pe_int pa_nil)) (pg_name (i := 5) nd rfl (Or.inl rfl)) (pss_cons (ps_set (i := 6) nd rfl (Or.inl rfl) (pe_callC C_read (hr.mono (by omega)) (by rfl) (pa_cons (pv 4) pa_nil)))
      (pss_one (ps_if (PW.pt (pw_or (pt_not (pt_val (pe_callC C_law_like (hr.mono (by omega)) (by rfl) (pa_cons (pe_callC C_written (hr.mono (by omega)) (by rfl) (pa_cons (pv 3) pa_nil)) (pa_cons (pv 4) pa_nil))))) (pw_or (pt_not (pt_val (pe_callC C_law_like (hr.mono (by omega)) (by rfl) (pa_cons (pv 6) (pa_cons (pv 3) pa_nil))))) (pw_or1 (pt_cmpR op_ne (pe_callC C_written (hr.mono (by omega)) (by rfl) (pa_cons (pv 6) pa_nil)) (pv 4) (nomark _)))))) (pss_one (ps_ret pe_bl)) pss_nil))))))))
      (pss_one (ps_ret pe_bl)))), ?_⟩
  with_reducible refine go_seq (go_asg (go_callC (go_cons (go_var rfl ?_))))
  with_reducible refine go_nil ?_
  refine ⟨a, ns, rfl, hS, hl, fun d H1 s1 D1 => ?_⟩
  with_reducible refine go_gname (go_seq (go_for (go_rng1 (go_cons ?_))))
  with_reducible refine go_c (go_nil (go_qrng1 (by omega) (by omega) ?_))
  refine fq_range (fun i σ H' => ∃ v2 v3 v4 v5 v6, σ = [some (.ref a), some (.ref d), v2, v3, v4, v5, v6] ∧ Dice K H' d) ⟨none, none, none, none, none, rfl, D1⟩ ?_ ?_
  · rintro i0 σ H' hi ⟨v2, v3, v4, v5, v6, rfl, D⟩
    with_reducible refine go_gname (go_seq (go_asg (go_callC (go_cons ?_))))
    with_reducible refine go_var rfl (go_cons (go_op (go_lst (go_cons ?_))))
    with_reducible refine go_c (go_cons (go_c (go_nil ?_)))
    refine go_qlst (Nat.le_of_ble_eq_true rfl) (fun q hq => ?_)
    with_reducible refine go_callC (go_cons (go_var rfl (go_cons (go_c ?_))))
    with_reducible refine go_nil ?_
    refine nx_go (D.same (same_new hq _)) (by omega) (by omega) (fun b H2 b0 b1 D2 o2 => ?_)
    have eq := o2 _ _ upd_same (D.nef hq)
    obtain ⟨most, em, m0, m1⟩ : ∃ x, atI [V.int 8, V.int 58] b = some (V.int x) ∧ 0 ≤ x ∧ x ≤ 58 := by
      obtain ⟨z, hz, hz'⟩ := at_two (x := V.int 8) (y := V.int 58) b0 b1
      rcases hz' with rfl | rfl
      · exact ⟨_, hz, by omega, by omega⟩
      · exact ⟨_, hz, by omega, by omega⟩
    (with_reducible refine' go_ixL ?hp ?ha ?_); (case hp => walk_at "lw_hp"); (case ha => first | rfl | assumption)
    with_reducible refine go_nil ?_
    refine ⟨d, most, rfl, D2, m0, m1, fun pv p H3 hok hP D3 o3 => ?_⟩
    clear o3 eq o2
    with_reducible refine go_gname (go_seq (go_asg (go_m1 (go_c ?_))))
    with_reducible refine go_qm1 (go_callC (go_cons (go_var rfl (go_nil ?_))))
    refine ⟨pv, p, rfl, hok, hP, fun ta H4 S4 hta => ?_⟩
    have hP4 := hP.mono S4.tk
    have D4 := D3.same S4
    clear S4 hP D3
    skip
    refine go_joinS hta (Nat.le_trans (lines_sum hok) (by decide)) ?_
    with_reducible refine go_gname (go_for (go_rng1 (go_cons (go_c ?_))))
    with_reducible refine go_nil (go_qrng1 (by omega) (by omega) ?_)
    clear hta
    refine fq_range (fun i σ H' => ∃ v5 v6, σ = [some (.ref a), some (.ref d), some (V.int (0 + ↑i0)), some pv, some (.str (progT p)), v5, v6] ∧ Dice K H' d ∧ ProgAt H' p pv) ⟨v5, v6, rfl, D4, hP4⟩ ?_ ?_
    · rintro j σ H5 hj ⟨v5, v6, rfl, D5, P5⟩
      with_reducible refine go_gname (go_seq (go_asg (go_callC (go_cons ?_))))
      with_reducible refine go_var rfl (go_nil ?_)
      refine ⟨p, rfl, hok, fun fv H6 S6 F6 => ?_⟩
      have P6 := P5.mono S6.tk
      have D6 := D5.same S6
      clear S6
      with_reducible refine go_gname (go_ifS (go_or (go_not (go_testB ?_))))
      with_reducible refine go_callC (go_cons (go_callC (go_cons (go_var rfl ?_))))
      with_reducible refine go_nil ?_
      refine ⟨pv, p, rfl, hok, P6, fun H7 S7 => ?_⟩
      have P7 := P6.mono S7.tk
      have F7 := F6.mono S7.tk
      have D7 := D6.same S7
      clear S7
      with_reducible refine go_cons (go_var rfl (go_nil ?_))
      refine ⟨_, _, rfl, lk_str, ?_⟩
      with_reducible refine go_qb (go_iteNt (go_or (go_not (go_testB ?_))))
      with_reducible refine go_callC (go_cons (go_var rfl (go_cons (go_var rfl ?_))))
      with_reducible refine go_nil ?_
      refine ⟨_, _, rfl, lk_prog hok F7 P7, ?_⟩
      with_reducible refine go_qb (go_iteNt (go_test (go_op (go_callC ?_))))
      with_reducible refine go_cons (go_var rfl (go_nil ?_))
      refine ⟨fv, p, rfl, hok, F7, fun H8 S8 => ?_⟩
      have P8 := P7.mono S8.tk
      have D8 := D7.same S8
      clear S8
      with_reducible refine go_var rfl (go_neS (go_qb (go_iteNT (by first | assumption | rfl | omega | (simp only [List.length_cons, List.length_nil, List.length_map]; omega)) (go_next ?_))))
      exact ⟨_, _, rfl, D8, P8⟩
    · rintro σ H5 ⟨v5, v6, rfl, D5, P5⟩
      exact ⟨_, _, _, _, _, rfl, D5⟩
  · rintro σ H' ⟨v2, v3, v4, v5, v6, rfl, D⟩
    with_reducible refine go_ret (go_c ?_)
    exact k _
end
end Lw
namespace Lw
open PySem L2
section
set_option maxHeartbeats 4000000
theorem all_mk {l : PySem.W.OpenLaw} {w : World} {K : PySem.W.Frag} {h : Heap} {mg : Str → Option Value} {fa : Addr} (X : K.In h) (G : h.Ns mainGlobals mg) (hfa : mg "law" = some (.ref fa))
    {f_is_number : Addr} {od_is_number an_is_number : Option Addr} {sl_is_number : Array (Option Value)} {oc_is_number kV_is_number dc_is_number pm_is_number cd_is_number ct_is_number : Value}
    {f_is_part : Addr} {od_is_part an_is_part : Option Addr} {sl_is_part : Array (Option Value)} {oc_is_part kV_is_part dc_is_part pm_is_part cd_is_part ct_is_part : Value}
    {f_is_single : Addr} {od_is_single an_is_single : Option Addr} {sl_is_single : Array (Option Value)} {oc_is_single kV_is_single dc_is_single pm_is_single cd_is_single ct_is_single : Value}
    {f_has_shape : Addr} {od_has_shape an_has_shape : Option Addr} {sl_has_shape : Array (Option Value)} {oc_has_shape kV_has_shape dc_has_shape pm_has_shape cd_has_shape ct_has_shape : Value}
    {f_is_place : Addr} {od_is_place an_is_place : Option Addr} {sl_is_place : Array (Option Value)} {oc_is_place kV_is_place dc_is_place pm_is_place cd_is_place ct_is_place : Value}
    {f_check_row : Addr} {od_check_row an_check_row : Option Addr} {sl_check_row : Array (Option Value)} {oc_check_row kV_check_row dc_check_row pm_check_row cd_check_row ct_check_row : Value}
    {f_check_program : Addr} {od_check_program an_check_program : Option Addr} {sl_check_program : Array (Option Value)} {oc_check_program kV_check_program dc_check_program pm_check_program cd_check_program ct_check_program : Value}
    {f_part_text : Addr} {od_part_text an_part_text : Option Addr} {sl_part_text : Array (Option Value)} {oc_part_text kV_part_text dc_part_text pm_part_text cd_part_text ct_part_text : Value}
    {f_place_text : Addr} {od_place_text an_place_text : Option Addr} {sl_place_text : Array (Option Value)} {oc_place_text kV_place_text dc_place_text pm_place_text cd_place_text ct_place_text : Value}
    {f_row_text : Addr} {od_row_text an_row_text : Option Addr} {sl_row_text : Array (Option Value)} {oc_row_text kV_row_text dc_row_text pm_row_text cd_row_text ct_row_text : Value}
    {f_written : Addr} {od_written an_written : Option Addr} {sl_written : Array (Option Value)} {oc_written kV_written dc_written pm_written cd_written ct_written : Value}
    {f_read_number : Addr} {od_read_number an_read_number : Option Addr} {sl_read_number : Array (Option Value)} {oc_read_number kV_read_number dc_read_number pm_read_number cd_read_number ct_read_number : Value}
    {f_read_name : Addr} {od_read_name an_read_name : Option Addr} {sl_read_name : Array (Option Value)} {oc_read_name kV_read_name dc_read_name pm_read_name cd_read_name ct_read_name : Value}
    {f_read_single : Addr} {od_read_single an_read_single : Option Addr} {sl_read_single : Array (Option Value)} {oc_read_single kV_read_single dc_read_single pm_read_single cd_read_single ct_read_single : Value}
    {f_read_parts : Addr} {od_read_parts an_read_parts : Option Addr} {sl_read_parts : Array (Option Value)} {oc_read_parts kV_read_parts dc_read_parts pm_read_parts cd_read_parts ct_read_parts : Value}
    {f_read_row : Addr} {od_read_row an_read_row : Option Addr} {sl_read_row : Array (Option Value)} {oc_read_row kV_read_row dc_read_row pm_read_row cd_read_row ct_read_row : Value}
    {f_read_head : Addr} {od_read_head an_read_head : Option Addr} {sl_read_head : Array (Option Value)} {oc_read_head kV_read_head dc_read_head pm_read_head cd_read_head ct_read_head : Value}
    {f_read : Addr} {od_read an_read : Option Addr} {sl_read : Array (Option Value)} {oc_read kV_read dc_read pm_read cd_read ct_read : Value}
    {f_law_dice : Addr} {od_law_dice an_law_dice : Option Addr} {sl_law_dice : Array (Option Value)} {oc_law_dice kV_law_dice dc_law_dice pm_law_dice cd_law_dice ct_law_dice : Value}
    {f_law_next : Addr} {od_law_next an_law_next : Option Addr} {sl_law_next : Array (Option Value)} {oc_law_next kV_law_next dc_law_next pm_law_next cd_law_next ct_law_next : Value}
    {f_law_like : Addr} {od_law_like an_law_like : Option Addr} {sl_law_like : Array (Option Value)} {oc_law_like kV_law_like dc_law_like pm_law_like cd_law_like ct_law_like : Value}
    {f_law_any_part : Addr} {od_law_any_part an_law_any_part : Option Addr} {sl_law_any_part : Array (Option Value)} {oc_law_any_part kV_law_any_part dc_law_any_part pm_law_any_part cd_law_any_part ct_law_any_part : Value}
    {f_law_any_row : Addr} {od_law_any_row an_law_any_row : Option Addr} {sl_law_any_row : Array (Option Value)} {oc_law_any_row kV_law_any_row dc_law_any_row pm_law_any_row cd_law_any_row ct_law_any_row : Value}
    {f_law_any_program : Addr} {od_law_any_program an_law_any_program : Option Addr} {sl_law_any_program : Array (Option Value)} {oc_law_any_program kV_law_any_program dc_law_any_program pm_law_any_program cd_law_any_program ct_law_any_program : Value}
    {f_law_part_words : Addr} {od_law_part_words an_law_part_words : Option Addr} {sl_law_part_words : Array (Option Value)} {oc_law_part_words kV_law_part_words dc_law_part_words pm_law_part_words cd_law_part_words ct_law_part_words : Value}
    {f_law_text_rows : Addr} {od_law_text_rows an_law_text_rows : Option Addr} {sl_law_text_rows : Array (Option Value)} {oc_law_text_rows kV_law_text_rows dc_law_text_rows pm_law_text_rows cd_law_text_rows ct_law_text_rows : Value}
    {f_law : Addr} {od_law an_law : Option Addr} {sl_law : Array (Option Value)} {oc_law kV_law dc_law pm_law cd_law ct_law : Value}
    {dP : Addr}
    {t_MOST_NAMES : Tok}
    {t_MOST_FILES : Tok}
    {t_MOST_ROWS : Tok}
    {t_MOST_DEEP : Tok}
    {t_TOP : Tok}
    {t_MOST_FIGURES : Tok}
    (a_is_number : PySem.W.nsIn K mainGlobals "is_number" = some (some (.ref f_is_number)))
    (l_is_number : K.lookup f_is_number = some ⟨oc_is_number, od_is_number, .func (PySem.W.fnOf "is_number" "is_number" (defArgs s_is_number) (defBody s_is_number) (defScope s_is_number) .none kV_is_number dc_is_number pm_is_number an_is_number cd_is_number ct_is_number), sl_is_number⟩)
    (c_is_number : PySem.W.codeIn K cd_is_number "is_number" = true)
    (k_is_number : PySem.W.keepIn K (.ref f_is_number) = true)
    (a_is_part : PySem.W.nsIn K mainGlobals "is_part" = some (some (.ref f_is_part)))
    (l_is_part : K.lookup f_is_part = some ⟨oc_is_part, od_is_part, .func (PySem.W.fnOf "is_part" "is_part" (defArgs s_is_part) (defBody s_is_part) (defScope s_is_part) .none kV_is_part dc_is_part pm_is_part an_is_part cd_is_part ct_is_part), sl_is_part⟩)
    (c_is_part : PySem.W.codeIn K cd_is_part "is_part" = true)
    (k_is_part : PySem.W.keepIn K (.ref f_is_part) = true)
    (a_is_single : PySem.W.nsIn K mainGlobals "is_single" = some (some (.ref f_is_single)))
    (l_is_single : K.lookup f_is_single = some ⟨oc_is_single, od_is_single, .func (PySem.W.fnOf "is_single" "is_single" (defArgs s_is_single) (defBody s_is_single) (defScope s_is_single) .none kV_is_single dc_is_single pm_is_single an_is_single cd_is_single ct_is_single), sl_is_single⟩)
    (c_is_single : PySem.W.codeIn K cd_is_single "is_single" = true)
    (k_is_single : PySem.W.keepIn K (.ref f_is_single) = true)
    (a_has_shape : PySem.W.nsIn K mainGlobals "has_shape" = some (some (.ref f_has_shape)))
    (l_has_shape : K.lookup f_has_shape = some ⟨oc_has_shape, od_has_shape, .func (PySem.W.fnOf "has_shape" "has_shape" (defArgs s_has_shape) (defBody s_has_shape) (defScope s_has_shape) .none kV_has_shape dc_has_shape pm_has_shape an_has_shape cd_has_shape ct_has_shape), sl_has_shape⟩)
    (c_has_shape : PySem.W.codeIn K cd_has_shape "has_shape" = true)
    (k_has_shape : PySem.W.keepIn K (.ref f_has_shape) = true)
    (a_is_place : PySem.W.nsIn K mainGlobals "is_place" = some (some (.ref f_is_place)))
    (l_is_place : K.lookup f_is_place = some ⟨oc_is_place, od_is_place, .func (PySem.W.fnOf "is_place" "is_place" (defArgs s_is_place) (defBody s_is_place) (defScope s_is_place) .none kV_is_place dc_is_place pm_is_place an_is_place cd_is_place ct_is_place), sl_is_place⟩)
    (c_is_place : PySem.W.codeIn K cd_is_place "is_place" = true)
    (k_is_place : PySem.W.keepIn K (.ref f_is_place) = true)
    (a_check_row : PySem.W.nsIn K mainGlobals "check_row" = some (some (.ref f_check_row)))
    (l_check_row : K.lookup f_check_row = some ⟨oc_check_row, od_check_row, .func (PySem.W.fnOf "check_row" "check_row" (defArgs s_check_row) (defBody s_check_row) (defScope s_check_row) .none kV_check_row dc_check_row pm_check_row an_check_row cd_check_row ct_check_row), sl_check_row⟩)
    (c_check_row : PySem.W.codeIn K cd_check_row "check_row" = true)
    (k_check_row : PySem.W.keepIn K (.ref f_check_row) = true)
    (a_check_program : PySem.W.nsIn K mainGlobals "check_program" = some (some (.ref f_check_program)))
    (l_check_program : K.lookup f_check_program = some ⟨oc_check_program, od_check_program, .func (PySem.W.fnOf "check_program" "check_program" (defArgs s_check_program) (defBody s_check_program) (defScope s_check_program) .none kV_check_program dc_check_program pm_check_program an_check_program cd_check_program ct_check_program), sl_check_program⟩)
    (c_check_program : PySem.W.codeIn K cd_check_program "check_program" = true)
    (k_check_program : PySem.W.keepIn K (.ref f_check_program) = true)
    (a_part_text : PySem.W.nsIn K mainGlobals "part_text" = some (some (.ref f_part_text)))
    (l_part_text : K.lookup f_part_text = some ⟨oc_part_text, od_part_text, .func (PySem.W.fnOf "part_text" "part_text" (defArgs s_part_text) (defBody s_part_text) (defScope s_part_text) .none kV_part_text dc_part_text pm_part_text an_part_text cd_part_text ct_part_text), sl_part_text⟩)
    (c_part_text : PySem.W.codeIn K cd_part_text "part_text" = true)
    (k_part_text : PySem.W.keepIn K (.ref f_part_text) = true)
    (a_place_text : PySem.W.nsIn K mainGlobals "place_text" = some (some (.ref f_place_text)))
    (l_place_text : K.lookup f_place_text = some ⟨oc_place_text, od_place_text, .func (PySem.W.fnOf "place_text" "place_text" (defArgs s_place_text) (defBody s_place_text) (defScope s_place_text) .none kV_place_text dc_place_text pm_place_text an_place_text cd_place_text ct_place_text), sl_place_text⟩)
    (c_place_text : PySem.W.codeIn K cd_place_text "place_text" = true)
    (k_place_text : PySem.W.keepIn K (.ref f_place_text) = true)
    (a_row_text : PySem.W.nsIn K mainGlobals "row_text" = some (some (.ref f_row_text)))
    (l_row_text : K.lookup f_row_text = some ⟨oc_row_text, od_row_text, .func (PySem.W.fnOf "row_text" "row_text" (defArgs s_row_text) (defBody s_row_text) (defScope s_row_text) .none kV_row_text dc_row_text pm_row_text an_row_text cd_row_text ct_row_text), sl_row_text⟩)
    (c_row_text : PySem.W.codeIn K cd_row_text "row_text" = true)
    (k_row_text : PySem.W.keepIn K (.ref f_row_text) = true)
    (a_written : PySem.W.nsIn K mainGlobals "written" = some (some (.ref f_written)))
    (l_written : K.lookup f_written = some ⟨oc_written, od_written, .func (PySem.W.fnOf "written" "written" (defArgs s_written) (defBody s_written) (defScope s_written) .none kV_written dc_written pm_written an_written cd_written ct_written), sl_written⟩)
    (c_written : PySem.W.codeIn K cd_written "written" = true)
    (k_written : PySem.W.keepIn K (.ref f_written) = true)
    (a_read_number : PySem.W.nsIn K mainGlobals "read_number" = some (some (.ref f_read_number)))
    (l_read_number : K.lookup f_read_number = some ⟨oc_read_number, od_read_number, .func (PySem.W.fnOf "read_number" "read_number" (defArgs s_read_number) (defBody s_read_number) (defScope s_read_number) .none kV_read_number dc_read_number pm_read_number an_read_number cd_read_number ct_read_number), sl_read_number⟩)
    (c_read_number : PySem.W.codeIn K cd_read_number "read_number" = true)
    (k_read_number : PySem.W.keepIn K (.ref f_read_number) = true)
    (a_read_name : PySem.W.nsIn K mainGlobals "read_name" = some (some (.ref f_read_name)))
    (l_read_name : K.lookup f_read_name = some ⟨oc_read_name, od_read_name, .func (PySem.W.fnOf "read_name" "read_name" (defArgs s_read_name) (defBody s_read_name) (defScope s_read_name) .none kV_read_name dc_read_name pm_read_name an_read_name cd_read_name ct_read_name), sl_read_name⟩)
    (c_read_name : PySem.W.codeIn K cd_read_name "read_name" = true)
    (k_read_name : PySem.W.keepIn K (.ref f_read_name) = true)
    (a_read_single : PySem.W.nsIn K mainGlobals "read_single" = some (some (.ref f_read_single)))
    (l_read_single : K.lookup f_read_single = some ⟨oc_read_single, od_read_single, .func (PySem.W.fnOf "read_single" "read_single" (defArgs s_read_single) (defBody s_read_single) (defScope s_read_single) .none kV_read_single dc_read_single pm_read_single an_read_single cd_read_single ct_read_single), sl_read_single⟩)
    (c_read_single : PySem.W.codeIn K cd_read_single "read_single" = true)
    (k_read_single : PySem.W.keepIn K (.ref f_read_single) = true)
    (a_read_parts : PySem.W.nsIn K mainGlobals "read_parts" = some (some (.ref f_read_parts)))
    (l_read_parts : K.lookup f_read_parts = some ⟨oc_read_parts, od_read_parts, .func (PySem.W.fnOf "read_parts" "read_parts" (defArgs s_read_parts) (defBody s_read_parts) (defScope s_read_parts) .none kV_read_parts dc_read_parts pm_read_parts an_read_parts cd_read_parts ct_read_parts), sl_read_parts⟩)
    (c_read_parts : PySem.W.codeIn K cd_read_parts "read_parts" = true)
    (k_read_parts : PySem.W.keepIn K (.ref f_read_parts) = true)
    (a_read_row : PySem.W.nsIn K mainGlobals "read_row" = some (some (.ref f_read_row)))
    (l_read_row : K.lookup f_read_row = some ⟨oc_read_row, od_read_row, .func (PySem.W.fnOf "read_row" "read_row" (defArgs s_read_row) (defBody s_read_row) (defScope s_read_row) .none kV_read_row dc_read_row pm_read_row an_read_row cd_read_row ct_read_row), sl_read_row⟩)
    (c_read_row : PySem.W.codeIn K cd_read_row "read_row" = true)
    (k_read_row : PySem.W.keepIn K (.ref f_read_row) = true)
    (a_read_head : PySem.W.nsIn K mainGlobals "read_head" = some (some (.ref f_read_head)))
    (l_read_head : K.lookup f_read_head = some ⟨oc_read_head, od_read_head, .func (PySem.W.fnOf "read_head" "read_head" (defArgs s_read_head) (defBody s_read_head) (defScope s_read_head) .none kV_read_head dc_read_head pm_read_head an_read_head cd_read_head ct_read_head), sl_read_head⟩)
    (c_read_head : PySem.W.codeIn K cd_read_head "read_head" = true)
    (k_read_head : PySem.W.keepIn K (.ref f_read_head) = true)
    (a_read : PySem.W.nsIn K mainGlobals "read" = some (some (.ref f_read)))
    (l_read : K.lookup f_read = some ⟨oc_read, od_read, .func (PySem.W.fnOf "read" "read" (defArgs s_read) (defBody s_read) (defScope s_read) .none kV_read dc_read pm_read an_read cd_read ct_read), sl_read⟩)
    (c_read : PySem.W.codeIn K cd_read "read" = true)
    (k_read : PySem.W.keepIn K (.ref f_read) = true)
    (a_law_dice : PySem.W.nsIn K mainGlobals "_law_dice" = some (some (.ref f_law_dice)))
    (l_law_dice : K.lookup f_law_dice = some ⟨oc_law_dice, od_law_dice, .func (PySem.W.fnOf "_law_dice" "_law_dice" (defArgs s__law_dice) (defBody s__law_dice) (defScope s__law_dice) .none kV_law_dice dc_law_dice pm_law_dice an_law_dice cd_law_dice ct_law_dice), sl_law_dice⟩)
    (c_law_dice : PySem.W.codeIn K cd_law_dice "_law_dice" = true)
    (k_law_dice : PySem.W.keepIn K (.ref f_law_dice) = true)
    (a_law_next : PySem.W.nsIn K mainGlobals "_law_next" = some (some (.ref f_law_next)))
    (l_law_next : K.lookup f_law_next = some ⟨oc_law_next, od_law_next, .func (PySem.W.fnOf "_law_next" "_law_next" (defArgs s__law_next) (defBody s__law_next) (defScope s__law_next) .none kV_law_next dc_law_next pm_law_next an_law_next cd_law_next ct_law_next), sl_law_next⟩)
    (c_law_next : PySem.W.codeIn K cd_law_next "_law_next" = true)
    (k_law_next : PySem.W.keepIn K (.ref f_law_next) = true)
    (a_law_like : PySem.W.nsIn K mainGlobals "_law_like" = some (some (.ref f_law_like)))
    (l_law_like : K.lookup f_law_like = some ⟨oc_law_like, od_law_like, .func (PySem.W.fnOf "_law_like" "_law_like" (defArgs s__law_like) (defBody s__law_like) (defScope s__law_like) .none kV_law_like dc_law_like pm_law_like an_law_like cd_law_like ct_law_like), sl_law_like⟩)
    (c_law_like : PySem.W.codeIn K cd_law_like "_law_like" = true)
    (k_law_like : PySem.W.keepIn K (.ref f_law_like) = true)
    (a_law_any_part : PySem.W.nsIn K mainGlobals "_law_any_part" = some (some (.ref f_law_any_part)))
    (l_law_any_part : K.lookup f_law_any_part = some ⟨oc_law_any_part, od_law_any_part, .func (PySem.W.fnOf "_law_any_part" "_law_any_part" (defArgs s__law_any_part) (defBody s__law_any_part) (defScope s__law_any_part) .none kV_law_any_part dc_law_any_part pm_law_any_part an_law_any_part cd_law_any_part ct_law_any_part), sl_law_any_part⟩)
    (c_law_any_part : PySem.W.codeIn K cd_law_any_part "_law_any_part" = true)
    (k_law_any_part : PySem.W.keepIn K (.ref f_law_any_part) = true)
    (a_law_any_row : PySem.W.nsIn K mainGlobals "_law_any_row" = some (some (.ref f_law_any_row)))
    (l_law_any_row : K.lookup f_law_any_row = some ⟨oc_law_any_row, od_law_any_row, .func (PySem.W.fnOf "_law_any_row" "_law_any_row" (defArgs s__law_any_row) (defBody s__law_any_row) (defScope s__law_any_row) .none kV_law_any_row dc_law_any_row pm_law_any_row an_law_any_row cd_law_any_row ct_law_any_row), sl_law_any_row⟩)
    (c_law_any_row : PySem.W.codeIn K cd_law_any_row "_law_any_row" = true)
    (k_law_any_row : PySem.W.keepIn K (.ref f_law_any_row) = true)
    (a_law_any_program : PySem.W.nsIn K mainGlobals "_law_any_program" = some (some (.ref f_law_any_program)))
    (l_law_any_program : K.lookup f_law_any_program = some ⟨oc_law_any_program, od_law_any_program, .func (PySem.W.fnOf "_law_any_program" "_law_any_program" (defArgs s__law_any_program) (defBody s__law_any_program) (defScope s__law_any_program) .none kV_law_any_program dc_law_any_program pm_law_any_program an_law_any_program cd_law_any_program ct_law_any_program), sl_law_any_program⟩)
    (c_law_any_program : PySem.W.codeIn K cd_law_any_program "_law_any_program" = true)
    (k_law_any_program : PySem.W.keepIn K (.ref f_law_any_program) = true)
    (a_law_part_words : PySem.W.nsIn K mainGlobals "_law_part_words" = some (some (.ref f_law_part_words)))
    (l_law_part_words : K.lookup f_law_part_words = some ⟨oc_law_part_words, od_law_part_words, .func (PySem.W.fnOf "_law_part_words" "_law_part_words" (defArgs s__law_part_words) (defBody s__law_part_words) (defScope s__law_part_words) .none kV_law_part_words dc_law_part_words pm_law_part_words an_law_part_words cd_law_part_words ct_law_part_words), sl_law_part_words⟩)
    (c_law_part_words : PySem.W.codeIn K cd_law_part_words "_law_part_words" = true)
    (k_law_part_words : PySem.W.keepIn K (.ref f_law_part_words) = true)
    (a_law_text_rows : PySem.W.nsIn K mainGlobals "_law_text_rows" = some (some (.ref f_law_text_rows)))
    (l_law_text_rows : K.lookup f_law_text_rows = some ⟨oc_law_text_rows, od_law_text_rows, .func (PySem.W.fnOf "_law_text_rows" "_law_text_rows" (defArgs s__law_text_rows) (defBody s__law_text_rows) (defScope s__law_text_rows) .none kV_law_text_rows dc_law_text_rows pm_law_text_rows an_law_text_rows cd_law_text_rows ct_law_text_rows), sl_law_text_rows⟩)
    (c_law_text_rows : PySem.W.codeIn K cd_law_text_rows "_law_text_rows" = true)
    (k_law_text_rows : PySem.W.keepIn K (.ref f_law_text_rows) = true)
    (a_law : PySem.W.nsIn K mainGlobals "law" = some (some (.ref f_law)))
    (l_law : K.lookup f_law = some ⟨oc_law, od_law, .func (PySem.W.fnOf "law" "law" (defArgs s_law) (defBody s_law) (defScope s_law) .none kV_law dc_law pm_law an_law cd_law ct_law), sl_law⟩)
    (c_law : PySem.W.codeIn K cd_law "law" = true)
    (k_law : PySem.W.keepIn K (.ref f_law) = true)
    (ad_PLACES : PySem.W.nsIn K mainGlobals "PLACES" = some (some (.ref dP)))
    (z_reversed : PySem.W.nsIn K mainGlobals "reversed" = some none)
    (z_len : PySem.W.nsIn K mainGlobals "len" = some none)
    (z_range : PySem.W.nsIn K mainGlobals "range" = some none)
    (z_isinstance : PySem.W.nsIn K mainGlobals "isinstance" = some none)
    (z_int : PySem.W.nsIn K mainGlobals "int" = some none)
    (z_bool : PySem.W.nsIn K mainGlobals "bool" = some none)
    (z_str : PySem.W.nsIn K mainGlobals "str" = some none)
    (z_tuple : PySem.W.nsIn K mainGlobals "tuple" = some none)
    (z_list : PySem.W.nsIn K mainGlobals "list" = some none)
    (z_min : PySem.W.nsIn K mainGlobals "min" = some none)
    (z_max : PySem.W.nsIn K mainGlobals "max" = some none)
    (z_enumerate : PySem.W.nsIn K mainGlobals "enumerate" = some none)
    (z_zip : PySem.W.nsIn K mainGlobals "zip" = some none)
    (y_MOST_NAMES : PySem.W.nsIn K mainGlobals "MOST_NAMES" = some (some (.int 8 t_MOST_NAMES)))
    (y_MOST_FILES : PySem.W.nsIn K mainGlobals "MOST_FILES" = some (some (.int 4 t_MOST_FILES)))
    (y_MOST_ROWS : PySem.W.nsIn K mainGlobals "MOST_ROWS" = some (some (.int 60 t_MOST_ROWS)))
    (y_MOST_DEEP : PySem.W.nsIn K mainGlobals "MOST_DEEP" = some (some (.int 3 t_MOST_DEEP)))
    (y_TOP : PySem.W.nsIn K mainGlobals "TOP" = some (some (.int 10006 t_TOP)))
    (y_MOST_FIGURES : PySem.W.nsIn K mainGlobals "MOST_FIGURES" = some (some (.int 5 t_MOST_FIGURES)))
    (h_places : placesOk K dP = true)
    : ∃ fd : FuncData, (∀ (s : Shared) (v : Value), BindsTo s fd ⟨[v], []⟩ [("_law_script", v)]) ∧ ∀ base : Heap, K.In base → base.Ns mainGlobals mg → FnOk l.prog w K mg base CX0 10 fa fd ["_law_script"] (spLaw K) := by
  have e := hfa.symm.trans (PySem.W.mg_of X G a_law)
  cases e
  have T : Txt mg := { n_reversed := PySem.W.mg_none_of X G z_reversed, n_len := PySem.W.mg_none_of X G z_len, n_range := PySem.W.mg_none_of X G z_range, n_isinstance := PySem.W.mg_none_of X G z_isinstance, n_int := PySem.W.mg_none_of X G z_int, n_bool := PySem.W.mg_none_of X G z_bool, n_str := PySem.W.mg_none_of X G z_str, n_tuple := PySem.W.mg_none_of X G z_tuple, n_list := PySem.W.mg_none_of X G z_list, n_min := PySem.W.mg_none_of X G z_min, n_max := PySem.W.mg_none_of X G z_max, n_enumerate := PySem.W.mg_none_of X G z_enumerate, n_zip := PySem.W.mg_none_of X G z_zip, g_MOST_NAMES := ⟨t_MOST_NAMES, PySem.W.mg_of X G y_MOST_NAMES⟩, g_MOST_FILES := ⟨t_MOST_FILES, PySem.W.mg_of X G y_MOST_FILES⟩, g_MOST_ROWS := ⟨t_MOST_ROWS, PySem.W.mg_of X G y_MOST_ROWS⟩, g_MOST_DEEP := ⟨t_MOST_DEEP, PySem.W.mg_of X G y_MOST_DEEP⟩, g_TOP := ⟨t_TOP, PySem.W.mg_of X G y_TOP⟩, g_MOST_FIGURES := ⟨t_MOST_FIGURES, PySem.W.mg_of X G y_MOST_FIGURES⟩ }
  have F_is_number := fun_mk (st := s_is_number) l_is_number c_is_number k_is_number
  have b_is_number := F_is_number.binds (ps := ["thing", "low", "high"]) fun _ _ _ _ _ _ us hl => match us, hl with | [_, _, _], _ => rfl
  have m_is_number := PySem.W.mg_of X G a_is_number
  have F_is_part := fun_mk (st := s_is_part) l_is_part c_is_part k_is_part
  have b_is_part := F_is_part.binds (ps := ["part", "names", "deep"]) fun _ _ _ _ _ _ us hl => match us, hl with | [_, _, _], _ => rfl
  have m_is_part := PySem.W.mg_of X G a_is_part
  have F_is_single := fun_mk (st := s_is_single) l_is_single c_is_single k_is_single
  have b_is_single := F_is_single.binds (ps := ["part", "names"]) fun _ _ _ _ _ _ us hl => match us, hl with | [_, _], _ => rfl
  have m_is_single := PySem.W.mg_of X G a_is_single
  have F_has_shape := fun_mk (st := s_has_shape) l_has_shape c_has_shape k_has_shape
  have b_has_shape := F_has_shape.binds (ps := ["row"]) fun _ _ _ _ _ _ us hl => match us, hl with | [_], _ => rfl
  have m_has_shape := PySem.W.mg_of X G a_has_shape
  have F_is_place := fun_mk (st := s_is_place) l_is_place c_is_place k_is_place
  have b_is_place := F_is_place.binds (ps := ["place", "kind", "program"]) fun _ _ _ _ _ _ us hl => match us, hl with | [_, _, _], _ => rfl
  have m_is_place := PySem.W.mg_of X G a_is_place
  have F_check_row := fun_mk (st := s_check_row) l_check_row c_check_row k_check_row
  have b_check_row := F_check_row.binds (ps := ["number", "row", "program"]) fun _ _ _ _ _ _ us hl => match us, hl with | [_, _, _], _ => rfl
  have m_check_row := PySem.W.mg_of X G a_check_row
  have F_check_program := fun_mk (st := s_check_program) l_check_program c_check_program k_check_program
  have b_check_program := F_check_program.binds (ps := ["program"]) fun _ _ _ _ _ _ us hl => match us, hl with | [_], _ => rfl
  have m_check_program := PySem.W.mg_of X G a_check_program
  have F_part_text := fun_mk (st := s_part_text) l_part_text c_part_text k_part_text
  have b_part_text := F_part_text.binds (ps := ["part"]) fun _ _ _ _ _ _ us hl => match us, hl with | [_], _ => rfl
  have m_part_text := PySem.W.mg_of X G a_part_text
  have F_place_text := fun_mk (st := s_place_text) l_place_text c_place_text k_place_text
  have b_place_text := F_place_text.binds (ps := ["place", "kind"]) fun _ _ _ _ _ _ us hl => match us, hl with | [_, _], _ => rfl
  have m_place_text := PySem.W.mg_of X G a_place_text
  have F_row_text := fun_mk (st := s_row_text) l_row_text c_row_text k_row_text
  have b_row_text := F_row_text.binds (ps := ["row"]) fun _ _ _ _ _ _ us hl => match us, hl with | [_], _ => rfl
  have m_row_text := PySem.W.mg_of X G a_row_text
  have F_written := fun_mk (st := s_written) l_written c_written k_written
  have b_written := F_written.binds (ps := ["program"]) fun _ _ _ _ _ _ us hl => match us, hl with | [_], _ => rfl
  have m_written := PySem.W.mg_of X G a_written
  have F_read_number := fun_mk (st := s_read_number) l_read_number c_read_number k_read_number
  have b_read_number := F_read_number.binds (ps := ["word"]) fun _ _ _ _ _ _ us hl => match us, hl with | [_], _ => rfl
  have m_read_number := PySem.W.mg_of X G a_read_number
  have F_read_name := fun_mk (st := s_read_name) l_read_name c_read_name k_read_name
  have b_read_name := F_read_name.binds (ps := ["word"]) fun _ _ _ _ _ _ us hl => match us, hl with | [_], _ => rfl
  have m_read_name := PySem.W.mg_of X G a_read_name
  have F_read_single := fun_mk (st := s_read_single) l_read_single c_read_single k_read_single
  have b_read_single := F_read_single.binds (ps := ["word"]) fun _ _ _ _ _ _ us hl => match us, hl with | [_], _ => rfl
  have m_read_single := PySem.W.mg_of X G a_read_single
  have F_read_parts := fun_mk (st := s_read_parts) l_read_parts c_read_parts k_read_parts
  have b_read_parts := F_read_parts.binds (ps := ["words"]) fun _ _ _ _ _ _ us hl => match us, hl with | [_], _ => rfl
  have m_read_parts := PySem.W.mg_of X G a_read_parts
  have F_read_row := fun_mk (st := s_read_row) l_read_row c_read_row k_read_row
  have b_read_row := F_read_row.binds (ps := ["words"]) fun _ _ _ _ _ _ us hl => match us, hl with | [_], _ => rfl
  have m_read_row := PySem.W.mg_of X G a_read_row
  have F_read_head := fun_mk (st := s_read_head) l_read_head c_read_head k_read_head
  have b_read_head := F_read_head.binds (ps := ["words"]) fun _ _ _ _ _ _ us hl => match us, hl with | [_], _ => rfl
  have m_read_head := PySem.W.mg_of X G a_read_head
  have F_read := fun_mk (st := s_read) l_read c_read k_read
  have b_read := F_read.binds (ps := ["text"]) fun _ _ _ _ _ _ us hl => match us, hl with | [_], _ => rfl
  have m_read := PySem.W.mg_of X G a_read
  have F_law_dice := fun_mk (st := s__law_dice) l_law_dice c_law_dice k_law_dice
  have b_law_dice := F_law_dice.binds (ps := ["_law_script"]) fun _ _ _ _ _ _ us hl => match us, hl with | [_], _ => rfl
  have m_law_dice := PySem.W.mg_of X G a_law_dice
  have F_law_next := fun_mk (st := s__law_next) l_law_next c_law_next k_law_next
  have b_law_next := F_law_next.binds (ps := ["_law_dice_here", "_law_many"]) fun _ _ _ _ _ _ us hl => match us, hl with | [_, _], _ => rfl
  have m_law_next := PySem.W.mg_of X G a_law_next
  have F_law_like := fun_mk (st := s__law_like) l_law_like c_law_like k_law_like
  have b_law_like := F_law_like.binds (ps := ["_law_found", "_law_due"]) fun _ _ _ _ _ _ us hl => match us, hl with | [_, _], _ => rfl
  have m_law_like := PySem.W.mg_of X G a_law_like
  have F_law_any_part := fun_mk (st := s__law_any_part) l_law_any_part c_law_any_part k_law_any_part
  have b_law_any_part := F_law_any_part.binds (ps := ["_law_d", "_law_names", "_law_deep"]) fun _ _ _ _ _ _ us hl => match us, hl with | [_, _, _], _ => rfl
  have m_law_any_part := PySem.W.mg_of X G a_law_any_part
  have F_law_any_row := fun_mk (st := s__law_any_row) l_law_any_row c_law_any_row k_law_any_row
  have b_law_any_row := F_law_any_row.binds (ps := ["_law_d", "_law_names", "_law_files", "_law_at", "_law_many"]) fun _ _ _ _ _ _ us hl => match us, hl with | [_, _, _, _, _], _ => rfl
  have m_law_any_row := PySem.W.mg_of X G a_law_any_row
  have F_law_any_program := fun_mk (st := s__law_any_program) l_law_any_program c_law_any_program k_law_any_program
  have b_law_any_program := F_law_any_program.binds (ps := ["_law_d", "_law_most"]) fun _ _ _ _ _ _ us hl => match us, hl with | [_, _], _ => rfl
  have m_law_any_program := PySem.W.mg_of X G a_law_any_program
  have F_law_part_words := fun_mk (st := s__law_part_words) l_law_part_words c_law_part_words k_law_part_words
  have b_law_part_words := F_law_part_words.binds (ps := ["_law_part"]) fun _ _ _ _ _ _ us hl => match us, hl with | [_], _ => rfl
  have m_law_part_words := PySem.W.mg_of X G a_law_part_words
  have F_law_text_rows := fun_mk (st := s__law_text_rows) l_law_text_rows c_law_text_rows k_law_text_rows
  have b_law_text_rows := F_law_text_rows.binds (ps := ["_law_p"]) fun _ _ _ _ _ _ us hl => match us, hl with | [_], _ => rfl
  have m_law_text_rows := PySem.W.mg_of X G a_law_text_rows
  have F_law := fun_mk (st := s_law) l_law c_law k_law
  have O : Own K mg 0 0 dP 0 := { g_PLACES := PySem.W.mg_of X G ad_PLACES, i := trivial, c := trivial, pl := h_places }
  refine ⟨PySem.W.fnOf "law" "law" (defArgs s_law) (defBody s_law) (defScope s_law) .none kV_law dc_law pm_law an_law cd_law ct_law, fun s v => .of_eq rfl, fun base _ _ => ?_⟩
  have C_is_number : FnC l.prog w K mg base 1 "is_number" ["thing", "low", "high"] spIsNum := ⟨f_is_number, _, ok_isnum F_is_number T, m_is_number, k_is_number, b_is_number⟩
  have C_is_single : FnC l.prog w K mg base 2 "is_single" ["part", "names"] spSingle := ⟨f_is_single, _, ok_single F_is_single T C_is_number, m_is_single, k_is_single, b_is_single⟩
  have C_is_part := c_ispart (P := l.prog) (w := w) (base := base) F_is_part b_is_part m_is_part T C_is_single 3
  have C_has_shape : FnC l.prog w K mg base 1 "has_shape" ["row"] spShape := ⟨f_has_shape, _, ok_shape F_has_shape T O, m_has_shape, k_has_shape, b_has_shape⟩
  have C_is_place : FnC l.prog w K mg base 6 "is_place" ["place", "kind", "program"] spPlace := ⟨f_is_place, _, ok_place F_is_place T C_is_number C_is_part, m_is_place, k_is_place, b_is_place⟩
  have C_check_row : FnC l.prog w K mg base 7 "check_row" ["number", "row", "program"] spCkRow := ⟨f_check_row, _, ok_ckrow F_check_row T O C_has_shape C_is_place, m_check_row, k_check_row, b_check_row⟩
  have C_check_program : FnC l.prog w K mg base 8 "check_program" ["program"] spCkProg := ⟨f_check_program, _, ok_ckprog F_check_program T C_is_number C_check_row, m_check_program, k_check_program, b_check_program⟩
  have C_part_text := c_ptext (P := l.prog) (w := w) (base := base) F_part_text b_part_text m_part_text T 3
  have C_place_text : FnC l.prog w K mg base 5 "place_text" ["place", "kind"] spPlT := ⟨f_place_text, _, ok_pltext F_place_text T C_part_text, m_place_text, k_place_text, b_place_text⟩
  have C_row_text : FnC l.prog w K mg base 6 "row_text" ["row"] spRowT := ⟨f_row_text, _, ok_rowt F_row_text T O C_place_text, m_row_text, k_row_text, b_row_text⟩
  have C_written : FnC l.prog w K mg base 9 "written" ["program"] spWritten := ⟨f_written, _, ok_written F_written T C_check_program C_row_text, m_written, k_written, b_written⟩
  have C_read_number : FnC l.prog w K mg base 1 "read_number" ["word"] spRNum := ⟨f_read_number, _, ok_rnum F_read_number T, m_read_number, k_read_number, b_read_number⟩
  have C_read_name : FnC l.prog w K mg base 2 "read_name" ["word"] spRName := ⟨f_read_name, _, ok_rname F_read_name T C_read_number, m_read_name, k_read_name, b_read_name⟩
  have C_read_single : FnC l.prog w K mg base 3 "read_single" ["word"] spRSingle := ⟨f_read_single, _, ok_rsingle F_read_single T C_read_number C_read_name, m_read_single, k_read_single, b_read_single⟩
  have C_read_parts : FnC l.prog w K mg base 4 "read_parts" ["words"] spRParts := ⟨f_read_parts, _, ok_rparts F_read_parts T C_read_single, m_read_parts, k_read_parts, b_read_parts⟩
  have C_read_row : FnC l.prog w K mg base 5 "read_row" ["words"] spRRow := ⟨f_read_row, _, ok_rrow F_read_row T O C_read_number C_read_name C_read_parts, m_read_row, k_read_row, b_read_row⟩
  have C_read_head : FnC l.prog w K mg base 2 "read_head" ["words"] spRHead := ⟨f_read_head, _, ok_rhead F_read_head T C_read_number, m_read_head, k_read_head, b_read_head⟩
  have C_read : FnC l.prog w K mg base 9 "read" ["text"] spRead := ⟨f_read, _, ok_read F_read T C_check_program C_read_head C_read_row, m_read, k_read, b_read⟩
  have C_law_dice : FnC l.prog w K mg base 1 "_law_dice" ["_law_script"] (spDice K) := ⟨f_law_dice, _, ok_dice F_law_dice T, m_law_dice, k_law_dice, b_law_dice⟩
  have C_law_next : FnC l.prog w K mg base 1 "_law_next" ["_law_dice_here", "_law_many"] (spNext K) := ⟨f_law_next, _, ok_next F_law_next T, m_law_next, k_law_next, b_law_next⟩
  have C_law_like := c_like (P := l.prog) (w := w) (base := base) F_law_like b_law_like m_law_like T 7
  have C_law_any_part := c_part (P := l.prog) (w := w) (base := base) F_law_any_part b_law_any_part m_law_any_part T C_law_next 3
  have C_law_any_row : FnC l.prog w K mg base 5 "_law_any_row" ["_law_d", "_law_names", "_law_files", "_law_at", "_law_many"] (spRow K) := ⟨f_law_any_row, _, ok_row F_law_any_row T C_law_next C_law_any_part, m_law_any_row, k_law_any_row, b_law_any_row⟩
  have C_law_any_program : FnC l.prog w K mg base 6 "_law_any_program" ["_law_d", "_law_most"] (spProg K) := ⟨f_law_any_program, _, ok_prog F_law_any_program T C_law_next C_law_any_row, m_law_any_program, k_law_any_program, b_law_any_program⟩
  have C_law_part_words := c_pws (P := l.prog) (w := w) (base := base) F_law_part_words b_law_part_words m_law_part_words T 3
  have C_law_text_rows : FnC l.prog w K mg base 5 "_law_text_rows" ["_law_p"] spTRows := ⟨f_law_text_rows, _, ok_trows F_law_text_rows T C_law_part_words, m_law_text_rows, k_law_text_rows, b_law_text_rows⟩
  exact ok_law F_law T C_law_dice C_law_next C_law_like C_law_any_program C_law_text_rows C_written C_read
end
theorem walk {l : PySem.W.OpenLaw} {q : Program} {loose : List Str} {XP : (Str → Option Value) → Heap → Prop} {YP : World → Heap → Prop} {d : DefRec} {K : Params → PySem.W.Frag} (hn : l.most = some 63) (hdf : d.params.defaults = [])
    (hY : ∀ (w : World) (h : Heap), YP w h → (K w.params).In h)
    (F : ∀ (w : World) (mg : Str → Option Value) (fa : Addr) (h : Heap), (K w.params).In h → h.Ns mainGlobals mg → mg d.name = some (.ref fa) →
      ∃ fd : FuncData, (∀ (s : Shared) (u : Value), BindsTo s fd ⟨[u], []⟩ [("_law_script", u)]) ∧ ∀ base : Heap, (K w.params).In base → base.Ns mainGlobals mg → FnOk l.prog w (K w.params) mg base CX0 10 fa fd ["_law_script"] (spLaw (K w.params))) :
    PySem.W.WalkO q loose XP YP l.row.toRowW d [] (fun f vs => PySem.call f vs) :=
  L2.walk_of (n := 63) (k := 10) (x := "_law_script") (CX := fun _ => CX0) (sp := fun w => spLaw (K w.params)) hn (by decide) hdf ⟨rfl, by decide, by decide⟩ hY F (fun _ _ a ns hl O hS => ⟨a, ns, rfl, Scr.of O hS, hl, fun _ => rfl⟩) fun _ _ _ _ _ z => z
end Lw
open PySem PySem.W PyProof.Rows
set_option maxRecDepth 100000 in
set_option maxHeartbeats 0 in
theorem PySem.Challenge.cw_longwork_k19_written_and_read_holds : PySem.Challenge.rw_longwork_k19_written_and_read.Holds := by
  w_on; o_law; k_head; (case hw => w_witness2)
  k_fill
  refine Lw.walk (l := PySem.Challenge.rw_longwork_k19_written_and_read) rfl rfl (fun w h Y => PySem.W.kIn_of Y) ?F
  case F =>
    intro w mg fa h KX G hmg
    refine' Lw.all_mk KX G hmg ?a_is_number ?l_is_number ?c_is_number ?k_is_number ?a_is_part ?l_is_part ?c_is_part ?k_is_part ?a_is_single ?l_is_single ?c_is_single ?k_is_single ?a_has_shape ?l_has_shape ?c_has_shape ?k_has_shape ?a_is_place ?l_is_place ?c_is_place ?k_is_place ?a_check_row ?l_check_row ?c_check_row ?k_check_row ?a_check_program ?l_check_program ?c_check_program ?k_check_program ?a_part_text ?l_part_text ?c_part_text ?k_part_text ?a_place_text ?l_place_text ?c_place_text ?k_place_text ?a_row_text ?l_row_text ?c_row_text ?k_row_text ?a_written ?l_written ?c_written ?k_written ?a_read_number ?l_read_number ?c_read_number ?k_read_number ?a_read_name ?l_read_name ?c_read_name ?k_read_name ?a_read_single ?l_read_single ?c_read_single ?k_read_single ?a_read_parts ?l_read_parts ?c_read_parts ?k_read_parts ?a_read_row ?l_read_row ?c_read_row ?k_read_row ?a_read_head ?l_read_head ?c_read_head ?k_read_head ?a_read ?l_read ?c_read ?k_read ?a_law_dice ?l_law_dice ?c_law_dice ?k_law_dice ?a_law_next ?l_law_next ?c_law_next ?k_law_next ?a_law_like ?l_law_like ?c_law_like ?k_law_like ?a_law_any_part ?l_law_any_part ?c_law_any_part ?k_law_any_part ?a_law_any_row ?l_law_any_row ?c_law_any_row ?k_law_any_row ?a_law_any_program ?l_law_any_program ?c_law_any_program ?k_law_any_program ?a_law_part_words ?l_law_part_words ?c_law_part_words ?k_law_part_words ?a_law_text_rows ?l_law_text_rows ?c_law_text_rows ?k_law_text_rows ?a_law ?l_law ?c_law ?k_law ?ad_PLACES ?z_reversed ?z_len ?z_range ?z_isinstance ?z_int ?z_bool ?z_str ?z_tuple ?z_list ?z_min ?z_max ?z_enumerate ?z_zip ?y_MOST_NAMES ?y_MOST_FILES ?y_MOST_ROWS ?y_MOST_DEEP ?y_TOP ?y_MOST_FIGURES ?h_places
    (case a_is_number => k_is)
    (case l_is_number => k_is)
    (case c_is_number => k_is)
    (case k_is_number => k_is)
    (case a_is_part => k_is)
    (case l_is_part => k_is)
    (case c_is_part => k_is)
    (case k_is_part => k_is)
    (case a_is_single => k_is)
    (case l_is_single => k_is)
    (case c_is_single => k_is)
    (case k_is_single => k_is)
    (case a_has_shape => k_is)
    (case l_has_shape => k_is)
    (case c_has_shape => k_is)
    (case k_has_shape => k_is)
    (case a_is_place => k_is)
    (case l_is_place => k_is)
    (case c_is_place => k_is)
    (case k_is_place => k_is)
    (case a_check_row => k_is)
    (case l_check_row => k_is)
    (case c_check_row => k_is)
    (case k_check_row => k_is)
    (case a_check_program => k_is)
    (case l_check_program => k_is)
    (case c_check_program => k_is)
    (case k_check_program => k_is)
    (case a_part_text => k_is)
    (case l_part_text => k_is)
    (case c_part_text => k_is)
    (case k_part_text => k_is)
    (case a_place_text => k_is)
    (case l_place_text => k_is)
    (case c_place_text => k_is)
    (case k_place_text => k_is)
    (case a_row_text => k_is)
    (case l_row_text => k_is)
    (case c_row_text => k_is)
    (case k_row_text => k_is)
    (case a_written => k_is)
    (case l_written => k_is)
    (case c_written => k_is)
    (case k_written => k_is)
    (case a_read_number => k_is)
    (case l_read_number => k_is)
    (case c_read_number => k_is)
    (case k_read_number => k_is)
    (case a_read_name => k_is)
    (case l_read_name => k_is)
    (case c_read_name => k_is)
    (case k_read_name => k_is)
    (case a_read_single => k_is)
    (case l_read_single => k_is)
    (case c_read_single => k_is)
    (case k_read_single => k_is)
    (case a_read_parts => k_is)
    (case l_read_parts => k_is)
    (case c_read_parts => k_is)
    (case k_read_parts => k_is)
    (case a_read_row => k_is)
    (case l_read_row => k_is)
    (case c_read_row => k_is)
    (case k_read_row => k_is)
    (case a_read_head => k_is)
    (case l_read_head => k_is)
    (case c_read_head => k_is)
    (case k_read_head => k_is)
    (case a_read => k_is)
    (case l_read => k_is)
    (case c_read => k_is)
    (case k_read => k_is)
    (case a_law_dice => k_is)
    (case l_law_dice => k_is)
    (case c_law_dice => k_is)
    (case k_law_dice => k_is)
    (case a_law_next => k_is)
    (case l_law_next => k_is)
    (case c_law_next => k_is)
    (case k_law_next => k_is)
    (case a_law_like => k_is)
    (case l_law_like => k_is)
    (case c_law_like => k_is)
    (case k_law_like => k_is)
    (case a_law_any_part => k_is)
    (case l_law_any_part => k_is)
    (case c_law_any_part => k_is)
    (case k_law_any_part => k_is)
    (case a_law_any_row => k_is)
    (case l_law_any_row => k_is)
    (case c_law_any_row => k_is)
    (case k_law_any_row => k_is)
    (case a_law_any_program => k_is)
    (case l_law_any_program => k_is)
    (case c_law_any_program => k_is)
    (case k_law_any_program => k_is)
    (case a_law_part_words => k_is)
    (case l_law_part_words => k_is)
    (case c_law_part_words => k_is)
    (case k_law_part_words => k_is)
    (case a_law_text_rows => k_is)
    (case l_law_text_rows => k_is)
    (case c_law_text_rows => k_is)
    (case k_law_text_rows => k_is)
    (case a_law => k_is)
    (case l_law => k_is)
    (case c_law => k_is)
    (case k_law => k_is)
    (case ad_PLACES => k_is)
    (case z_reversed => k_is)
    (case z_len => k_is)
    (case z_range => k_is)
    (case z_isinstance => k_is)
    (case z_int => k_is)
    (case z_bool => k_is)
    (case z_str => k_is)
    (case z_tuple => k_is)
    (case z_list => k_is)
    (case z_min => k_is)
    (case z_max => k_is)
    (case z_enumerate => k_is)
    (case z_zip => k_is)
    (case y_MOST_NAMES => k_is)
    (case y_MOST_FILES => k_is)
    (case y_MOST_ROWS => k_is)
    (case y_MOST_DEEP => k_is)
    (case y_TOP => k_is)
    (case y_MOST_FIGURES => k_is)
    (case h_places => kernel_rfl)
